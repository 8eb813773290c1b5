import PyProof.Rows.All
import Wide.All
import OpenK.AllK
import Wide.FinOn
import Lean
import PyProof.EqAt
import PyProof.EqKinds
import PyProof.TupleCall
import PySem.Challenge.RW_stripmeld_k42_whole_parted_and_joined
set_option Elab.async false
set_option linter.all false
set_option maxRecDepth 100000
noncomputable section
def Yn:=@List.length_map
def Yo:=@List.getElem?_eq_getElem
def Yp:=@PySem.wpAny_bind
def Yq:=@if_neg
def Yr:=@if_pos
def Ys:=@decide_eq_true
def Yt:=@PySem.wpAny_pure
def Yu:=@PySem.Heap.get?_push_of_some
def Yv:=@of_decide_eq_true
def Yw:=@List.zip_cons_cons
def Yx:=@Nat.le_refl
def Yy:=@List.length_append
def Yz:=@List.getElem?_map
def Y0:=@List.mem_singleton
def Y1:=@List.getD_eq_getElem?_getD
def Y2:=@Option.some.inj
def Y3:=@PySem.Heap.lt_size
def Y4:=@List.zip_nil_right
def Y5:=@List.mem_cons
def Y6:=@PySem.Heap.get?_push_size
def Y7:=@Nat.le_trans
def Y8:=@List.size_toArray
def Y9:=@Bool.false_ne_true
def YA:=@List.map_cons
def YB:=@decide_eq_false
def YC:=@List.length_cons
def YD:=@List.map_append
def YE:=@List.mem_of_getElem?
def YF:=@List.mem_cons_of_mem
def YG:=@List.getElem?_eq_some_iff
def YH:=@List.getElem_mem
def YI:=@PySem.PassesOwn.never
def YJ:=@List.mem_append
def YK:=@List.mem_cons_self
def YL:=@Nat.ne_of_lt
def YM:=@PySem.F.plainAttrs_list
def YN:=@List.getElem?_append_right
def YO:=@List.mem_filter
def YQ:=@List.getElem?_append_left
def YR:=@List.mem_append_right
def YS:=@congrArg
def YT:=@List.mem_map
def YU:=@Nat.add_le_add
def YV:=@Classical.byContradiction
def YW:=@Nat.lt_of_lt_of_le
def YX:=@List.nodup_cons
def YY:=@Int.toNat_natCast
def YZ:=@List.length_singleton
def Wa:=@PySem.W.mg_none_of
def Wb:=@Array.length_toList
def Wc:=@List.zip_nil_left
def Wd:=@List.getElem?_cons_succ
def We:=@List.append_nil
def Wf:=@List.take_succ_eq_append_getElem
def Wg:=@Classical.not_not
def Wh:=@List.map_map
def Wi:=@PySem.F.slot_list_append
def Wj:=@PySem.F.type_list_append
def Wk:=@List.length_filter_le
def Wl:=@PySem.wpAny_newObj_type
def Wm:=@Bool.and_eq_true
def Wn:=@PySem.Heap.get?_update_self
def Wo:=@List.eq_nil_or_concat
def Wp:=@PySem.wpAny_mono
def Wq:=@PySem.Obj.data_mapFields
def Wr:=@List.length_take
def Ws:=@PySem.Heap.get?_update_other
def Wt:=@List.lookup_cons
def Wu:=@PySem.Heap.SameBut.update
def Wv:=@PySem.W.mg_of
def Ww:=@Array.getElem?_toList
def Wx:=@PySem.W.kia_one
def Wy:=@Nat.zero_le
def Wz:=@List.filterMap_cons
def W1:=@Array.getElem?_eq_getElem
def W2:=@List.length_set
def W3:=@List.concat_eq_append
def W4:=@List.getElem?_take_of_lt
def W5:=@Nat.lt_irrefl
def W6:=@List.mem_iff_getElem
def W7:=@List.length_eq_zero_iff
def W8:=@List.nodup_append
def W9:=@PyProof.Rows.boot_isinstance
def WA:=@beq_eq_false_iff_ne
def WB:=@List.length_pos_iff
def WC:=@List.cons_append
def WD:=@PySem.wpAny_setField
def WE:=@PySem.Obj.isFreed_of_fields
def WG:=@Nat.le_of_eq
def WH:=@PySem.F.slot_dict_valueiterator_next
def WI:=@List.dropLast_concat
def WJ:=@PySem.wpAny_typeNameOfWhole_valiter
def WK:=@List.getElem?_replicate
def WL:=@PySem.mem_of_lookup
def WM:=@PySem.wpAny_call_entry
def WN:=@List.pairwise_cons
def WO:=@PyProof.Rows.F.plain_set_update_loop
def WQ:=@Int.emod_lt_of_pos
def WR:=@PySem.wpAny_passesOwn
def WS:=@List.getElem?_eq_none
def WT:=@List.sum_cons
def WU:=@PySem.wpAny_truthy_bool
def WV:=@PySem.wpAny_setState_of
def WW:=@Nat.lt_succ_of_lt
def WX:=@List.mem_append_left
def WY:=@PySem.Around.under_plainId
def WZ:=@List.drop_eq_getElem_cons
def Qa:=@List.getLast?_concat
def Qb:=@PySem.Heap.size_push
def Qc:=@List.nodup_nil
def Qd:=@Nat.lt_succ_self
def Qe:=@List.all_eq_true
def Qf:=@List.take_length
def Qg:=@PySem.wpAny_typeNameOf_valiter
def Qh:=@List.any_cons
def Qi:=@Bool.true_and
def Qj:=@List.find?_cons
def Qk:=@PySem.codeAny_builtin
def Ql:=@Nat.add_sub_cancel
def Qm:=@List.cons.injEq
def Qn:=@Int.emod_nonneg
def Qo:=@List.take_of_length_le
def Qp:=@List.filterMap_eq_map'
def Qq:=@Bool.eq_false_iff
def Qr:=@decide_eq_true_eq
def Qs:=@PySem.codeAny_mono
def Qt:=@Nat.lt_trans
def Qu:=@List.filterMap_append
def Qv:=@Int.add_zero
def Qw:=@PySem.F.slot_list_pop
def Qx:=@PySem.F.type_list_pop
def Qy:=@PyProof.Rows.callWith_type1
def Qz:=@PySem.wpAny_holding
def Q0:=@Array.getElem?_eq_some_iff
def Q1:=@Nat.le_of_lt
def Q2:=@PySem.wpAny_Call_Name_kw
def Q3:=@PySem.F.args_tuple_add_2
def Q4:=@PyProof.Rows.F.entry_set_update_loop
def Q5:=@Bool.false_eq_true
def Q6:=@List.length_filterMap_le
def Q7:=@Bool.false_and
def Q8:=@PySem.F.entry_tuple_add
def Q9:=@PySem.wpAny_callSpecial?_slot
def QA:=@List.take_sublist
def QB:=@PySem.fits_of_scanBound
def QC:=@PySem.Obj.cls_mapFields
def QD:=@List.getElem?_set_self
def QE:=@Nat.le_succ
def QF:=@PySem.F.slot_tuple_add
def QG:=@Array.getElem?_eq_none
def QH:=@PySem.plainId_quiet
def QI:=@List.length_drop
def QJ:=@if_false
def QK:=@List.not_mem_nil
def QL:=@PySem.W.methodCall_KW
def QM:=@PySem.wpAny_isOneOf_valiter
def QN:=@List.getElem?_reverse
def QO:=@PySem.Heap.get?_none_of_le
def QP:=@List.getElem?_set_ne
def QR:=@PySem.wpAny_execs_nil
def QS:=@Bool.eq_iff_iff
def QT:=@Option.map_some
def QU:=@List.forIn_cons
def QV:=@List.pairwise_append
def QW:=@Nat.not_lt
def QX:=@List.mem_of_mem_take
def QY:=@Nat.pow_le_pow_right
def QZ:=@PySem.W.plainGet_of
def Va:=@List.filter_sublist
def Vb:=@List.length_reverse
def Vc:=@PySem.wpAny_field
def Vd:=@List.mem_filterMap
def Ve:=@PySem.W.callWith_K
def Vf:=@Nat.lt_of_le_of_lt
def Vg:=@List.map_singleton
def Vh:=@List.any_eq_false
def Vi:=@List.append_assoc
def Vj:=@List.ext_getElem?
def Vk:=@Bool.not_eq_true'
def Vl:=@List.length_range
def Vm:=@Nat.ne_of_gt
def Vn:=@List.map_nil
def Vo:=@Nat.sub_self
def Vp:=@Int.ne_of_lt
abbrev Za:=PySem.W.Frag
namespace L2
open PySem PySem.Spec PyProof.Rows
abbrev Key:=Sum Int Str
def Pl:Key->Value->Bool
 | .inl k,v=>Value.isInt k v
 | .inr x,v=>Value.isStrOf x v
def keyH (w:World):Key->Int
 | .inl k=>hashInt k
 | .inr x=>hashStr w x
def Ki:∀{k:Key}{v:Value},Pl k v=true->(∃i t,k=Sum.inl i/\v=Value.int i t)\/(∃x t,k=Sum.inr x/\v=Value.str x t)
 | .inl i,v,h=>by
  obtain⟨t,e⟩:=Value.isInt_shape (k:=i) (v:=v) h;exact .inl ⟨i,t,rfl,e⟩
 | .inr x,v,h=>by
  obtain⟨t,e⟩:=Value.isStrOf_shape (x:=x) (v:=v) h;exact .inr ⟨x,t,rfl,e⟩
def Zdg (i:Int) (t:Tok):Pl (.inl i) (.int i t)=true:=by simp[Pl,Value.isInt]
def O1 (x:Str) (t:Tok):Pl (.inr x) (.str x t)=true:=by simp[Pl,Value.isStrOf]
def HW (a b:Int):decide ((Sum.inl a:Key)=Sum.inl b)=(a==b):=by
 by_cases e:a=b
 ·subst e;simp
 ·have h:¬(Sum.inl a:Key)=Sum.inl b:=fun q=>e (Sum.inl.inj q);rw[YB h];exact(WA.mpr e).symm
def Ob (a b:Str):decide ((Sum.inr a:Key)=Sum.inr b)=decide (a=b):=by
 by_cases e:a=b
 ·subst e;simp
 ·have h:¬(Sum.inr a:Key)=Sum.inr b:=fun q=>e (Sum.inr.inj q);rw[YB h,YB e]
def Zaa (a:Int) (b:Str):decide ((Sum.inl a:Key)=Sum.inr b)=false:=YB (fun q=>nomatch q)
def Zbi (a:Str) (b:Int):decide ((Sum.inr a:Key)=Sum.inl b)=false:=YB (fun q=>nomatch q)
def Xj (prog:Program) (w:World):PySem.KeyKind prog w Key where
 is:=Pl
 hash:=keyH w
 inj:=fun v a b ha hb=>by
  rcases Ki ha with⟨i,t,rfl,rfl⟩|⟨x,t,rfl,rfl⟩
  ·rcases Ki hb with⟨j,u,rfl,e⟩|⟨y,u,rfl,e⟩
   ·injection e with e1 _;rw[e1]
   ·exact nomatch e
  ·rcases Ki hb with⟨j,u,rfl,e⟩|⟨y,u,rfl,e⟩
   ·exact nomatch e
   ·injection e with e1 _;rw[e1]
 byValue:=fun k v h=>by
  rcases Ki h with⟨i,t,rfl,rfl⟩|⟨x,t,rfl,rfl⟩<;>rfl
 pyHash:=fun hv h=>by
  rcases Ki hv with⟨i,t,rfl,rfl⟩|⟨x,t,rfl,rfl⟩
  ·exact wpAny_pyHash_int h
  ·exact wpAny_pyHash_str h
 eqBool:=fun hu hv h=>by
  rcases Ki hu with⟨i,t,rfl,rfl⟩|⟨x,t,rfl,rfl⟩
  ·rcases Ki hv with⟨j,u,rfl,rfl⟩|⟨y,u,rfl,rfl⟩
   ·rw[HW] at h;exact wpAny_eqBool_int h
   ·rw[Zaa] at h;exact SeqAt.EqAt.int_str i t y u _ _ _ _ h
  ·rcases Ki hv with⟨j,u,rfl,rfl⟩|⟨y,u,rfl,rfl⟩
   ·rw[Zbi] at h;exact SeqAt.EqAt.str_int x t j u _ _ _ _ h
   ·rw[Ob] at h;exact wpAny_eqBool_str h
 «strs»:=fun k x t v h=>by
  rcases Ki h with⟨i,u,rfl,e⟩|⟨y,u,rfl,e⟩
  ·exact nomatch e
  ·injection e with e1 _;subst e1;cases v<;>rfl
def Lv (prog:Program) (w:World) (i:Int) (t:Tok):(Xj prog w).is (.inl i) (.int i t)=true:=Zdg i t
def Rx (prog:Program) (w:World) (x:Str) (t:Tok):(Xj prog w).is (.inr x) (.str x t)=true:=O1 x t
inductive V where
 | non|bl (b:Bool)|int (i:Int)|str (x:Str)|byt (b:Array UInt8)|flt (b:UInt64)|ref (a:Addr)|ty (n:String)
 deriving DecidableEq
def RelV:V->Value->Prop
 | .non,u=>u=Value.none
 | .bl b,u=>u=Value.bool b
 | .int i,u=>∃t,u=Value.int i t
 | .str x,u=>∃t,u=Value.str x t
 | .byt b,u=>∃t,u=Value.bytes b t
 | .flt b,u=>∃t,u=Value.float b t
 | .ref a,u=>u=Value.ref a
 | .ty n,u=>u=Value.type n
abbrev Vals:List V->List Value->Prop:=Paired RelV
def Vals.length {xs:List V}{us:List Value} (r:Vals xs us):xs.length=us.length:=Paired.length r
def Vals.get:∀{xs:List V}{us:List Value}{i:Nat}{x:V},Vals xs us->xs[i]?=some x->∃u,us[i]?=some u/\RelV x u
 | _,_,_,_,.nil,e=>by simp at e
 | _,_,0,_,.cons r _,e=>by simp at e;subst e;exact⟨_,rfl,r⟩
 | _,_,i+1,x,.cons _ t,e=>by
  obtain⟨u,h1,h2⟩:=Vals.get (i:=i) (x:=x) t (by simpa using e);exact⟨u,by simpa using h1,h2⟩
def Vals.append:∀{xs ys:List V}{us ws:List Value},Vals xs us->Vals ys ws->Vals (xs++ys) (us++ws)
 | _,_,_,_,.nil,s=>s
 | _,_,_,_,.cons r t,s=>.cons r (Vals.append t s)
def Vals.take:∀{xs:List V}{us:List Value} (n:Nat),Vals xs us->Vals (xs.take n) (us.take n)
 | _,_,0,_=>.nil
 | _,_,_+1,.nil=>.nil
 | _,_,n+1,.cons r t=>.cons r (Vals.take n t)
def Vals.drop:∀{xs:List V}{us:List Value} (n:Nat),Vals xs us->Vals (xs.drop n) (us.drop n)
 | _,_,0,r=>r
 | _,_,_+1,.nil=>.nil
 | _,_,n+1,.cons _ t=>Vals.drop n t
def RelO:Option V->Option Value->Prop
 | some v,some u=>RelV v u
 | none,none=>True
 | _,_=>False
def KV {κ:Type}:List (κ×V)->List (κ×Value)->Prop:=Paired fun(p:κ×V) (q:κ×Value)=>p.1=q.1/\RelV p.2 q.2
def kV:Key->V
 | .inl i=>.int i
 | .inr x=>.str x
inductive HO where
 | lst (xs:List V)
 | tup (xs:List V)
 | dK (kvs:List (Key×V))|dT (kvs:List (List Key×V))
 | set (S:Int->Bool) (n:Nat)
 | ins (C dx:Addr) (fs:List (Str×V))
 | own (x:Addr)
 | xd (fs:List (Str×V))
 | met (f x:Addr)
 | rng (lo hi:Int)
 | frz (o:Obj) (u:HO)
 | tbl (ps:Array Value)
 | ext (φ:Heap->Prop)
abbrev Hp:=Addr->Option HO
def upd (H:Hp) (a:Addr) (o:HO):Hp:=fun b=>if b=a then some o else H b
def Uj {H:Hp}{a:Addr}{o:HO}:upd H a o a=some o:=by unfold upd;rw[Yr rfl]
def JW {H:Hp}{a b:Addr}{o:HO} (h:b≠a):upd H a o b=H b:=by unfold upd;rw[Yq h]
def O2 {H:Hp}{a:Addr}{o u:HO}:upd (upd H a o) a u=upd H a u:=by
 funext b;unfold upd;split<;>rfl
def DA {H:Hp}{a b:Addr}{o u:HO} (h:H a=some o) (h':H b=some u) (d:o≠u):a≠b:=by
 intro e;subst e;rw[h] at h';exact d (Y2 h')
def Xs {H:Hp}{a b:Addr}{o:HO} (h:H a=some o) (h':H b=none):a≠b:=by
 intro e;subst e;rw[h] at h';cases h'
section
variable (P:Program) (w:World)
def ObjOk (H:Hp) (h:Heap) (a:Addr):HO->Prop
 | .lst xs=>xs.length<=sizeLine/\∃(its:List Value) (n:Nat),Vals xs its/\h.get? a=some { cls:=.type "list",data:=.seq its.toArray n }
 | .tup xs=>xs.length<=sizeLine/\∃its:List Value,Vals xs its/\IsTup h a its.toArray
 | .dK kvs=>kvs.length<=sizeLine/\(a==sysModules)=false/\∃vs,KV kvs vs/\h.DictOf (Xj P w) a vs
 | .dT kvs=>kvs.length<=sizeLine/\(a==sysModules)=false/\∃xs:List (List Key×Addr×Value),
   Paired (fun(p:List Key×V) (q:List Key×Addr×Value)=>p.1=q.1/\H q.2.1=some (.tup (p.1.map kV))/\RelV p.2 q.2.2) kvs xs/\
   ∃o es ep,h.get? a=some o/\o.ExactDict/\o.data=.dict es ep/\es.toList=xs.map (entryOfKey (tupleKind (Xj P w)))/\(xs.map (·.1)).Nodup
 | .set S n=>h.SetOf (intKind P w) a S n
 | .ins C dx fs=>H dx=some (.own a)/\fs.length<=1000/\dx≠a/\h.get? a=some (PySem.W.instObj C dx)/\
   ∃mA,h.Ns1 dx mA/\(∀f,RelO (fs.lookup f) (mA f))/\PySem.Within mA (fs.map (·.1))
 | .own _=>∃o,h.get? a=some o
 | .xd fs=>∃mA,h.Ns1 a mA/\∀f,RelO (fs.lookup f) (mA f)
 | .rng lo hi=>∃t u v,h.get? a=some { cls:=.type "range",data:=.fields #[.int lo t,.int hi u,.int 1 v] }
 | .frz o u=>h.get? a=some o/\ObjOk H h a u
 | .tbl ps=>h.get? a=some { cls:=.none,data:=.fields ps }
 | .met f x=>h.get? a=some (PySem.W.methodObj (.ref f) (.ref x))
 | .ext φ=>φ h/\(∃o,h.get? a=some o)/\∀h1 h2:Heap,φ h1->(∀o,h1.get? a=some o->h2.get? a=some o)->φ h2
def HOk (H:Hp) (h:Heap):Prop:=∀a o,H a=some o->ObjOk P w H h a o
end
section
variable {P:Program}{w:World}{H H':Hp}{h h':Heap}{a:Addr}{o:HO}
def ObjOk.lt (x:ObjOk P w H h a o):a<h.objs.size:=by
 cases o with
 | lst xs=>obtain⟨_,_,_,_,e⟩:=x;exact Y3 e
 | tup xs=>obtain⟨_,_,_,p⟩:=x;exact p.lt
 | dK kvs=>obtain⟨_,_,_,_,o,_,_,e,_⟩:=x;exact Y3 e
 | dT kvs=>obtain⟨_,_,_,_,o,_,_,e,_⟩:=x;exact Y3 e
 | set S n=>obtain⟨o,_,_,_,e,_⟩:=x;exact Y3 e
 | ins C dx fs=>obtain⟨_,_,_,e,_⟩:=x;exact Y3 e
 | own y=>obtain⟨_,e⟩:=x;exact Y3 e
 | xd fs=>obtain⟨_,⟨_,_,_,e,_⟩,_⟩:=x;exact Y3 e
 | rng lo hi=>obtain⟨_,_,_,e⟩:=x;exact Y3 e
 | frz ob u=>obtain⟨e,_⟩:=x;exact Y3 e
 | tbl ps=>exact Y3 (show h.get? a=some _ from x)
 | met f y=>exact Y3 (show h.get? a=some _ from x)
 | ext φ=>obtain⟨_,⟨_,e⟩,_⟩:=x;exact Y3 e
def Paired.mapP {α β:Type}{F G:α->β->Prop}:∀{l₁:List α}{l₂:List β},Paired F l₁ l₂->(∀a b,F a b->G a b)->Paired G l₁ l₂
 | _,_,.nil,_=>.nil
 | _,_,.cons r t,f=>.cons (f _ _ r) (Paired.mapP t f)
def ObjOk.stay (x:ObjOk P w H h a o) (k:∀b u,(b=a\/H b=some (.own a))->h.get? b=some u->h'.get? b=some u)
  (ho:∀b,H b=some (.own a)->H' b=some (.own a)) (ht:∀b xs,H b=some (.tup xs)->H' b=some (.tup xs)):ObjOk P w H' h' a o:=by
 induction o with
 | lst xs=>obtain⟨z,its,n,r,e⟩:=x;exact⟨z,its,n,r,k _ _ (.inl rfl) e⟩
 | tup xs=>obtain⟨z,its,r,ob,e,c⟩:=x;exact⟨z,its,r,ob,k _ _ (.inl rfl) e,c⟩
 | dK kvs=>obtain⟨z,y,vs,r,ob,es,ep,e,c⟩:=x;exact⟨z,y,vs,r,ob,es,ep,k _ _ (.inl rfl) e,c⟩
 | dT kvs=>
  obtain⟨z,y,xs,r,ob,es,ep,e,c⟩:=x;exact⟨z,y,xs,Paired.mapP r fun p q z=>⟨z.1,ht _ _ z.2.1,z.2.2⟩,ob,es,ep,k _ _ (.inl rfl) e,c⟩
 | set S n=>obtain⟨ob,es,ep,t,e,c⟩:=x;exact⟨ob,es,ep,t,k _ _ (.inl rfl) e,c⟩
 | ins C dx fs=>
  obtain⟨d,z,ne,e,mA,⟨od,es,ep,e2,c⟩,r⟩:=x;exact⟨ho _ d,z,ne,k _ _ (.inl rfl) e,mA,⟨od,es,ep,k _ _ (.inr d) e2,c⟩,r⟩
 | own y=>obtain⟨ob,e⟩:=x;exact⟨ob,k _ _ (.inl rfl) e⟩
 | xd fs=>obtain⟨mA,⟨od,es,ep,e,c⟩,r⟩:=x;exact⟨mA,⟨od,es,ep,k _ _ (.inl rfl) e,c⟩,r⟩
 | rng lo hi=>obtain⟨t,u,v,e⟩:=x;exact⟨t,u,v,k _ _ (.inl rfl) e⟩
 | frz ob u ih=>obtain⟨e,q⟩:=x;exact⟨k _ _ (.inl rfl) e,ih q⟩
 | tbl ps=>
  have e:h.get? a=some { cls:=.none,data:=.fields ps }:=x;show h'.get? a=some { cls:=.none,data:=.fields ps };exact k a _ (.inl rfl) e
 | met f y=>
  have e:h.get? a=some (PySem.W.methodObj (.ref f) (.ref y)):=x;show h'.get? a=some (PySem.W.methodObj (.ref f) (.ref y));exact k a _ (.inl rfl) e
 | ext φ=>obtain⟨p,⟨o,e⟩,st⟩:=x;exact⟨st _ _ p fun o q=>k _ _ (.inl rfl) q,⟨o,k _ _ (.inl rfl) e⟩,st⟩
def HOk.lt (x:HOk P w H h) (e:H a=some o):a<h.objs.size:=(x a o e).lt
def HOk.fresh (x:HOk P w H h) (e:h.objs.size<=a):H a=none:=by
 cases q:H a with
 | none=>rfl
 | some u=>exact absurd (YW (x.lt q) e) (W5 _)
def HOk.kept (x:HOk P w H h) (k:∀b u,h.get? b=some u->h'.get? b=some u):HOk P w H h':=fun a o e=>
 (x a o e).stay (fun b u _ q=>k b u q) (fun _ q=>q) fun _ _ q=>q
def HOk.laid (x:HOk P w H h) (k:∀b u,h.get? b=some u->h'.get? b=some u) (hp:h.objs.size<=a) (new:ObjOk P w (upd H a o) h' a o):HOk P w (upd H a o) h':=fun b u e=>by
 have hn:=x.fresh hp;by_cases hb:b=a
 ·subst hb;rw[Uj] at e;cases e;exact new
 ·rw[JW hb] at e;exact(x b u e).stay (fun c v _ q=>k c v q) (fun c q=>by rw[JW (Xs q hn)];exact q) fun c xs q=>by rw[JW (Xs q hn)];exact q
end
def Rd (H:Hp) (a:Addr) (u:HO):Prop:=H a=some u\/∃o,H a=some (.frz o u)
def Rd.ok {P:Program}{w:World}{H:Hp}{h:Heap}{a:Addr}{u:HO} (r:Rd H a u) (x:HOk P w H h):ObjOk P w H h a u:=by
 rcases r with r|⟨o,r⟩
 ·exact x a u r
 ·obtain⟨_,q⟩:=x a _ r;exact q
def Mut:Option HO->Prop
 | some (.lst _)=>True
 | some (.dK _)=>True
 | some (.dT _)=>True
 | some (.set _ _)=>True
 | some (.ins _ _ _)=>True
 | some (.ext _)=>True
 | _=>False
section
variable {P:Program}{w:World}{H:Hp}{h h':Heap}{x e:Addr}{o':HO}
def HOk.write (ok:HOk P w H h) (mu:Mut (H x)) (he:e=x\/H e=some (.own x)) (k:∀b u,b≠e->h.get? b=some u->h'.get? b=some u) (heo:∃u,h'.get? e=some u)
  (new:ObjOk P w (upd H x o') h' x o'):HOk P w (upd H x o') h':=fun b u q=>by
 have nown:∀c y,H c=some (.own y)->c≠x:=fun c y r z=>by subst z;rw[r] at mu;exact mu
 have ntup:∀c xs,H c=some (.tup xs)->c≠x:=fun c xs r z=>by subst z;rw[r] at mu;exact mu
 by_cases hb:b=x
 ·subst hb;rw[Uj] at q;cases q;exact new
 ·rw[JW hb] at q;by_cases hbe:b=e
  ·have q':H b=some (.own x):=by
    rcases he with z|z
    ·exact absurd (hbe.trans z) hb
    ·rw[hbe];exact z
   rw[q] at q';cases q';obtain⟨v,hv⟩:=heo;exact⟨v,by rw[hbe];exact hv⟩
  ·refine(ok b u q).stay (fun c v hc r=>k c v ?_ r) (fun c r=>by rw[JW (nown c b r)];exact r) fun c xs r=>by rw[JW (ntup c xs r)];exact r
   rcases hc with rfl|hc
   ·exact hbe
   ·rintro rfl;rcases he with z|z
    ·exact nown c b hc z
    ·rw[hc] at z;cases z;exact hb rfl
end
structure Un (fs ex:List Addr) (H H':Hp) (h h':Heap):Prop where
 keep:∀b o,h.get? b=some o->H b=none->b∉fs->b∉ex->h'.get? b=some o
 slot:∀b o,h.get? b=some o->H b=none->b∈fs->b∉ex->∃sl,h'.get? b=some { o with slots:=sl }
 free:∀b o,h.get? b=some o->H b=none->b∉ex->H' b=none
 there:∀b o,h.get? b=some o->b∉ex->∃o',h'.get? b=some o'
 tups:∀b xs,H b=some (.tup xs)->H' b=some (.tup xs)
 frzs:∀b o u,H b=some (.frz o u)->H' b=some (.frz o u)
 tbls:∀b ps,H b=some (.tbl ps)->∃more,H' b=some (.tbl (ps++more))
section
variable {fs fs' ex ex':List Addr}{H H1 H2:Hp}{h h1 h2 h':Heap}{a x e:Addr}{o:HO}
def Un.any (u:Un fs ex H H1 h h1) {b:Addr}{ob:Obj} (q:h.get? b=some ob) (n:H b=none) (hx:b∉ex):∃sl,h1.get? b=some { ob with slots:=sl }:=by
 by_cases hb:b∈fs
 ·exact u.slot b ob q n hb hx
 ·exact⟨ob.slots,u.keep b ob q n hb hx⟩
def Un.kept (k:∀b u,h.get? b=some u->h'.get? b=some u):Un fs ex H H h h':=
 ⟨fun b ob q _ _ _=>k b ob q,fun b ob q _ _ _=>⟨ob.slots,k b ob q⟩,fun _ _ _ n _=>n,fun b ob q _=>⟨ob,k b ob q⟩,fun _ _ q=>q,fun _ _ _ q=>q,fun _ ps q=>⟨#[],by rw[q];simp⟩⟩
def Un.refl:Un fs ex H H h h:=Un.kept fun _ _ q=>q
def Un.laid (k:∀b u,h.get? b=some u->h'.get? b=some u) (hp:h.objs.size<=a) (hn:H a=none):Un fs ex H (upd H a o) h h' where
 keep:=fun b u q _ _ _=>k b u q
 slot:=fun b u q _ _ _=>⟨u.slots,k b u q⟩
 free:=fun b u q n _=>by rw[JW (YL (YW (Y3 q) hp))];exact n
 there:=fun b u q _=>⟨u,k b u q⟩
 tups:=fun b xs q=>by rw[JW (Xs q hn)];exact q
 frzs:=fun b u xs q=>by rw[JW (Xs q hn)];exact q
 tbls:=fun b ps q=>⟨#[],by rw[JW (Xs q hn),q];simp⟩
def Un.write (mu:Mut (H x)) (he:e=x\/H e=some (.own x)) (k:∀b u,b≠e->h.get? b=some u->h'.get? b=some u) (heo:∃u,h'.get? e=some u):Un fs ex H (upd H x o) h h':=by
 have hx:∀b,H b=none->b≠x:=fun b n z=>by subst z;rw[n] at mu;exact mu
 have hb:∀b,H b=none->b≠e:=fun b n z=>by
  subst z;rcases he with r|r
  ·exact hx b n r
  ·rw[n] at r;cases r
 have hm:∀b u,H b=some u->¬Mut (some u)->b≠x:=fun b u q nm z=>by subst z;rw[q] at mu;exact nm mu
 refine⟨fun b u q n _ _=>k b u (hb b n) q,fun b u q n _ _=>⟨u.slots,k b u (hb b n) q⟩,fun b u q n _=>by rw[JW (hx b n)];exact n,fun b u q _=>?_,
  fun b xs q=>by rw[JW (hm b _ q fun z=>z)];exact q,fun b u xs q=>by rw[JW (hm b _ q fun z=>z)];exact q,fun b ps q=>⟨#[],by rw[JW (hm b _ q fun z=>z),q];simp⟩⟩
 by_cases hbe:b=e
 ·subst hbe;exact heo
 ·exact⟨u,k b u hbe q⟩
end
def trk (h:Heap) (H:Hp):List Addr:=(List.range h.objs.size).filter fun a=>(H a).isSome
def hidT (h:Heap) (H:Hp):Heap:=PySem.W.hideAll h (trk h H)
def GV (h:Heap) (H:Hp):(hidT h H).objs.size=h.objs.size:=PySem.W.hideAll_size _ _
def Me {h:Heap}{H:Hp}{b:Addr}{o:Obj} (e:h.get? b=some o) (n:H b=none):(hidT h H).get? b=some o:=
 PySem.W.hideAll_get _ e fun hm=>by
  have q:(H b).isSome=true:=(YO.mp hm).2;rw[n] at q;simp at q
def Zdj {h:Heap}{H:Hp}{b:Addr}{o:Obj} (e:(hidT h H).get? b=some o):h.get? b=some o/\H b=none:=by
 have e':h.get? b=some o:=PySem.W.of_hideAll (trk h H) e;refine⟨e',?_⟩;cases q:H b with
 | none=>rfl
 | some x=>
  have hm:b∈trk h H:=YO.mpr ⟨List.mem_range.mpr (Y3 e'),by simp[q]⟩;have z:(hidT h H).get? b=none:=PySem.W.hideAll_none (trk h H) hm;rw[z] at e;cases e
def Hz (g h:Heap) (L:Addr):List (Addr×Obj):=(List.range h.objs.size).filterMap fun a=>if a=L\/(g.get? a).isSome=true then none else(h.get? a).map fun o=>(a,o)
def rest (g h:Heap) (L d:Addr):List (Addr×Obj):=(Hz g h L).filter fun p=>decide (p.1≠d)
structure Mod (K:Za) (mg:Str->Option Value) (base:Heap):Prop where
 kin:K.In base
 glob:base.Ns mainGlobals mg
 blt:∃mb,base.Ns builtinsNs mb/\∀x:Str,x≠"__name__"->mb x=bootBuiltins x
 nolimit:base.NoLimit
structure Cx where
 prog:Program
 w:World
 K:Za
 mg:Str->Option Value
 base:Heap
 A:Around
 N:List Str
 s₀:Shared
 H₀:Hp
 env:Env
 outer:List Env
 stack:List Env
 ex:List Addr
 fn:Str->Bool
 calm:Bool
 pn:List (Addr×Obj)
 xe:Value->Shared->Prop
def frs (l:List Env):List Addr:=l.filterMap (·.frame)
abbrev Cx.fs (X:Cx):List Addr:=frs X.outer
def Vis (sc:Scope) (x:Str):Prop:=sc.names.lookup x=some .local\/sc.names.lookup x=some .cell\/sc.names.lookup x=some .free
def Loc (sc:Scope) (x:Str):Prop:=sc.names.lookup x=some .local\/sc.names.lookup x=some .cell
def Look (env:Env) (h:Heap) (m:Str->Option Value) (x:Str) (u:Value):Prop:=
 (env.kindOf x=some .local/\m x=some u)\/((env.kindOf x=some .cell\/env.kindOf x=some .free)/\∃c,env.cells.lookup x=some c/\h.IsCell c (some u))
structure Cx.Ok (X:Cx):Prop where
 mod:Mod X.K X.mg X.base
 kind:X.env.scope.kind=.function
 glob:X.env.globals=mainGlobals
 blt:X.env.builtins=builtinsNs
 above:X.s₀.heap.objs.size<=X.env.locals
 inj:∀x y c,X.env.cells.lookup x=some c->X.env.cells.lookup y=some c->x=y
 has:∀x,(X.env.kindOf x=some .cell\/X.env.kindOf x=some .free)->∃c,X.env.cells.lookup x=some c
 cab:∀x c,X.fn x=true->X.env.cells.lookup x=some c->X.s₀.heap.objs.size<=c
 hd:X.calm=true->X.A.handled=none
 frames:X.A.frames=some X.stack
 stk:X.stack=X.outer\/(X.stack=X.env::X.outer/\X.env.frame=some X.env.locals)
 exf:∀b∈X.ex,b≠X.env.locals/\∀x c,X.env.cells.lookup x=some c->c≠b
 bs:∀b o,X.base.get? b=some o->X.s₀.heap.get? b=some o/\X.H₀ b=none
 bsz:X.base.objs.size<=X.s₀.heap.objs.size
 noex:∀b o,X.base.get? b=some o->b∉X.ex
 exfs:∀b∈X.ex,b∉X.fs
 funs:X.s₀.heap.FunFrames X.base X.outer
 frf:∀b∈X.fs,X.H₀ b=none
structure Inv (X:Cx) (pins:List (Addr×Obj)) (σ:List (Option V)) (H:Hp) (s:Shared):Prop where
 ok:X.Ok
 os:s.os=X.s₀.os
 bare:AllBare s.gens
 base:Un X.fs X.ex X.H₀ H X.s₀.heap s.heap
 loc:∃m,s.heap.Ns X.env.locals m/\∀(i:Nat) (x:Str) (v:V),X.N[i]?=some x->σ[i]?=some (some v)->Vis X.env.scope x->∃u,RelV v u/\Look X.env s.heap m x u
 cell:∀x c,X.env.cells.lookup x=some c->∃v,s.heap.IsCell c v
 free:H X.env.locals=none
 freeC:∀x c,X.env.cells.lookup x=some c->H c=none
 pin:∀p∈X.pn++pins,s.heap.get? p.1=some p.2/\H p.1=none/\p.1≠X.env.locals/\p.1∉X.fs/\∀v,p.2.data≠.cell v
 hok:HOk X.prog X.w H s.heap
 len:σ.length=X.N.length
section
variable {X:Cx}{pins:List (Addr×Obj)}{σ:List (Option V)}{H H':Hp}{s:Shared}{h':Heap}
def Cx.Ok.nofr (ok:X.Ok) {b:Addr}{o:Obj} (e:X.base.get? b=some o):b∉X.fs:=fun hb=>by
 have:=(ok.funs.mem hb).1
 rw[e] at this;cases this
def Inv.bs (I:Inv X pins σ H s):∀b o,X.base.get? b=some o->s.heap.get? b=some o/\H b=none:=fun b o e=>
 ⟨I.base.keep b o (I.ok.bs b o e).1 (I.ok.bs b o e).2 (I.ok.nofr e) (I.ok.noex b o e),I.base.free b o (I.ok.bs b o e).1 (I.ok.bs b o e).2 (I.ok.noex b o e)⟩
def Inv.bk (I:Inv X pins σ H s):∀b o,X.base.get? b=some o->s.heap.get? b=some o:=fun b o e=>(I.bs b o e).1
def Inv.mod (I:Inv X pins σ H s):Mod X.K X.mg X.base:=I.ok.mod
def Inv.kIn (I:Inv X pins σ H s):X.K.In s.heap:=I.ok.mod.kin.keeps I.bk
def Inv.lt (I:Inv X pins σ H s):X.env.locals<s.heap.objs.size:=let ⟨_,hn,_⟩:=I.loc;hn.lt
def Inv.sz (I:Inv X pins σ H s):X.s₀.heap.objs.size<=s.heap.objs.size:=Y7 I.ok.above (Q1 I.lt)
def Inv.nofs (I:Inv X pins σ H s) {a:Addr} (h:s.heap.objs.size<=a):a∉X.fs:=fun hb=>by
 obtain⟨_,o,ho,_⟩:=I.ok.funs.mem hb;exact absurd (YW (Y3 ho) (Y7 I.sz h)) (W5 _)
def Inv.cne (I:Inv X pins σ H s):∀x c,X.env.cells.lookup x=some c->c≠X.env.locals:=fun x c e z=>by
 obtain⟨v,o,ho,hd⟩:=I.cell x c e;obtain⟨m,⟨o',es,ep,ho',hd',_⟩,_⟩:=I.loc;rw[z,ho'] at ho;cases ho;rw[hd'] at hd;cases hd
def Inv.funs (I:Inv X pins σ H s):s.heap.FunFrames X.base X.outer:=by
 have all:∀(l:List Env),(∀b∈frs l,b∈X.fs)->X.s₀.heap.FunFrames X.base l->s.heap.FunFrames X.base l:=by
  intro l
  induction l with
  | nil=>intro _ _;trivial
  | cons env r ih=>
   intro hs hl;obtain⟨hk,⟨L,o,hf,hn,ho,hd⟩,hr⟩:=hl;have hL:L∈X.fs:=hs L (by unfold frs;rw[Wz,hf];exact YK);obtain⟨sl,e⟩:=I.base.slot L o ho (I.ok.frf L hL) hL fun z=>I.ok.exfs L z hL;exact⟨hk,⟨L,_,hf,hn,e,hd⟩,ih (fun b hb=>hs b (by unfold frs;rw[Wz,hf];exact YF _ hb)) hr⟩
 exact all X.outer (fun _ hb=>hb) I.ok.funs
def Inv.stack (I:Inv X pins σ H s):s.heap.FunFrames X.base X.stack:=by
 rcases I.ok.stk with e|⟨e,hf⟩
 ·rw[e];exact I.funs
 ·rw[e];obtain⟨m,hn,_⟩:=I.loc;refine .cons (by rw[I.ok.kind];decide) hf hn ?_ I.funs;exact QO (Y7 I.ok.bsz I.ok.above)
def Inv.stkSub (I:Inv X pins σ H s):∀b∈frs X.stack,b∈X.env.locals::X.fs:=fun b hb=>by
 rcases I.ok.stk with e|⟨e,hf⟩
 ·rw[e] at hb;exact YF _ hb
 ·rw[e] at hb;unfold frs at hb;rw[Wz,hf] at hb;exact hb
def Inv.stkFree (I:Inv X pins σ H s):∀b∈frs X.stack,H b=none:=fun b hb=>by
 rcases Y5.mp (I.stkSub b hb) with e|hb
 ·rw[e];exact I.free
 ·obtain⟨_,o,ho,_⟩:=I.ok.funs.mem hb;exact I.base.free b o ho (I.ok.frf b hb) fun z=>I.ok.exfs b z hb
def Inv.step {g':Array GenState}{t':Nat}{d':Drawn}{ch:List Addr} (I:Inv X pins σ H s)
  (hch:∀b∈ch,(b∈X.ex\/X.s₀.heap.objs.size<=b)/\b≠X.env.locals/\(∀x c,X.env.cells.lookup x=some c->c≠b)/\∀p∈X.pn++pins,p.1≠b)
  (keep:∀b o,b≠X.env.locals->b∉X.fs->b∉ch->s.heap.get? b=some o->H b=none->h'.get? b=some o)
  (slot:∀b o,b≠X.env.locals->b∈X.fs->b∉ch->s.heap.get? b=some o->H b=none->∃sl,h'.get? b=some { o with slots:=sl }) (free:∀b o,b∉ch->s.heap.get? b=some o->H b=none->H' b=none)
  (there:∀b o,b∉ch->s.heap.get? b=some o->∃o',h'.get? b=some o')
  (tups:∀b xs,H b=some (.tup xs)->H' b=some (.tup xs)) (frzs:∀b o u,H b=some (.frz o u)->H' b=some (.frz o u)) (tbls:∀b ps,H b=some (.tbl ps)->∃more,H' b=some (.tbl (ps++more)))
  (ns:∀m,s.heap.Ns X.env.locals m->h'.Ns X.env.locals m) (hok:HOk X.prog X.w H' h') (hg:AllBare g') :
  Inv X pins σ H' { s with heap:=h',gens:=g',drawn:=d',toks:=t' }:=by
 have neL:∀b o,X.s₀.heap.get? b=some o->b≠X.env.locals:=fun b o e=>YL (YW (Y3 e) I.ok.above)
 have neC:∀b o,X.s₀.heap.get? b=some o->b∉X.ex->b∉ch:=fun b o e hx hb=>by
  rcases(hch b hb).1 with z|z
  ·exact hx z
  ·exact absurd (YW (Y3 e) z) (W5 _)
 have cellK:∀x c,X.env.cells.lookup x=some c->∀v,s.heap.IsCell c v->h'.IsCell c v:=fun x c e v ⟨o,ho,hd⟩=>by
  have nch:c∉ch:=fun z=>(hch c z).2.2.1 x c e rfl;by_cases hc:c∈X.fs
  ·obtain⟨sl,q⟩:=slot c o (I.cne x c e) hc nch ho (I.freeC x c e);exact⟨_,q,hd⟩
  ·exact⟨o,keep c o (I.cne x c e) hc nch ho (I.freeC x c e),hd⟩
 refine⟨I.ok,I.os,hg,⟨fun b o e n hb hx=>?_,fun b o e n hb hx=>?_,fun b o e n hx=>?_,fun b o e hx=>?_,fun b xs e=>tups b xs (I.base.tups b xs e),fun b o xs e=>frzs b o xs (I.base.frzs b o xs e),fun b ps e=>?_⟩,?_,fun x c e=>?_,?_,fun x c e=>?_,fun p hp=>?_,hok,I.len⟩
 ·exact keep b o (neL b o e) hb (neC b o e hx) (I.base.keep b o e n hb hx) (I.base.free b o e n hx)
 ·obtain⟨sl,e1⟩:=I.base.slot b o e n hb hx;obtain⟨sl',e2⟩:=slot b _ (neL b o e) hb (neC b o e hx) e1 (I.base.free b o e n hx);exact⟨sl',e2⟩
 ·obtain⟨o',e1⟩:=I.base.there b o e hx;exact free b o' (neC b o e hx) e1 (I.base.free b o e n hx)
 ·obtain⟨o',e1⟩:=I.base.there b o e hx;exact there b o' (neC b o e hx) e1
 ·obtain⟨m1,e1⟩:=I.base.tbls b ps e;obtain⟨m2,e2⟩:=tbls b _ e1;exact⟨m1++m2,by rw[e2,Array.append_assoc]⟩
 ·obtain⟨m,hn,hl⟩:=I.loc;refine⟨m,ns m hn,fun i x v e1 e2 e3=>?_⟩;obtain⟨u,r,l⟩:=hl i x v e1 e2 e3;refine⟨u,r,?_⟩;rcases l with l|⟨k,c,e,z⟩
  ·exact .inl l
  ·exact .inr ⟨k,c,e,cellK x c e _ z⟩
 ·obtain⟨v,z⟩:=I.cell x c e;exact⟨v,cellK x c e v z⟩
 ·obtain⟨m,⟨o,_,_,ho,_⟩,_⟩:=I.loc;exact free _ o (fun z=>(hch _ z).2.1 rfl) ho I.free
 ·obtain⟨v,o,ho,hd⟩:=I.cell x c e;exact free c o (fun z=>(hch c z).2.2.1 x c e rfl) ho (I.freeC x c e)
 ·obtain⟨e,n,ne,nf,d⟩:=I.pin p hp;have nch:p.1∉ch:=fun z=>(hch p.1 z).2.2.2 p hp rfl;exact⟨keep p.1 p.2 ne nf nch e n,free p.1 p.2 nch e n,ne,nf,d⟩
def Inv.un {t':Nat} (I:Inv X pins σ H s) (u:Un X.fs [] H H' s.heap h') (hok:HOk X.prog X.w H' h'):Inv X pins σ H' { s with heap:=h',toks:=t' }:=by
 obtain⟨m,⟨o,es,ep,ho,r⟩,_⟩:=id I.loc;obtain⟨sl,hL⟩:=u.any ho I.free (by simp)
 exact I.step (g':=s.gens) (d':=s.drawn) (ch:=[]) (fun _ z=>nomatch z) (fun b o _ hb _ e n=>u.keep b o e n hb (by simp)) (fun b o _ hb _ e n=>u.slot b o e n hb (by simp)) (fun b o _ e n=>u.free b o e n (by simp)) (fun b o _ e=>u.there b o e (by simp)) u.tups u.frzs u.tbls (fun m' hm=>by
  obtain⟨o',es',ep',ho',r'⟩:=hm;rw[ho] at ho';cases ho';exact⟨_,es',ep',hL,r'⟩) hok I.bare
def Inv.call {g':Array GenState}{t':Nat}{d':Drawn}{ch:List Addr} (I:Inv X pins σ H s) (u:Un (frs X.stack) ch H H' s.heap h') (hok:HOk X.prog X.w H' h') (hg:AllBare g')
  (hch:∀b∈ch,(b∈X.ex\/X.s₀.heap.objs.size<=b)/\b≠X.env.locals/\(∀x c,X.env.cells.lookup x=some c->c≠b)/\∀p∈X.pn++pins,p.1≠b) :
  Inv X pins σ H' { s with heap:=h',gens:=g',drawn:=d',toks:=t' }:=by
 obtain⟨m,⟨o,es,ep,ho,r⟩,_⟩:=id I.loc;obtain⟨sl,hL⟩:=u.any ho I.free fun z=>(hch _ z).2.1 rfl
 exact I.step (ch:=ch) hch (fun b o hL hb hc e n=>u.keep b o e n (fun z=>(Y5.mp (I.stkSub b z)).elim hL hb) hc) (fun b o _ _ hc e n=>u.any e n hc) (fun b o hc e n=>u.free b o e n hc) (fun b o hc e=>u.there b o e hc) u.tups u.frzs u.tbls (fun m' hm=>by
  obtain⟨o',es',ep',ho',r'⟩:=hm;rw[ho] at ho';cases ho';exact⟨_,es',ep',hL,r'⟩) hok hg
def Inv.turned {t':Nat}{it:Addr} (I:Inv X pins σ H s) (k:∀b o,b≠it->s.heap.get? b=some o->h'.get? b=some o) (hn:H it=none) (hL:it≠X.env.locals)
  (h1:it∈X.ex\/X.s₀.heap.objs.size<=it) (h2:∀x c,X.env.cells.lookup x=some c->c≠it) (h3:∀p∈X.pn++pins,p.1≠it):Inv X pins σ H { s with heap:=h',toks:=t' }:=by
 have nit:∀b u,H b=some u->b≠it:=fun b u e z=>by rw[z,hn] at e;cases e
 refine I.step (g':=s.gens) (d':=s.drawn) (ch:=[it]) (fun b hb=>?_) (fun b o _ _ hc e _=>k b o (fun z=>hc (by simp[z])) e) (fun b o _ _ hc e _=>⟨o.slots,k b o (fun z=>hc (by simp[z])) e⟩) (fun _ _ _ _ n=>n)
  (fun b o hc e=>⟨o,k b o (fun z=>hc (by simp[z])) e⟩) (fun _ _ e=>e) (fun _ _ _ e=>e) (fun b ps e=>⟨#[],by rw[e];simp⟩) (fun m hm=>?_) (fun b u e=>?_) I.bare
 ·have e:b=it:=by simpa using hb
  subst e;exact⟨h1,hL,h2,h3⟩
 ·obtain⟨o,es,ep,ho,r⟩:=hm;exact⟨o,es,ep,k _ o (Ne.symm hL) ho,r⟩
 ·refine(I.hok b u e).stay (fun c v hc q=>k c v ?_ q) (fun _ q=>q) fun _ _ q=>q;rcases hc with z|z
  ·rw[z];exact nit b u e
  ·exact nit c _ z
def Inv.tok (I:Inv X pins σ H s) (t:Nat):Inv X pins σ H { s with toks:=t }:=I.un (h':=s.heap) (t':=t) Un.refl I.hok
def Inv.kept {t':Nat} (I:Inv X pins σ H s) (k:∀b u,s.heap.get? b=some u->h'.get? b=some u):Inv X pins σ H { s with heap:=h',toks:=t' }:=I.un (Un.kept k) (I.hok.kept k)
def Inv.laid {a:Addr}{o:HO}{t':Nat} (I:Inv X pins σ H s) (k:∀b u,s.heap.get? b=some u->h'.get? b=some u) (hp:s.heap.objs.size<=a) (new:ObjOk X.prog X.w (upd H a o) h' a o) :
  Inv X pins σ (upd H a o) { s with heap:=h',toks:=t' }:=I.un (Un.laid k hp (I.hok.fresh hp)) (I.hok.laid k hp new)
def Inv.write {x e:Addr}{o:HO}{t':Nat} (I:Inv X pins σ H s) (mu:Mut (H x)) (he:e=x\/H e=some (.own x)) (k:∀b u,b≠e->s.heap.get? b=some u->h'.get? b=some u) (heo:∃u,h'.get? e=some u)
  (new:ObjOk X.prog X.w (upd H x o) h' x o):Inv X pins σ (upd H x o) { s with heap:=h',toks:=t' }:=I.un (Un.write mu he k heo) (I.hok.write mu he k heo new)
def Inv.weak {σ':List (Option V)} (I:Inv X pins σ H s) (hl:σ'.length=σ.length) (w:∀(i:Nat) v,σ'[i]?=some (some v)->σ[i]?=some (some v)):Inv X pins σ' H s:=
 ⟨I.ok,I.os,I.bare,I.base,let ⟨m,hn,hl'⟩:=I.loc;⟨m,hn,fun i x v e1 e2 e3=>hl' i x v e1 (w i v e2) e3⟩,I.cell,I.free,I.freeC,I.pin,I.hok,hl.trans I.len⟩
def Inv.pins_of {pins':List (Addr×Obj)} (I:Inv X pins σ H s) (h:∀p∈pins',s.heap.get? p.1=some p.2/\H p.1=none/\p.1≠X.env.locals/\p.1∉X.fs/\∀v,p.2.data≠.cell v):Inv X pins' σ H s:=
 ⟨I.ok,I.os,I.bare,I.base,I.loc,I.cell,I.free,I.freeC,fun p hp=>(YJ.mp hp).elim (fun z=>I.pin p (WX _ z)) (h p),I.hok,I.len⟩
def GH {N:List Str} (hN:N.Nodup) {i j:Nat}{x:Str} (a:N[i]?=some x) (b:N[j]?=some x):i=j:=by
 obtain⟨h1,e1⟩:=YG.mp a;obtain⟨h2,e2⟩:=YG.mp b;exact(List.getElem_inj hN).mp (e1.trans e2.symm)
def Rv {M:Model}{A:Around}{E:Value->Shared->Prop}{i:Nat}{x:Str}{v:V}{u:Value}{Q:Unit->Shared->Prop} (I:Inv X pins σ H s) (hN:X.N.Nodup) (hi:X.N[i]?=some x) (hx:Loc X.env.scope x) (r:RelV v u)
  (h:∀s',Inv X pins (σ.set i (some v)) H s'->(∃a,Heap.SameBut a s.heap s'.heap/\(a=X.env.locals\/X.env.cells.lookup x=some a))->Q () s') (hf:X.fn x=true\/X.env.scope.names.lookup x=some .local:=by first|exact .inl rfl|exact .inr rfl|assumption):wpAny M A (storeName X.env x u) Q E s:=by
 obtain⟨m,hn,hl⟩:=id I.loc;have hcls:(X.env.scope.kind == .class || (X.env.scope.kind == .module&&X.env.locals != X.env.globals))=false:=by rw[I.ok.kind];rfl
 have hiσ:i<σ.length:=by rw[I.len];exact(YG.mp hi).1
 have cne:=I.cne
 have tracked:∀{a:Addr} {h':Heap},(∃o,s.heap.get? a=some o/\H a=none)->Heap.SameBut a s.heap h'->HOk X.prog X.w H h':=fun {a h'} ha hs b ob e=>by
  obtain⟨_,_,hfree⟩:=ha;refine(I.hok b ob e).stay (fun c w' hc q=>(hs.2 c ?_).trans q) (fun _ q=>q) fun _ _ q=>q;rintro rfl;rcases hc with rfl|hc
  ·rw[hfree] at e;cases e
  ·rw[hfree] at hc;cases hc
 rcases hx with hk|hk
 ·refine wpAny_storeName_local hk hn (fun h' hn' hs=>?_) hcls;obtain⟨oL,_,_,hoL,_⟩:=id hn;refine h _ ⟨I.ok,I.os,I.bare,⟨fun b o e n hb hx=>?_,fun b o e n hb hx=>?_,I.base.free,fun b o e hx=>?_,I.base.tups,I.base.frzs,I.base.tbls⟩,⟨_,hn',fun j y v' e1 e2 e3=>?_⟩,fun y c e=>?_,I.free,I.freeC,fun p hp=>?_,tracked ⟨oL,hoL,I.free⟩ hs,by simpa using I.len⟩ ⟨_,hs,.inl rfl⟩
  ·exact(hs.2 b (YL (YW (Y3 e) I.ok.above))).trans (I.base.keep b o e n hb hx)
  ·obtain⟨sl,e1⟩:=I.base.slot b o e n hb hx;exact⟨sl,(hs.2 b (YL (YW (Y3 e) I.ok.above))).trans e1⟩
  ·obtain⟨o',e1⟩:=I.base.there b o e hx;exact⟨o',(hs.2 b (YL (YW (Y3 e) I.ok.above))).trans e1⟩
  ·by_cases hj:j=i
   ·subst hj;rw[hi] at e1;cases e1;rw[QD hiσ] at e2;cases e2
    exact⟨u,r,.inl ⟨hk,by simp⟩⟩
   ·rw[QP (Ne.symm hj)] at e2;obtain⟨u',r',q⟩:=hl j y v' e1 e2 e3;refine⟨u',r',?_⟩;rcases q with⟨k,e⟩|⟨k,c,e,z⟩
    ·refine .inl ⟨k,?_⟩
     have:y≠x:=fun e=>hj (GH hN e1 (e▸hi))
     simp[this,e]
    ·exact .inr ⟨k,c,e,z.sameBut hs (cne y c e)⟩
  ·obtain⟨w',z⟩:=I.cell y c e;exact⟨w',z.sameBut hs (cne y c e)⟩
  ·obtain⟨e,n,ne,nf,d⟩:=I.pin p hp;exact⟨(hs.2 p.1 ne).trans e,n,ne,nf,d⟩
 ·have hfn:X.fn x=true:=by
   rcases hf with z|z
   ·exact z
   ·rw[z] at hk;cases hk
  obtain⟨c,hc⟩:=I.ok.has x (.inl hk);obtain⟨w',z⟩:=I.cell x c hc;refine wpAny_storeName_cell I.ok.kind hk hc z (fun h' hc' hs=>?_);obtain⟨oc,hoc,hocd⟩:=id z;refine h { s with heap:=h' } ⟨I.ok,I.os,I.bare,⟨fun b o e n hb hx=>?_,fun b o e n hb hx=>?_,I.base.free,fun b o e hx=>?_,I.base.tups,I.base.frzs,I.base.tbls⟩,⟨m,hn.sameBut hs (Ne.symm (cne x c hc)),fun j y v' e1 e2 e3=>?_⟩,fun y c' e=>?_,I.free,I.freeC,fun p hp=>?_,tracked ⟨oc,hoc,I.freeC x c hc⟩ hs,by simpa using I.len⟩ ⟨c,hs,.inr hc⟩
  ·exact(hs.2 b (YL (YW (Y3 e) (I.ok.cab x c hfn hc)))).trans (I.base.keep b o e n hb hx)
  ·obtain⟨sl,e1⟩:=I.base.slot b o e n hb hx;exact⟨sl,(hs.2 b (YL (YW (Y3 e) (I.ok.cab x c hfn hc)))).trans e1⟩
  ·obtain⟨o',e1⟩:=I.base.there b o e hx;exact⟨o',(hs.2 b (YL (YW (Y3 e) (I.ok.cab x c hfn hc)))).trans e1⟩
  ·by_cases hj:j=i
   ·subst hj;rw[hi] at e1;cases e1;rw[QD hiσ] at e2;cases e2
    exact⟨u,r,.inr ⟨.inl hk,c,hc,hc'⟩⟩
   ·rw[QP (Ne.symm hj)] at e2;obtain⟨u',r',q⟩:=hl j y v' e1 e2 e3;refine⟨u',r',?_⟩;rcases q with q|⟨k,c',e,z'⟩
    ·exact .inl q
    ·refine .inr ⟨k,c',e,z'.sameBut hs ?_⟩;rintro rfl;exact hj (GH hN e1 (I.ok.inj _ _ _ e hc▸hi))
  ·by_cases hcc:c'=c
   ·subst hcc;exact⟨_,hc'⟩
   ·obtain⟨w2,z2⟩:=I.cell y c' e;exact⟨w2,z2.sameBut hs hcc⟩
  ·obtain⟨e,n,ne,nf,d⟩:=I.pin p hp;refine⟨(hs.2 p.1 ?_).trans e,n,ne,nf,d⟩;intro q;rw[q,hoc] at e;have q':oc=p.2:=Y2 e;exact d w' (by rw[←q'];exact hocd)
def Np {M:Model}{A:Around}{E:Value->Shared->Prop}{i:Nat}{x:Str}{v:V}{u:Value}{Q:Unit->Shared->Prop} (I:Inv X pins σ H s) (hN:X.N.Nodup) (hi:X.N[i]?=some x) (hx:Loc X.env.scope x) (r:RelV v u)
  (h:∀s',Inv X pins (σ.set i (some v)) H s'->Q () s') (hf:X.fn x=true\/X.env.scope.names.lookup x=some .local:=by first|exact .inl rfl|exact .inr rfl|assumption):wpAny M A (storeName X.env x u) Q E s:=
 Rv I hN hi hx r (fun s' I' _=>h s' I') hf
def Inv.call' {s':Shared}{ch:List Addr} (I:Inv X pins σ H s) (ho:s'.os=s.os) (u:Un (frs X.stack) ch H H' s.heap s'.heap) (hok:HOk X.prog X.w H' s'.heap) (hg:AllBare s'.gens)
  (hch:∀b∈ch,(b∈X.ex\/X.s₀.heap.objs.size<=b)/\b≠X.env.locals/\(∀x c,X.env.cells.lookup x=some c->c≠b)/\∀p∈X.pn++pins,p.1≠b):Inv X pins σ H' s':=by
 obtain⟨h',g',d',t',o'⟩:=s';have e:o'=s.os:=ho;subst e;exact I.call (g':=g') (t':=t') (d':=d') u hok hg hch
end
abbrev XK:=Value->Option Addr->Hp->Prop
abbrev St:=List (Option V)
abbrev VK:=V->Hp->Prop
abbrev TE:=St->Hp->VK->Prop
abbrev TT:=St->Hp->(Bool->Hp->Prop)->Prop
abbrev TA:=St->Hp->(List V->Hp->Prop)->Prop
structure Ends where
 nx:St->Hp->Prop
 rt:VK
 bk:St->Hp->Prop:=fun _ _=>False
 ct:St->Hp->Prop:=fun _ _=>False
abbrev TS:=Ends->St->Hp->Prop
def EP (X:Cx) (pins:List (Addr×Obj)) (σ:St) (Q:VK) (u:Value) (s':Shared):Prop:=∃v H',Inv X pins σ H' s'/\RelV v u/\Q v H'
def TP (X:Cx) (pins:List (Addr×Obj)) (σ:St) (Q:Bool->Hp->Prop) (b:Bool) (s':Shared):Prop:=∃H',Inv X pins σ H' s'/\Q b H'
def AP (X:Cx) (pins:List (Addr×Obj)) (σ:St) (Q:List V->Hp->Prop) (us:List Value) (s':Shared):Prop:=∃vs H',Inv X pins σ H' s'/\Vals vs us/\Q vs H'
def SP (X:Cx) (pins:List (Addr×Obj)) (D:Ends) (f:Flow) (s':Shared):Prop:=
 match f with
 | .next=>∃σ' H',Inv X pins σ' H' s'/\D.nx σ' H'
 | .brk=>∃σ' H',Inv X pins σ' H' s'/\D.bk σ' H'
 | .cont=>∃σ' H',Inv X pins σ' H' s'/\D.ct σ' H'
 | .ret u=>∃v σ' H',Inv X pins σ' H' s'/\RelV v u/\D.rt v H'
def PE (X:Cx) (e:Expr) (t:TE):Prop:=
 ∀(pins:List (Addr×Obj)) (s:Shared) (σ:St) (H:Hp) (Q:VK),Inv X pins σ H s->t σ H Q->wpAny (model X.prog X.w) X.A (eval e X.env) (EP X pins σ Q) X.xe s
def PT (X:Cx) (e:Expr) (t:TT):Prop:=
 ∀(pins:List (Addr×Obj)) (s:Shared) (σ:St) (H:Hp) (Q:Bool->Hp->Prop),Inv X pins σ H s->t σ H Q->wpAny (model X.prog X.w) X.A (isTrue e X.env (eval e X.env)) (TP X pins σ Q) X.xe s
def PW (X:Cx) (e:Expr) (t:TT):Prop:=
 ∀(whole:Sem Value) (pins:List (Addr×Obj)) (s:Shared) (σ:St) (H:Hp) (Q:Bool->Hp->Prop),Inv X pins σ H s->t σ H Q->wpAny (model X.prog X.w) X.A (isTrue e X.env whole) (TP X pins σ Q) X.xe s
def PW.pt {X:Cx}{e:Expr}{t:TT} (h:PW X e t):PT X e t:=h _
def PA (X:Cx) (es:List Expr) (t:TA):Prop:=
 ∀(pos:Pos) (pins:List (Addr×Obj)) (s:Shared) (σ:St) (H:Hp) (Q:List V->Hp->Prop),Inv X pins σ H s->t σ H Q->wpAny (model X.prog X.w) X.A (spliced (backTo pos (starEach es X.env))) (AP X pins σ Q) X.xe s
def PS (X:Cx) (st:Stmt) (t:TS):Prop:=
 ∀(pins:List (Addr×Obj)) (s:Shared) (σ:St) (H:Hp) (D:Ends),Inv X pins σ H s->t D σ H->wpAny (model X.prog X.w) X.A (exec st X.env) (SP X pins D) X.xe s
def PSs (X:Cx) (st:List Stmt) (t:TS):Prop:=
 ∀(pins:List (Addr×Obj)) (s:Shared) (σ:St) (H:Hp) (D:Ends),Inv X pins σ H s->t D σ H->wpAny (model X.prog X.w) X.A (execs st X.env) (SP X pins D) X.xe s
def thn {α:Type}{t:Sem α}{Q Q':α->Shared->Prop}{M:Model}{A:Around}{E:Value->Shared->Prop}{s:Shared} (h:wpAny M A t Q E s) (hQ:∀a s,Q a s->Q' a s):wpAny M A t Q' E s:=Wp h hQ fun _ _ x=>x
section
variable {X:Cx}
def bin {a b:Expr}{ta tb:TE} (ha:PE X a ta) (hb:PE X b tb) {pins:List (Addr×Obj)}{s:Shared}{σ:St}{H:Hp}{R:V->V->Hp->Prop} (I:Inv X pins σ H s) (h:ta σ H fun x H1=>tb σ H1 fun y H2=>R x y H2)
  {α:Type} {Q:α->Shared->Prop} {f:Value->Value->Sem α}
  (hf:∀v u s2 x y H2,Inv X pins σ H2 s2->RelV x v->RelV y u->R x y H2->wpAny (model X.prog X.w) X.A (f v u) Q X.xe s2) :
  wpAny (model X.prog X.w) X.A (eval a X.env) (fun v s₁=>wpAny (model X.prog X.w) X.A (eval b X.env) (fun u s₂=>wpAny (model X.prog X.w) X.A (f v u) Q X.xe s₂) X.xe s₁) X.xe s:=by
 refine thn (ha pins s σ H _ I h) fun v s1 ⟨x,H1,I1,r1,q1⟩=>?_;refine thn (hb pins s1 σ H1 _ I1 q1) fun u s2 ⟨y,H2,I2,r2,q2⟩=>?_;exact hf v u s2 x y H2 I2 r1 r2 q2
def tVar (i:Nat):TE:=fun σ H Q=>∃v,σ[i]?=some (some v)/\Q v H
def tC (v:V):TE:=fun _ H Q=>Q v H
def LR {i:Nat}{x:Str}{pos:Pos} (hN:X.N[i]?=some x) (hv:Vis X.env.scope x) (hd:(x==("__debug__" : Str))=false:=by decide) (hcd:(x==("__classdict__" : Str))=false:=by decide):PE X (.Name x pos) (tVar i):=by
 intro pins s σ H Q I h;obtain⟨v,e,h⟩:=h;obtain⟨m,hn,hl⟩:=I.loc;obtain⟨u,r,l⟩:=hl i x v hN e hv;have fin:EP X pins σ Q u s:=⟨v,H,I,r,h⟩;rcases l with⟨hk,hm⟩|⟨hk,c,hc,hcell⟩
 ·exact wpAny_Name (wpAny_loadName_local I.ok.kind hk hn hm fin) hd
 ·rcases hk with hk|hk
  ·exact wpAny_Name (wpAny_loadName_cell I.ok.kind hk hc hcell fin) hd
  ·exact wpAny_Name (wpAny_loadName_free I.ok.kind hk hc hcell fin hcd) hd
def Jw {i j pos}:PE X (.Constant (.int i) j pos) (tC (.int i)):=fun _ _ _ H _ I h=>wpAny_Constant_int ⟨.int i,H,I.tok _,⟨_,rfl⟩,h⟩
def Ur {b j pos}:PE X (.Constant (.bool b) j pos) (tC (.bl b)):=fun _ _ _ H _ I h=>Constant_bool ⟨.bl b,H,I,rfl,h⟩
def Zbh {j pos}:PE X (.Constant .none j pos) (tC .non):=fun _ _ _ H _ I h=>Constant_none ⟨.non,H,I,rfl,h⟩
def JZ {x j pos}:PE X (.Constant (.str x) j pos) (tC (.str x)):=fun _ _ _ H _ I h=>Calls.Constant_str ⟨.str x,H,I.tok _,⟨_,rfl⟩,h⟩
def Gl (X:Cx) (x:Str):Prop:=X.env.kindOf x=some .globalImplicit
def Nw {E:Value->Shared->Prop}{pins:List (Addr×Obj)}{s:Shared}{σ:St}{H:Hp}{x:Str}{u:Value}{pos:Pos}{Q:Value->Shared->Prop} (I:Inv X pins σ H s) (hg:Gl X x) (hm:X.mg x=some u) (h:Q u s)
  (hd:(x==("__debug__" : Str))=false:=by decide):wpAny (model X.prog X.w) X.A (eval (.Name x pos) X.env) Q E s:=
 Calls.Name_function_global I.ok.kind hg (Calls.loadGlobal_global (by rw[I.ok.glob];exact I.mod.glob.keeps I.bk) hm h) hd
def TK {E:Value->Shared->Prop}{pins:List (Addr×Obj)}{s:Shared}{σ:St}{H:Hp}{x:Str}{u:Value}{pos:Pos}{Q:Value->Shared->Prop} (I:Inv X pins σ H s) (hg:Gl X x) (hm:X.mg x=none) (hv:bootBuiltins x=some u) (h:Q u s)
  (hn:x≠"__name__":=by decide) (hd:(x==("__debug__" : Str))=false:=by decide):wpAny (model X.prog X.w) X.A (eval (.Name x pos) X.env) Q E s:=by
 obtain⟨mb,h1,h2⟩:=I.mod.blt;exact Calls.Name_function_global I.ok.kind hg (Calls.loadGlobal_builtin (by rw[I.ok.glob];exact I.mod.glob.keeps I.bk) hm (by rw[I.ok.blt];exact h1.keeps I.bk) ((h2 x hn).trans hv) h) hd
def RN {x:Str}{v:V}{u:Value}{pos:Pos} (hg:Gl X x) (hm:X.mg x=some u) (r:RelV v u) (hd:(x==("__debug__" : Str))=false:=by decide):PE X (.Name x pos) (tC v):=
 fun _ _ _ H _ I h=>Nw I hg hm ⟨v,H,I,r,h⟩ hd
def Kh {x:Str}{v:V}{u:Value}{pos:Pos} (hg:Gl X x) (hm:X.mg x=none) (hv:bootBuiltins x=some u) (r:RelV v u) (hn:x≠"__name__":=by decide) (hd:(x==("__debug__" : Str))=false:=by decide):PE X (.Name x pos) (tC v):=
 fun _ _ _ H _ I h=>TK I hg hm hv ⟨v,H,I,r,h⟩ hn hd
variable {a b:Expr}{ta tb:TE}{pos:Pos}
def PC (X:Cx) (op:CmpOp) (a b:Expr) (t:TE):Prop:=
 ∀(pins:List (Addr×Obj)) (s:Shared) (σ:St) (H:Hp) (Q:VK),Inv X pins σ H s->t σ H Q->
  wpAny (model X.prog X.w) X.A (eval a X.env) (fun v s₁=>wpAny (model X.prog X.w) X.A (eval b X.env) (fun u s₂=>wpAny (model X.prog X.w) X.A (compareOp op v u) (EP X pins σ Q) X.xe s₂) X.xe s₁) X.xe s
def LO (b:Expr) {op:CmpOp} (h:op≠.In) (h2:op≠.NotIn):behindInMarks op b=false:=by
 have e1:(op==CmpOp.In)=false:=by cases op<;>first|rfl|exact absurd rfl h
 have e2:(op==CmpOp.NotIn)=false:=by cases op<;>first|rfl|exact absurd rfl h2
 cases b<;>simp[behindInMarks,e1,e2]
def tB (t:TE):TT:=fun σ H Q=>t σ H fun x H1=>∃c,x=.bl c/\Q c H1
def Rq {op:CmpOp}{t:TE} (h:PC X op a b t) (h1:behindInMarks op b=false:=by first|exact LO _ (by decide) (by decide)|rfl):PT X (.Compare a [op] [b] pos) (tB t):=by
 intro pins s σ H Q I hw;refine wpAny_isTrue_Compare1 (thn (h pins s σ H _ I hw) fun v s1 h1=>thn h1 fun u s2 h2=>thn h2 fun c s3 ⟨x,H1,I1,r1,q1⟩=>?_) h1;obtain⟨d,rfl,q⟩:=q1;cases r1
 exact WU ⟨H1,I1,q⟩
variable {tA tB':TT}{rest:List Expr}
def tAnd (t u:TT):TT:=fun σ H Q=>t σ H fun c H1=>if c=true then u σ H1 Q else Q false H1
def tOr (t u:TT):TT:=fun σ H Q=>t σ H fun c H1=>if c=true then Q true H1 else u σ H1 Q
def tNot (t:TT):TT:=fun σ H Q=>t σ H fun c H1=>Q (!c) H1
def KI (ha:PT X a tA):PW X (.BoolOp .And [a] pos) tA:=by
 intro wh pins s σ H Q I h;refine isTrue_and (thn (ha pins s σ H Q I h) fun c s1 e=>?_);cases c with
 | true=>exact isTrue_and_nil e
 | false=>exact e
def UA (ha:PT X a tA):PW X (.BoolOp .Or [a] pos) tA:=by
 intro wh pins s σ H Q I h;refine isTrue_or (thn (ha pins s σ H Q I h) fun c s1 e=>?_);cases c with
 | false=>exact isTrue_or_nil e
 | true=>exact e
def Ks (ha:PT X a tA) (hb:PW X (.BoolOp .And (b::rest) pos) tB'):PW X (.BoolOp .And (a::b::rest) pos) (tAnd tA tB'):=by
 intro wh pins s σ H Q I h;refine isTrue_and (thn (ha pins s σ H _ I h) fun c s1 ⟨H1,I1,q1⟩=>?_);cases c with
 | true=>exact hb wh pins s1 σ H1 Q I1 q1
 | false=>exact⟨H1,I1,q1⟩
def Uy (ha:PT X a tA) (hb:PW X (.BoolOp .Or (b::rest) pos) tB'):PW X (.BoolOp .Or (a::b::rest) pos) (tOr tA tB'):=by
 intro wh pins s σ H Q I h;refine isTrue_or (thn (ha pins s σ H _ I h) fun c s1 ⟨H1,I1,q1⟩=>?_);cases c with
 | true=>exact⟨H1,I1,q1⟩
 | false=>exact hb wh pins s1 σ H1 Q I1 q1
def Uv (ha:PT X a tA):PT X (.UnaryOp .Not a pos) (tNot tA):=by
 intro pins s σ H Q I h;exact isTrue_not (ha pins s σ H (fun c H1=>Q (!c) H1) I h)
def GI (ta tb:TE):TE:=fun σ H Q=>ta σ H fun x H1=>∃c,x=.bl c/\if c=true then tb σ H1 Q else Q (.bl false) H1
def Gx (ta:TE):TE:=fun σ H Q=>ta σ H fun x H1=>∃c,x=.bl c/\Q (.bl (!c)) H1
def Tq {op}{t:TE} (h:PE X a t):PE X (.BoolOp op [a] pos) t:=fun pins s σ H Q I hw=>BoolOp_one (h pins s σ H Q I hw)
def Tv (ha:PE X a ta) (hb:PE X (.BoolOp .And (b::rest) pos) tb):PE X (.BoolOp .And (a::b::rest) pos) (GI ta tb):=by
 intro pins s σ H Q I h;refine BoolOp_and (thn (ha pins s σ H _ I h) fun v s1 ⟨x,H1,I1,r1,q1⟩=>?_);obtain⟨c,rfl,q1⟩:=q1;cases r1
 refine WU ?_;cases c with
 | true=>exact hb pins s1 σ H1 Q I1 q1
 | false=>exact⟨.bl false,H1,I1,rfl,q1⟩
def Fu (ha:PE X a ta):PE X (.UnaryOp .Not a pos) (Gx ta):=by
 intro pins s σ H Q I h;refine UnaryOp_ (thn (ha pins s σ H _ I h) fun v s1 ⟨x,H1,I1,r1,q1⟩=>?_);obtain⟨c,rfl,q1⟩:=q1;cases r1
 exact not_of (WU ⟨.bl (!c),H1,I1,rfl,q1⟩)
end
def SqL (K:Za) (H:Hp) (a:Addr) (xs:List V):Prop:=
 Rd H a (.lst xs)\/
  ∃(o:Obj) (its:Array Value) (n:Nat),K.lookup a=some o/\o.cls=.type "list"/\o.dict=none/\o.data=.seq its n/\its.size<=sizeLine/\Vals xs its.toList
def SqT (K:Za) (H:Hp) (a:Addr) (xs:List V):Prop:=
 Rd H a (.tup xs)\/
  ∃(o:Obj) (its:Array Value) (n:Nat),K.lookup a=some o/\o.cls=.type "tuple"/\o.data=.seq its n/\its.size<=sizeLine/\Vals xs its.toList
def absV:Value->Option V
 | .none=>some .non
 | .bool b=>some (.bl b)
 | .int i _=>some (.int i)
 | .str x _=>some (.str x)
 | .bytes b _=>some (.byt b)
 | .float b _=>some (.flt b)
 | .ref a=>some (.ref a)
 | .type n=>some (.ty n)
 | _=>none
def RelV.abs {x:V}{u:Value} (r:RelV x u):absV u=some x:=by
 cases x with
 | non=>cases r;rfl
 | bl _=>cases r;rfl
 | int _=>obtain⟨t,rfl⟩:=r;rfl
 | str _=>obtain⟨t,rfl⟩:=r;rfl
 | byt _=>obtain⟨t,rfl⟩:=r;rfl
 | flt _=>obtain⟨t,rfl⟩:=r;rfl
 | ref _=>cases r;rfl
 | ty _=>cases r;rfl
def RelV.inj {x y:V}{u:Value} (r:RelV x u) (q:RelV y u):x=y:=Y2 (r.abs.symm.trans q.abs)
def Vals.inj:∀{xs ys:List V}{us:List Value},Vals xs us->Vals ys us->xs=ys
 | _,_,_,.nil,.nil=>rfl
 | _,_,_,.cons r t,.cons r' t'=>by rw[r.inj r',Vals.inj t t']
section
variable {X:Cx}{pins:List (Addr×Obj)}{σ:St}{H:Hp}{s:Shared}{a:Addr}{xs ys:List V}
def SqL.of {K:Za} (h:H a=some (.lst xs)):SqL K H a xs:=.inl (.inl h)
def SqT.of {K:Za} (h:H a=some (.tup xs)):SqT K H a xs:=.inl (.inl h)
def Inv.list (I:Inv X pins σ H s) (h:SqL X.K H a xs):∃its:List Value,Vals xs its/\PlainL s.heap a its.toArray/\xs.length<=sizeLine:=by
 rcases h with h|⟨o,its,n,hk,hc,hd,hs,hz,r⟩
 ·obtain⟨z,its,n,r,e⟩:=h.ok I.hok;exact⟨its,r,⟨_,n,e,rfl,rfl,rfl⟩,z⟩
 ·refine⟨its.toList,r,⟨o,n,I.kIn a o hk,hc,hd,by simpa using hs⟩,?_⟩;have e:=r.length;simp only[Wb] at e;omega
def Inv.tuple (I:Inv X pins σ H s) (h:SqT X.K H a xs):∃its:List Value,Vals xs its/\IsTup s.heap a its.toArray/\xs.length<=sizeLine:=by
 rcases h with h|⟨o,its,n,hk,hc,hs,hz,r⟩
 ·obtain⟨z,its,r,p⟩:=h.ok I.hok;exact⟨its,r,p,z⟩
 ·refine⟨its.toList,r,⟨o,I.kIn a o hk,hc,n,by simpa using hs⟩,?_⟩;have e:=r.length;simp only[Wb] at e;omega
def Inv.list_inj (I:Inv X pins σ H s) (h:SqL X.K H a xs) (h':SqL X.K H a ys):xs=ys:=by
 obtain⟨its,r,⟨o,n,e,_,_,d⟩,_⟩:=I.list h;obtain⟨its',r',⟨o',n',e',_,_,d'⟩,_⟩:=I.list h';rw[e] at e';cases e';rw[d] at d';injection d' with d1 _
 have:its=its':=by simpa using YS Array.toList d1
 subst this;exact r.inj r'
def Inv.tuple_inj (I:Inv X pins σ H s) (h:SqT X.K H a xs) (h':SqT X.K H a ys):xs=ys:=by
 obtain⟨its,r,⟨o,e,_,n,d⟩,_⟩:=I.tuple h;obtain⟨its',r',⟨o',e',_,n',d'⟩,_⟩:=I.tuple h';rw[e] at e';cases e';rw[d] at d';injection d' with d1 _
 have:its=its':=by simpa using YS Array.toList d1
 subst this;exact r.inj r'
end
abbrev Cx.wish (X:Cx) (E:Value->Shared->Prop):Cx:={ X with xe:=E }
abbrev Cx.nox (X:Cx):Cx:=X.wish fun _ _=>False
def Cx.Ok.wish {X:Cx} (ok:X.Ok) (E:Value->Shared->Prop):(X.wish E).Ok:=
 ⟨ok.mod,ok.kind,ok.glob,ok.blt,ok.above,ok.inj,ok.has,ok.cab,ok.hd,ok.frames,ok.stk,ok.exf,ok.bs,ok.bsz,ok.noex,ok.exfs,ok.funs,ok.frf⟩
def Cx.Ok.unwish {X:Cx}{E:Value->Shared->Prop} (ok:(X.wish E).Ok):X.Ok:=
 ⟨ok.mod,ok.kind,ok.glob,ok.blt,ok.above,ok.inj,ok.has,ok.cab,ok.hd,ok.frames,ok.stk,ok.exf,ok.bs,ok.bsz,ok.noex,ok.exfs,ok.funs,ok.frf⟩
section
variable {X:Cx}{pins:List (Addr×Obj)}{σ:St}{H:Hp}{s:Shared}{E:Value->Shared->Prop}
def Inv.wish (I:Inv X pins σ H s) (E:Value->Shared->Prop):Inv (X.wish E) pins σ H s:=⟨I.ok.wish E,I.os,I.bare,I.base,I.loc,I.cell,I.free,I.freeC,I.pin,I.hok,I.len⟩
def Inv.unwish (I:Inv (X.wish E) pins σ H s):Inv X pins σ H s:=⟨I.ok.unwish,I.os,I.bare,I.base,I.loc,I.cell,I.free,I.freeC,I.pin,I.hok,I.len⟩
def SP.unwish {D:Ends}{f:Flow}{s':Shared} (h:SP (X.wish E) pins D f s'):SP X pins D f s':=by
 cases f with
 | next=>obtain⟨σ',H',I,q⟩:=h;exact⟨σ',H',I.unwish,q⟩
 | brk=>obtain⟨σ',H',I,q⟩:=h;exact⟨σ',H',I.unwish,q⟩
 | cont=>obtain⟨σ',H',I,q⟩:=h;exact⟨σ',H',I.unwish,q⟩
 | ret u=>obtain⟨v,σ',H',I,r,q⟩:=h;exact⟨v,σ',H',I.unwish,r,q⟩
def PSs.nox {st:List Stmt}{t:TS} (h:PSs X.nox st t):PSs X st t:=fun pins s σ H D I hw=>
 Wp (h pins s σ H D (I.wish _) hw) (fun _ _ q=>q.unwish) fun _ _ z=>False.elim z
end
section
variable {X:Cx}{st:Stmt}{rest:List Stmt}{t u:TS}{e:Expr}{te:TE}{pos:Pos}
def Cb:TS:=fun D σ H=>D.nx σ H
def tSeq (t u:TS):TS:=fun D σ H=>t { D with nx:=u D } σ H
def JC:PSs X [] Cb:=fun _ _ σ H _ I h=>QR ⟨σ,H,I,h⟩
def Jz (h1:PS X st t) (h2:PSs X rest u):PSs X (st::rest) (tSeq t u):=by
 intro pins s σ H D I h;refine wpAny_execs_cons (thn (h1 pins s σ H { D with nx:=u D } I h) fun f s1 q=>?_)
 cases f with
 | next=>
  obtain⟨σ',H',I',q⟩:=q;exact h2 pins s1 σ' H' D I' q
 | ret v=>exact q
 | brk=>exact q
 | cont=>exact q
def J0 (h1:PS X st t):PSs X [st] t:=by
 intro pins s σ H D I h;refine wpAny_execs_cons (thn (h1 pins s σ H D I h) fun f s1 q=>?_);cases f with
 | next=>exact QR q
 | ret v=>exact q
 | brk=>exact q
 | cont=>exact q
def Inv.quiet {pins:List (Addr×Obj)}{σ:St}{H:Hp}{s:Shared} (I:Inv X pins σ H s):interactive X.env=false:=by simp[interactive,I.ok.kind]
def Nv (te:TE):TS:=fun D σ H=>te σ H fun _ H1=>D.nx σ H1
def Um (he:PE X e te) (hs:swapsWith e none pos.line X.env=pure false:=by rfl):PS X (.Expr e pos) (Nv te):=by
 intro pins s σ H D I h;exact wpAny_Expr_any (thn (he pins s σ H _ I h) fun v s1 ⟨x,H1,I1,r1,q1⟩=>⟨σ,H1,I1,q1⟩) I.quiet hs
def tRet (te:TE):TS:=fun D σ H=>te σ H D.rt
def J4 (he:PE X e te):PS X (.Return (some e) pos) (tRet te):=by
 intro pins s σ H D I h;exact wpAny_Return_some (thn (he pins s σ H _ I h) fun v s1 ⟨x,H1,I1,r1,q1⟩=>⟨x,σ,H1,I1,r1,q1⟩)
def tIfS (c:TT) (t u:TS):TS:=fun D σ H=>c σ H fun b H1=>if b=true then t D σ H1 else u D σ H1
def JA {c:Expr}{a b:List Stmt}{tc:TT} (hc:PT X c tc) (ha:PSs X a t) (hb:PSs X b u):PS X (.If c a b pos) (tIfS tc t u):=by
 intro pins s σ H D I h;refine wpAny_If (thn (hc pins s σ H _ I h) fun d s1 ⟨H1,I1,q1⟩=>?_);cases d with
 | true=>exact ha pins s1 σ H1 D I1 q1
 | false=>exact hb pins s1 σ H1 D I1 q1
def Gn:TS:=fun _ _ _=>False
def IW:PS X st Gn:=fun _ _ _ _ _ _ h=>h.elim
end
abbrev TG:=V->St->Hp->(St->Hp->Prop)->Prop
abbrev TGs:=List V->St->Hp->(St->Hp->Prop)->Prop
def PG (X:Cx) (target:Expr) (t:TG):Prop:=
 ∀(pins:List (Addr×Obj)) (s:Shared) (σ:St) (H:Hp) (v:V) (u:Value) (Q:St->Hp->Prop),Inv X pins σ H s->RelV v u->t v σ H Q->
  wpAny (model X.prog X.w) X.A (assign target X.env u) (fun _ s'=>∃σ' H',Inv X pins σ' H' s'/\Q σ' H') X.xe s
def PGs (X:Cx) (ts:List Expr) (t:TGs):Prop:=
 ∀(pins:List (Addr×Obj)) (s:Shared) (σ:St) (H:Hp) (vs:List V) (us:List Value) (Q:St->Hp->Prop),Inv X pins σ H s->Vals vs us->t vs σ H Q->
  wpAny (model X.prog X.w) X.A (assignInOrder ((assignEach ts X.env).map (·.2)) us) (fun _ s'=>∃σ' H',Inv X pins σ' H' s'/\Q σ' H') X.xe s
abbrev TIp:=V->V->Hp->VK->Prop
def PIp (X:Cx) (op:Operator) (t:TIp):Prop:=
 ∀(pins:List (Addr×Obj)) (s:Shared) (σ:St) (H:Hp) (x y:V) (v u:Value) (Q:VK),Inv X pins σ H s->RelV x v->RelV y u->t x y H Q->
  wpAny (model X.prog X.w) X.A (inplaceOp op v u) (EP X pins σ Q) X.xe s
section
variable {X:Cx}{pos:Pos}
def P3 (i:Nat):TG:=fun v σ H Q=>Q (σ.set i (some v)) H
def By {i:Nat}{x:Str} (hN:X.N.Nodup) (hi:X.N[i]?=some x) (hx:Loc X.env.scope x) (hf:X.fn x=true\/X.env.scope.names.lookup x=some .local:=by first|exact .inl rfl|exact .inr rfl|assumption):PG X (.Name x pos) (P3 i):=by
 intro pins s σ H v u Q I r h;exact wpAny_assign_Name (Np I hN hi hx r (fun s' I'=>⟨_,H,I',h⟩) hf)
def gNil:TGs:=fun vs σ H Q=>vs=[]/\Q σ H
def GQ (t:TG) (u:TGs):TGs:=fun vs σ H Q=>∃v r,vs=v::r/\t v σ H fun σ' H'=>u r σ' H' Q
def PZ:PGs X [] gNil:=by
 intro pins s σ H vs us Q I r h;obtain⟨e,h⟩:=h;subst e;cases r
 exact assignInOrder_nil ⟨σ,H,I,h⟩
def XQ {e:Expr}{es:List Expr}{t:TG}{u:TGs} (h1:PG X e t) (h2:PGs X es u)
  (hs:(assignEach (e::es) X.env).map (·.2)=assign e X.env::(assignEach es X.env).map (·.2):=by rfl):PGs X (e::es) (GQ t u):=by
 intro pins s σ H vs us Q I r h;obtain⟨v,vr,e1,h⟩:=h;subst e1;cases r with
 | cons r rr=>
  rw[hs];refine assignInOrder_cons (thn (h1 pins s σ H _ _ _ I r h) fun _ s1 ⟨σ1,H1,I1,q1⟩=>?_);exact h2 pins s1 σ1 H1 _ _ Q I1 rr q1
def gTup (K:Za) (n:Nat) (t:TGs):TG:=fun v σ H Q=>∃a xs,v=.ref a/\SqT K H a xs/\xs.length=n/\t xs σ H Q
def RA {es:List Expr}{k:Nat}{t:TGs}{n:Nat} (hc:X.calm=true) (h:PGs X es t)
  (hn:(assignEach es X.env).length=n:=by rfl) (hst:(assignEach es X.env).findIdx? (·.1)=none:=by rfl):PG X (.Tuple es k pos) (gTup X.K n t):=by
 intro pins s σ H v u Q I r hw;obtain⟨a,xs,e1,hq,hl,hw⟩:=hw;subst e1;cases r
 obtain⟨its,rv,ht,hz⟩:=I.tuple hq;refine assign_Tuple_tuple (I.ok.hd hc) ht (by simp[hn,←hl,rv.length]) hst fun h' hx=>?_;have I1:Inv X pins σ H { s with heap:=h' }:=I.kept (t':=s.toks) fun b o e=>hx b o (YL (Y3 e)) e
 exact h pins _ σ H xs _ Q I1 (by simpa using rv) hw
def tAsg (te:TE) (g:TG):TS:=fun D σ H=>te σ H fun x H1=>g x σ H1 D.nx
def Zcn {i:Nat}{x:Str}{e:Expr}{te:TE}{pos':Pos} (hN:X.N.Nodup) (hi:X.N[i]?=some x) (hx:Loc X.env.scope x) (he:PE X e te) (hs:swapsWith e (some (.Name x pos')) pos.line X.env=pure false:=by rfl) (hf:X.fn x=true\/X.env.scope.names.lookup x=some .local:=by first|exact .inl rfl|exact .inr rfl|assumption) :
  PS X (.Assign [.Name x pos'] e pos) (tAsg te (P3 i)):=by
 intro pins s σ H D I h;refine wpAny_Assign_Name (thn (he pins s σ H _ I h) fun v s1 ⟨y,H1,I1,r1,q1⟩=>?_) hs;exact Np I1 hN hi hx r1 (fun s2 I2=>⟨_,H1,I2,q1⟩) hf
def tAug (i:Nat) (te:TE) (ti:TIp):TS:=fun D σ H=>∃x,σ[i]?=some (some x)/\te σ H fun y H1=>ti x y H1 fun z H2=>D.nx (σ.set i (some z)) H2
def Eg {i:Nat}{x:Str}{e:Expr}{te:TE}{op:Operator}{ti:TIp}{pos':Pos} (hN:X.N.Nodup) (hi:X.N[i]?=some x) (hx:Loc X.env.scope x) (he:PE X e te) (ho:PIp X op ti) (hf:X.fn x=true\/X.env.scope.names.lookup x=some .local:=by first|exact .inl rfl|exact .inr rfl|assumption) :
  PS X (.AugAssign (.Name x pos') op e pos) (tAug i te ti):=by
 intro pins s σ H D I h;obtain⟨v,e1,h⟩:=h;obtain⟨m,hn,hl⟩:=I.loc;have vis:Vis X.env.scope x:=by rcases hx with k|k;exact .inl k;exact .inr (.inl k)
 obtain⟨u,r,l⟩:=hl i x v hi e1 vis;refine wpAny_AugAssign_Name ?_
 have go:wpAny (model X.prog X.w) X.A (eval e X.env) (fun w s₂=>wpAny (model X.prog X.w) X.A (inplaceOp op u w) (fun r s₃=>wpAny (model X.prog X.w) X.A (storeName X.env x r) (fun _=>SP X pins D .next) X.xe s₃) X.xe s₂) X.xe s:=by
  refine thn (he pins s σ H _ I h) fun w s1 ⟨y,H1,I1,r1,q1⟩=>?_;refine thn (ho pins s1 σ H1 v y u w _ I1 r r1 q1) fun z s2 ⟨zv,H2,I2,r2,q2⟩=>?_;exact Np I2 hN hi hx r2 (fun s3 I3=>⟨_,H2,I3,q2⟩) hf
 rcases l with⟨hk,hm⟩|⟨hk,c,hc,hcell⟩
 ·exact wpAny_loadName_local I.ok.kind hk hn hm go
 ·rcases hk with hk|hk
  ·exact wpAny_loadName_cell I.ok.kind hk hc hcell go
  ·rcases hx with k|k
   ·have:X.env.scope.names.lookup x=some .free:=hk
    rw[k] at this;cases this
   ·have:X.env.scope.names.lookup x=some .free:=hk
    rw[k] at this;cases this
def ipI (f:Int->Int->Int):TIp:=fun x y H Q=>∃i j,x=.int i/\y=.int j/\Q (.int (f i j)) H
def Gg:PIp X .Add (ipI fun i j=>i+j):=by
 intro pins s σ H x y v u Q I r1 r2 h;obtain⟨i,j,e1,e2,q⟩:=h;subst e1;subst e2;obtain⟨t,rfl⟩:=r1;obtain⟨t',rfl⟩:=r2;exact iadd_int ⟨.int _,H,I.tok _,⟨_,rfl⟩,q⟩
end
section
variable {X:Cx}{pos:Pos}
def CJ (c:TT) (tb:TS):TS:=fun D σ H=>∃W:Nat->St->Hp->Prop,(∃m,W m σ H)/\∀m σ H,W m σ H->
 c σ H fun b H1=>if b=true then ∃N:St->Hp->Prop,(∀σ' H',N σ' H'->∃m',m'<m/\W m' σ' H')/\tb { D with nx:=N,ct:=N,bk:=D.nx } σ H1 else D.nx σ H1
def Fi {c:Expr}{body:List Stmt}{tc:TT}{tb:TS} (hp:PassesOwn (model X.prog X.w) X.A X.env X.xe) (hc:PT X c tc) (hb:PSs X body tb):PS X (.While c body [] pos) (CJ tc tb):=by
 intro pins s σ H D I h;obtain⟨W,⟨m0,w0⟩,turn⟩:=h;refine wpAny_While (codeAny_whileLoop (fun n s'=>∃σ' H',Inv X pins σ' H' s'/\W n σ' H') ?_ m0 ⟨σ,H,I,w0⟩);rintro n s1 ⟨σ1,H1,I1,w1⟩;refine WR hp (thn (hc pins s1 σ1 H1 _ I1 (turn n σ1 H1 w1)) fun b s2 ⟨H2,I2,q2⟩=>?_);cases b with
 | true=>
  obtain⟨N,hN,q2⟩:=q2;rw[Yr rfl];refine WR hp (thn (hb pins s2 σ1 H2 _ I2 q2) fun f s3 q3=>?_);cases f with
  | next=>
   obtain⟨σ3,H3,I3,n3⟩:=q3;obtain⟨m',hm,w3⟩:=hN σ3 H3 n3;exact⟨m',hm,σ3,H3,I3,w3⟩
  | cont=>
   obtain⟨σ3,H3,I3,n3⟩:=q3;obtain⟨m',hm,w3⟩:=hN σ3 H3 n3;exact⟨m',hm,σ3,H3,I3,w3⟩
  | brk=>exact q3
  | ret v=>exact q3
 | false=>
  rw[Yq Y9];exact QR ⟨σ1,H2,I2,q2⟩
end
structure It where
 go:Nat->Hp->Prop
 yld:Nat->Hp->V->Hp->Prop
 stop:Nat->Hp->Prop
def FpOk (X:Cx) (pins:List (Addr×Obj)) (H:Hp) (b:Addr):Prop:=
 H b=none/\b≠X.env.locals/\b∉X.fs/\(b∈X.ex\/X.s₀.heap.objs.size<=b)/\(∀x c,X.env.cells.lookup x=some c->c≠b)/\∀p∈X.pn++pins,p.1≠b
def Inv.fpOk {X:Cx}{pins:List (Addr×Obj)}{σ:St}{H H':Hp}{s:Shared}{b:Addr} (I:Inv X pins σ H s) (hb:s.heap.objs.size<=b) (hn:H' b=none):FpOk X pins H' b:=by
 refine⟨hn,Vm (YW I.lt hb),I.nofs hb,.inr (Y7 I.sz hb),fun x c e z=>?_,fun p hp z=>?_⟩
 ·obtain⟨v,q⟩:=I.cell x c e;exact absurd (YW q.lt (by rw[z];exact hb)) (W5 _)
 ·exact absurd (YW (Y3 (I.pin p hp).1) (by rw[z];exact hb)) (W5 _)
structure Turn (P:Program) (w:World) (K:Za) (tg:Expr) (J:It) (fp:List Addr) (it:Addr) (tn:Nat->Heap->Prop):Prop where
 mem:it∈fp
 obj:∀i h,tn i h->∀b∈fp,∃o,h.get? b=some o/\∀v,o.data≠.cell v
 keep:∀i h h',tn i h->(∀b∈fp,∀o,h.get? b=some o->h'.get? b=some o)->tn i h'
 item:∀(X:Cx),X.prog=P->X.w=w->X.K=K->X.calm=true->∀(i:Nat) (pins:List (Addr×Obj)) (s:Shared) (σ:St) (H:Hp) (E:Value->Shared->Prop),Inv X pins σ H s->(∀b∈fp,FpOk X pins H b)->tn i s.heap->J.go i H->
  wpAny (model P w) X.A (pyNext (.ref it)) (fun r s1=>∃u,r=some u/\
   wpAny (model P w) X.A (letOwnedTupleGo tg (.ref it) u) (fun _ s2=>∃x H',Inv X pins σ H' s2/\RelV x u/\J.yld i H x H'/\tn (i+1) s2.heap/\∀b∈fp,H' b=none) E s1) E s
 done:∀(X:Cx),X.prog=P->X.w=w->X.K=K->X.calm=true->∀(i:Nat) (pins:List (Addr×Obj)) (s:Shared) (σ:St) (H:Hp) (E:Value->Shared->Prop),Inv X pins σ H s->(∀b∈fp,FpOk X pins H b)->tn i s.heap->J.stop i H->
  wpAny (model P w) X.A (pyNext (.ref it)) (fun r s1=>r=none/\Inv X pins σ H s1) E s
 self:∀(A:Around) (i:Nat) (s:Shared) (Q:Value->Shared->Prop) (E:Value->Shared->Prop),tn i s.heap->Q (.ref it) s->wpAny (model P w) A (pyIter (.ref it)) Q E s
abbrev TI:=St->Hp->(It->Hp->Prop)->Prop
def PIE (X:Cx) (pins:List (Addr×Obj)) (σ:St) (tg:Expr) (R:It->Hp->Prop) (itv:Value) (s2:Shared):Prop:=
 ∃(it:Addr) (fp:List Addr) (tn:Nat->Heap->Prop) (J:It) (H':Hp),itv=.ref it/\Inv X pins σ H' s2/\Turn X.prog X.w X.K tg J fp it tn/\tn 0 s2.heap/\(∀b∈fp,FpOk X pins H' b)/\R J H'
def PI (X:Cx) (tg iter:Expr) (wi:TI):Prop:=
 ∀(pins:List (Addr×Obj)) (s:Shared) (σ:St) (H:Hp) (R:It->Hp->Prop),Inv X pins σ H s->wi σ H R->
  wpAny (model X.prog X.w) X.A (eval iter X.env) (fun v s1=>wpAny (model X.prog X.w) X.A (pyIter v) (PIE X pins σ tg R) X.xe s1) X.xe s
def Ff {M : Model} {A : Around} {E : Value → Shared → Prop} {s : Shared} {tg : Expr} {it : Addr} {u : Value} {o : Obj} {n : String} {vs : Array Value} {Q : Unit → Shared → Prop} (ho : s.heap.get? it = some o) (hc : o.cls = .type n) (hd : o.data = .fields vs)
    (hn : ["enumerate", "zip", "dict_itemiterator", "dict_reverseitemiterator", "odict_iterator", "itertools.zip_longest", "itertools.pairwise"].contains n = false) (hQ : Q () s) : wpAny M A (letOwnedTupleGo tg (.ref it) u) Q E s := by
  unfold letOwnedTupleGo
  cases tg <;> first
    | exact Yt hQ
    | (cases u <;> first
        | exact Yt hQ
        | (refine Yp (wpAny_load ho ?_)
           rw [hc, hd]
           show wpAny M A (if (["enumerate", "zip", "dict_itemiterator", "dict_reverseitemiterator", "odict_iterator", "itertools.zip_longest", "itertools.pairwise"].contains n && vs[0]? == some (rawInt _)) = true then _ else _) Q E s
           rw [Yq (by intro h; rw [hn, Q7] at h; cases h)]
           exact Yt hQ))
def Itl (K:Za) (a:Addr):It:=
 ⟨fun i H=>∃xs x,SqL K H a xs/\xs[i]?=some x,fun i H x H'=>H'=H/\∀xs,SqL K H a xs->xs[i]?=some x,fun i H=>∃xs,SqL K H a xs/\xs.length<=i⟩
def Itt (K:Za) (a:Addr):It:=
 ⟨fun i H=>∃xs x,SqT K H a xs/\xs[i]?=some x,fun i H x H'=>H'=H/\∀xs,SqT K H a xs->xs[i]?=some x,fun i H=>∃xs,SqT K H a xs/\xs.length<=i⟩
def Itr (lo:Int) (n:Nat):It:=⟨fun i _=>i<n,fun i H x H'=>H'=H/\x=.int (lo+i),fun i _=>n<=i⟩
def Mu {P:Program}{w:World}{K:Za}{tg:Expr} (a it:Addr):Turn P w K tg (Itl K a) [it] it (fun i h=>h.IsListIter it a i) where
 mem:=by simp
 obj:=fun i h st b hb=>by
  have e:b=it:=by simpa using hb
  subst e;obtain⟨o,e,c,d⟩:=st;exact⟨o,e,fun v z=>by rw[d] at z;cases z⟩
 keep:=fun i h h' st k=>st.at fun o e=>k it (by simp) o e
 item:=by
  intro X hP hw hK hc i pins s σ H E I hf st hg;subst hP hw hK;obtain⟨xs,x,hq,hx⟩:=hg;obtain⟨its,rv,p,hz⟩:=I.list hq;obtain⟨u,hu,ru⟩:=rv.get hx;obtain⟨f0,f1,f2,f3,f4,f5⟩:=hf it (by simp);refine wpAny_pyNext_list_item st p.isList (x:=u) (by simpa using hu) fun h' st' sb=>?_;have I1:Inv X pins σ H { s with heap:=h' }:=I.turned (t':=s.toks) (fun b o hb e=>(sb.2 b hb).trans e) f0 f1 f3 f4 f5
  obtain⟨o,e,c,d⟩:=id st';exact⟨u,rfl,Ff (s:={ s with heap:=h' }) e c d (by decide) ⟨x,H,I1,ru,⟨rfl,fun ys hy=>by rw[I.list_inj hy hq];exact hx⟩,st',fun b hb=>(hf b hb).1⟩⟩
 done:=by
  intro X hP hw hK hc i pins s σ H E I hf st hg;subst hP hw hK;obtain⟨xs,hq,hx⟩:=hg;obtain⟨its,rv,p,hz⟩:=I.list hq;obtain⟨f0,f1,f2,f3,f4,f5⟩:=hf it (by simp);have hl:=rv.length;exact wpAny_pyNext_list_end (I.ok.hd hc) st p.isList (by simp;omega) fun h' eb=>⟨rfl,I.turned (t':=s.toks) (fun b o hb e=>eb b o hb e) f0 f1 f3 f4 f5⟩
 self:=fun _ _ _ _ _ st h=>wpAny_pyIter_listiter st h
def IK {P:Program}{w:World}{K:Za}{tg:Expr} (a it:Addr):Turn P w K tg (Itt K a) [it] it (fun i h=>h.IsTupleIter it a i) where
 mem:=by simp
 obj:=fun i h st b hb=>by
  have e:b=it:=by simpa using hb
  subst e;obtain⟨o,e,c,d⟩:=st;exact⟨o,e,fun v z=>by rw[d] at z;cases z⟩
 keep:=fun i h h' st k=>st.at fun o e=>k it (by simp) o e
 item:=by
  intro X hP hw hK hc i pins s σ H E I hf st hg;subst hP hw hK;obtain⟨xs,x,hq,hx⟩:=hg;obtain⟨its,rv,p,hz⟩:=I.tuple hq;obtain⟨u,hu,ru⟩:=rv.get hx;obtain⟨f0,f1,f2,f3,f4,f5⟩:=hf it (by simp);refine wpAny_pyNext_tuple_item st (show s.heap.IsTuple a its.toArray from p) (x:=u) (by simpa using hu) fun h' st' sb=>?_
  have I1:Inv X pins σ H { s with heap:=h' }:=I.turned (t':=s.toks) (fun b o hb e=>(sb.2 b hb).trans e) f0 f1 f3 f4 f5
  obtain⟨o,e,c,d⟩:=id st';exact⟨u,rfl,Ff (s:={ s with heap:=h' }) e c d (by decide) ⟨x,H,I1,ru,⟨rfl,fun ys hy=>by rw[I.tuple_inj hy hq];exact hx⟩,st',fun b hb=>(hf b hb).1⟩⟩
 done:=by
  intro X hP hw hK hc i pins s σ H E I hf st hg;subst hP hw hK;obtain⟨xs,hq,hx⟩:=hg;obtain⟨its,rv,p,hz⟩:=I.tuple hq;obtain⟨f0,f1,f2,f3,f4,f5⟩:=hf it (by simp);have hl:=rv.length;exact wpAny_pyNext_tuple_end (I.ok.hd hc) st (show s.heap.IsTuple a its.toArray from p) (by simp;omega) fun h' eb=>⟨rfl,I.turned (t':=s.toks) (fun b o hb e=>eb b o hb e) f0 f1 f3 f4 f5⟩
 self:=fun _ _ _ _ _ st h=>wpAny_pyIter_tupleiter st h
def Zbp {P:Program}{w:World}{K:Za}{tg:Expr} (it:Addr) (lo:Int) (n:Nat):Turn P w K tg (Itr lo n) [it] it (fun i h=>IsRangeIter h it (lo+(i:Nat)*1) ((n:Int)-(i:Nat)) 1) where
 mem:=by simp
 obj:=fun i h st b hb=>by
  have e:b=it:=by simpa using hb
  subst e
  exact⟨_,st,fun v z=>by
   have z':Data.fields _=Data.cell v:=z;cases z'⟩
 keep:=fun i h h' st k=>k it (by simp) _ st
 item:=by
  intro X hP hw hK hc i pins s σ H E I hf st hg;subst hP hw hK;obtain⟨f0,f1,f2,f3,f4,f5⟩:=hf it (by simp);have W:=Walks.range (prog:=X.prog) (w:=X.w) (I.ok.hd hc) it lo 1 n;refine W.item i s _ _ hg st fun v h' tk hv st' kk=>?_;obtain⟨t,rfl⟩:=hv;have I1:Inv X pins σ H { s with heap:=h',toks:=tk }:=I.turned (fun b o hb e=>kk b o (by simpa using hb) e) f0 f1 f3 f4 f5
  refine⟨_,rfl,Ff (s:={ s with heap:=h',toks:=tk }) (n:="range_iterator") st' rfl rfl (by decide) ⟨.int (lo+i),H,I1,⟨t,?_⟩,⟨rfl,rfl⟩,st',fun b hb=>(hf b hb).1⟩⟩
  rw[Int.mul_one]
 done:=by
  intro X hP hw hK hc i pins s σ H E I hf st hg;subst hP hw hK;obtain⟨f0,f1,f2,f3,f4,f5⟩:=hf it (by simp);exact wpAny_pyNext_range_end (I.ok.hd hc) st (by have:n<=i:=hg;omega) fun h' eb=>⟨rfl,I.turned (t':=s.toks) (fun b o hb e=>eb b o hb e) f0 f1 f3 f4 f5⟩
 self:=fun _ _ _ _ _ st h=>wpAny_pyIter_rangeiter st h
section
variable {X:Cx}{tg:Expr}
def T5 (K:Za) (tl:TE):TI:=fun σ H R=>tl σ H fun x H1=>∃a,x=.ref a/\(∃xs,SqL K H1 a xs)/\R (Itl K a) H1
def iTup (K:Za) (tl:TE):TI:=fun σ H R=>tl σ H fun x H1=>∃a,x=.ref a/\(∃xs,SqT K H1 a xs)/\R (Itt K a) H1
def Dj {l:Expr}{tl:TE} (hl:PE X l tl):PI X tg l (T5 X.K tl):=by
 intro pins s σ H R I h;refine thn (hl pins s σ H _ I h) fun v s1 ⟨x,H1,I1,r1,q1⟩=>?_;obtain⟨a,e,⟨xs,hq⟩,q⟩:=q1;subst e;cases r1
 obtain⟨its,rv,p,hz⟩:=I1.list hq;refine wpAny_pyIter_list p.isList ?_;refine⟨s1.heap.objs.size,[s1.heap.objs.size],_,_,H1,rfl,I1.kept (t':=s1.toks) fun b o e=>Yu _ e,Mu a _,⟨_,Y6 _ rfl,rfl,rfl⟩,fun b hb=>?_,q⟩;have e:b=s1.heap.objs.size:=by simpa using hb
 subst e;exact I1.fpOk (Yx _) (I1.hok.fresh (Yx _))
def Zbd {l:Expr}{tl:TE} (hl:PE X l tl):PI X tg l (iTup X.K tl):=by
 intro pins s σ H R I h;refine thn (hl pins s σ H _ I h) fun v s1 ⟨x,H1,I1,r1,q1⟩=>?_;obtain⟨a,e,⟨xs,hq⟩,q⟩:=q1;subst e;cases r1
 obtain⟨its,rv,p,hz⟩:=I1.tuple hq;refine wpAny_pyIter_tuple (show s1.heap.IsTuple a its.toArray from p) ?_
 refine⟨s1.heap.objs.size,[s1.heap.objs.size],_,_,H1,rfl,I1.kept (t':=s1.toks) fun b o e=>Yu _ e,IK a _,⟨_,Y6 _ rfl,rfl,rfl⟩,fun b hb=>?_,q⟩;have e:b=s1.heap.objs.size:=by simpa using hb
 subst e;exact I1.fpOk (Yx _) (I1.hok.fresh (Yx _))
def CV {pins:List (Addr×Obj)}{σ:St}{H:Hp}{s:Shared}{R:It->Hp->Prop}{E:Value->Shared->Prop}{lo hi:Int}{t u v:Tok}{tk:Nat} (I:Inv X pins σ H s) (h1:-(2 ^ 62)<=lo) (h2:lo<2 ^ 62) (h3:-(2 ^ 62)<=hi) (h4:hi<2 ^ 62)
  (q:R (Itr lo (hi-lo).toNat) H):wpAny (model X.prog X.w) X.A (pyIter (.ref s.heap.objs.size)) (PIE X pins σ tg R) E { s with heap:=s.heap.push { cls:=.type "range",data:=.fields #[.int lo t,.int hi u,.int 1 v] },toks:=tk }:=by
 refine wpAny_pyIter_range (IsRange.new ..) (small_one h1 h2 h3 h4) ?_;have I1:Inv X pins σ H { s with heap:=s.heap.push { cls:=.type "range",data:=.fields #[.int lo t,.int hi u,.int 1 v] },toks:=tk }:=I.kept fun b o e=>Yu _ e
 refine⟨(s.heap.push { cls:=.type "range",data:=.fields #[.int lo t,.int hi u,.int 1 v] }).objs.size,[(s.heap.push { cls:=.type "range",data:=.fields #[.int lo t,.int hi u,.int 1 v] }).objs.size],_,_,H,rfl,
  I1.kept (t':=tk) fun b o e=>Yu _ e,Zbp _ lo (hi-lo).toNat,?_,fun b hb=>?_,q⟩
 ·have e1:lo+((0:Nat):Int)*1=lo:=by simp
  have e2:(((hi-lo).toNat:Nat):Int)-((0:Nat):Int)=Builtin.Range.rangeSize lo hi 1:=by rw[rangeSize_one];split<;>omega
  show IsRangeIter _ _ (lo+((0:Nat):Int)*1) ((((hi-lo).toNat:Nat):Int)-((0:Nat):Int)) 1;rw[e1,e2];exact Y6 _ rfl
 ·have e:b=(s.heap.push { cls:=.type "range",data:=.fields #[.int lo t,.int hi u,.int 1 v] }).objs.size:=by simpa using hb
  subst e;exact I1.fpOk (Yx _) (I1.hok.fresh (Yx _))
def Er (ta:TA):TI:=fun σ H R=>ta σ H fun vs H1=>∃j:Int,vs=[.int j]/\-(2 ^ 62)<=j/\j<2 ^ 62/\R (Itr 0 j.toNat) H1
def DR (ta:TA):TI:=fun σ H R=>ta σ H fun vs H1=>∃i j:Int,vs=[.int i,.int j]/\(-(2 ^ 62)<=i/\i<2 ^ 62/\-(2 ^ 62)<=j/\j<2 ^ 62)/\R (Itr i (j-i).toNat) H1
def X4 {a:Expr}{ta:TA}{p pos:Pos} (hg:Gl X "range") (hm:X.mg "range"=none) (ha:PA X [a] ta) (hs:starEach [a] X.env=[(false,eval a X.env)]:=by rfl):PI X tg (.Call (.Name "range" p) [a] [] pos) (Er ta):=by
 intro pins s σ H R I h;refine Call_ (TK I hg hm boot_range (Qy (thn (ha pos pins s σ H _ I h) fun us s1 ⟨vs,H1,I1,r1,q1⟩=>?_) hs rfl));obtain⟨j,e,q1,q2,q⟩:=q1;subst e;cases r1 with
 | cons r rr=>
  cases rr
  obtain⟨t,rfl⟩:=r;exact call_range_1 (CV I1 (by omega) (by omega) q1 q2 (by simpa using q))
def DH {a b:Expr}{ta:TA}{p pos:Pos} (hg:Gl X "range") (hm:X.mg "range"=none) (ha:PA X [a,b] ta) (hs:starEach [a,b] X.env=[(false,eval a X.env),(false,eval b X.env)]:=by rfl) (hs2:starEach [b] X.env=[(false,eval b X.env)]:=by rfl) :
  PI X tg (.Call (.Name "range" p) [a,b] [] pos) (DR ta):=by
 intro pins s σ H R I h;refine Call_ (TK I hg hm boot_range (Qy (thn (ha pos pins s σ H _ I h) fun us s1 ⟨vs,H1,I1,r1,q1⟩=>?_) (by rw[hs,hs2]) (by rw[hs2];rfl)));obtain⟨i,j,e,⟨q1,q2,q3,q4⟩,q⟩:=q1;subst e;cases r1 with
 | cons r rr=>
  cases rr with
  | cons r' rr=>
   cases rr
   obtain⟨t,rfl⟩:=r;obtain⟨t',rfl⟩:=r';exact call_range_2 (CV I1 q1 q2 q3 q4 q)
def tFor (wi:TI) (g:TG) (tb:TS):TS:=fun D σ H=>wi σ H fun J H1=>∃W:Nat->Nat->St->Hp->Prop,(∃m,W 0 m σ H1)/\∀i m σ H,W i m σ H->
 (J.stop i H/\D.nx σ H)\/(J.go i H/\∃N:St->Hp->Prop,(∀σ' H',N σ' H'->∃m',m'<m/\W (i+1) m' σ' H')/\∀x H',J.yld i H x H'->g x σ H' fun σ2 H2=>tb { D with nx:=N,ct:=N,bk:=D.nx } σ2 H2)
def T1 (fp:List Addr) (h:Heap):List (Addr×Obj):=fp.filterMap fun b=>(h.get? b).map fun o=>(b,o)
def TU {fp:List Addr}{h:Heap}{b:Addr}{o:Obj} (hb:b∈fp) (e:h.get? b=some o):(b,o)∈T1 fp h:=Vd.mpr ⟨b,hb,by rw[e];rfl⟩
def IS {fp:List Addr}{h:Heap}{p:Addr×Obj} (hp:p∈T1 fp h):p.1∈fp/\h.get? p.1=some p.2:=by
 obtain⟨b,hb,e⟩:=Vd.mp hp;cases q:h.get? b with
 | none=>rw[q] at e;cases e
 | some o=>
  rw[q] at e;have e':(b,o)=p:=Y2 e;subst e';exact⟨hb,q⟩
def Inv.pinned {pins:List (Addr×Obj)}{σ:St}{H:Hp}{s:Shared}{fp:List Addr} (I:Inv X pins σ H s) (hf:∀b∈fp,FpOk X pins H b) (ho:∀b∈fp,∃o,s.heap.get? b=some o/\∀v,o.data≠.cell v):Inv X (pins++T1 fp s.heap) σ H s:=
 I.pins_of fun p hp=>(YJ.mp hp).elim (fun z=>I.pin p (YR _ z)) fun z=>by
  obtain⟨hb,e⟩:=IS z;obtain⟨f0,f1,f2,_⟩:=hf p.1 hb;obtain⟨o,e',d⟩:=ho p.1 hb;rw[e] at e';cases e';exact⟨e,f0,f1,f2,d⟩
def Inv.unpinned {pins pl:List (Addr×Obj)}{σ:St}{H:Hp}{s:Shared} (I:Inv X (pins++pl) σ H s):Inv X pins σ H s:=I.pins_of fun p hp=>I.pin p (YR _ (WX _ hp))
def U4 {iter:Expr}{body:List Stmt}{wi:TI}{g:TG}{tb:TS}{pos:Pos} (hp:PassesOwn (model X.prog X.w) X.A X.env X.xe) (hc:X.calm=true) (hi:PI X tg iter wi) (hg:PG X tg g) (hb:PSs X body tb)
  (hs:∀x,foldedSetIterable iter X.env x=pure x:=by intro _;rfl):PS X (.For tg iter body [] pos) (tFor wi g tb):=by
 intro pins s σ H D I h;refine wpAny_For (thn (hi pins s σ H _ I h) fun v s1 h1=>thn h1 fun itv s2 h2=>?_) hs;obtain⟨it,fp,tn,J,H2,e,I2,T,st2,f2,W,⟨m0,w0⟩,turn⟩:=h2;subst e;have stat:∀{H':Hp},(∀b∈fp,H' b=none)->∀b∈fp,FpOk X pins H' b:=fun hn b hb=>⟨hn b hb,(f2 b hb).2⟩;refine codeAny_forLoop_any (fun n s'=>∃i σ' H',Inv X pins σ' H' s'/\tn i s'.heap/\(∀b∈fp,H' b=none)/\W i n σ' H') ?_ m0 ⟨0,σ,H2,I2,st2,fun b hb=>(f2 b hb).1,w0⟩;rintro n s3 ⟨i,σ3,H3,I3,st3,fr3,w3⟩;rcases turn i n σ3 H3 w3 with⟨stop,qn⟩|⟨go,N,hN,step⟩
 ·refine WR hp (thn (T.done X rfl rfl rfl hc i pins s3 σ3 H3 X.xe I3 (stat fr3) st3 stop) fun r s4 ⟨hr,I4⟩=>?_);subst hr;exact QR ⟨σ3,H3,I4,qn⟩
 ·refine WR hp (thn (T.item X rfl rfl rfl hc i pins s3 σ3 H3 X.xe I3 (stat fr3) st3 go) fun r s4 ⟨u,hr,h4⟩=>?_);subst hr;refine WR hp (thn h4 fun _ s5 ⟨x,H5,I5,r5,y5,st5,fr5⟩=>?_);have I5':=I5.pinned (stat fr5) (T.obj _ _ st5);refine WR hp (thn (hg _ s5 σ3 H5 x u _ I5' r5 (step x H5 y5)) fun _ s6 ⟨σ6,H6,I6,q6⟩=>?_);refine WR hp (thn (hb _ s6 σ6 H6 _ I6 q6) fun f s7 q7=>?_)
  have again:∀{σ7:St} {H7:Hp},Inv X (pins++T1 fp s5.heap) σ7 H7 s7->N σ7 H7->∃m,m<n/\∃i σ' H',Inv X pins σ' H' s7/\tn i s7.heap/\(∀b∈fp,H' b=none)/\W i m σ' H':=fun {σ7 H7} I7 n7=>by
   obtain⟨m',hm,w7⟩:=hN σ7 H7 n7;refine⟨m',hm,i+1,σ7,H7,I7.unpinned,T.keep _ _ _ st5 fun b hb o e=>(I7.pin (b,o) (YR _ (YR _ (TU hb e)))).1,fun b hb=>?_,w7⟩;obtain⟨o,e,d⟩:=T.obj _ _ st5 b hb;exact(I7.pin (b,o) (YR _ (YR _ (TU hb e)))).2.1
  cases f with
  | next=>obtain⟨σ7,H7,I7,n7⟩:=q7;exact again I7 n7
  | cont=>obtain⟨σ7,H7,I7,n7⟩:=q7;exact again I7 n7
  | brk=>obtain⟨σ7,H7,I7,q7⟩:=q7;exact⟨σ7,H7,I7.unpinned,q7⟩
  | ret v=>obtain⟨x7,σ7,H7,I7,r7,q7⟩:=q7;exact⟨x7,σ7,H7,I7.unpinned,r7,q7⟩
end
abbrev R2:=V->V->Hp->VK->Prop
def OpR (X:Cx) (f:Value->Value->Sem Value) (r:R2):Prop:=
 ∀(pins:List (Addr×Obj)) (s:Shared) (σ:St) (H:Hp) (x y:V) (v u:Value) (Q:VK),Inv X pins σ H s->RelV x v->RelV y u->r x y H Q->
  wpAny (model X.prog X.w) X.A (f v u) (EP X pins σ Q) X.xe s
def UnR (X:Cx) (f:Value->Sem Value) (r:V->Hp->VK->Prop):Prop:=
 ∀(pins:List (Addr×Obj)) (s:Shared) (σ:St) (H:Hp) (x:V) (v:Value) (Q:VK),Inv X pins σ H s->RelV x v->r x H Q->
  wpAny (model X.prog X.w) X.A (f v) (EP X pins σ Q) X.xe s
def UF (X:Cx) (f:Value) (r:List V->Hp->VK->Prop):Prop:=
 ∀(pins:List (Addr×Obj)) (s:Shared) (σ:St) (H:Hp) (xs:List V) (us:List Value) (Q:VK),Inv X pins σ H s->Vals xs us->r xs H Q->
  wpAny (model X.prog X.w) X.A (call f us) (EP X pins σ Q) X.xe s
def TruR (X:Cx) (r:V->Hp->(Bool->Hp->Prop)->Prop):Prop:=
 ∀(pins:List (Addr×Obj)) (s:Shared) (σ:St) (H:Hp) (x:V) (v:Value) (Q:Bool->Hp->Prop),Inv X pins σ H s->RelV x v->r x H Q->
  wpAny (model X.prog X.w) X.A (truthy v) (TP X pins σ Q) X.xe s
def tOp (r:R2) (ta tb:TE):TE:=fun σ H Q=>ta σ H fun x H1=>tb σ H1 fun y H2=>r x y H2 Q
def tUn (r:V->Hp->VK->Prop) (ta:TE):TE:=fun σ H Q=>ta σ H fun x H1=>r x H1 Q
def rI (C:Int->Int->Prop) (g:Int->Int->V):R2:=fun x y H Q=>∃i j,x=.int i/\y=.int j/\C i j/\Q (g i j) H
def rI0 (g:Int->Int->V):R2:=fun x y H Q=>∃i j,x=.int i/\y=.int j/\Q (g i j) H
def rU (g:Int->V):V->Hp->VK->Prop:=fun x H Q=>∃i,x=.int i/\Q (g i) H
section
variable {X:Cx}{a b c:Expr}{ta tb tc:TE}{pos:Pos}
def binT (ha:PE X a ta) (hb:PE X b tb) {pins:List (Addr×Obj)}{s:Shared}{σ:St}{H:Hp}{R:V->V->Hp->Prop} (I:Inv X pins σ H s)
  (h:ta σ H fun x H1=>tb σ H1 fun y H2=>R x y H2) {Q:Value->Shared->Prop} {f:Value->Value->Sem Value}
  (hf:∀v u s2 x y H2,Inv X pins σ H2 s2->RelV x v->RelV y u->R x y H2->wpAny (model X.prog X.w) X.A (f v u) Q X.xe s2) :
  wpAny (model X.prog X.w) X.A (eval a X.env) (fun v s₁=>wpAny (model X.prog X.w) X.A (eval b X.env) (fun u s₂=>wpAny (model X.prog X.w) X.A (f v u) Q X.xe s₂) X.xe s₁) X.xe s:=by
 refine thn (ha pins s σ H _ I h) fun v s1 ⟨x,H1,I1,r1,q1⟩=>?_;refine thn (hb pins s1 σ H1 _ I1 q1) fun u s2 ⟨y,H2,I2,r2,q2⟩=>?_;exact hf v u s2 x y H2 I2 r1 r2 q2
def J1 {op:Operator}{r:R2} (ho:OpR X (binaryOp op) r) (ha:PE X a ta) (hb:PE X b tb):PE X (.BinOp a op b pos) (tOp r ta tb):=by
 intro pins s σ H Q I h;exact wpAny_BinOp (binT ha hb I h fun v u s2 x y H2 I2 rx ry q=>ho pins s2 σ H2 x y v u Q I2 rx ry q)
def U9 {op:UnaryOp}{r:V->Hp->VK->Prop} (ho:UnR X (unaryOp op) r) (ha:PE X a ta):PE X (.UnaryOp op a pos) (tUn r ta):=by
 intro pins s σ H Q I h;exact UnaryOp_ (thn (ha pins s σ H _ I h) fun v s1 ⟨x,H1,I1,r1,q1⟩=>ho pins s1 σ H1 x v Q I1 r1 q1)
def opI {f:Value->Value->Sem Value}{C:Int->Int->Prop}{g:Int->Int->Int}
  (rule:∀(i j:Int) (t u:Tok) (s:Shared) (Q:Value->Shared->Prop) (E:Value->Shared->Prop),C i j->Q (.int (g i j) s.toks) { s with toks:=s.toks+1 }->wpAny (model X.prog X.w) X.A (f (.int i t) (.int j u)) Q E s) :
  OpR X f (rI C fun i j=>.int (g i j)):=by
 intro pins s σ H x y v u Q I rx ry h;obtain⟨i,j,rfl,rfl,hc,q⟩:=h;obtain⟨t,rfl⟩:=rx;obtain⟨t',rfl⟩:=ry;exact rule i j t t' s _ _ hc ⟨.int (g i j),H,I.tok _,⟨_,rfl⟩,q⟩
def opI0 {f:Value->Value->Sem Value}{g:Int->Int->Int}
  (rule:∀(i j:Int) (t u:Tok) (s:Shared) (Q:Value->Shared->Prop) (E:Value->Shared->Prop),Q (.int (g i j) s.toks) { s with toks:=s.toks+1 }->wpAny (model X.prog X.w) X.A (f (.int i t) (.int j u)) Q E s) :
  OpR X f (rI0 fun i j=>.int (g i j)):=by
 intro pins s σ H x y v u Q I rx ry h;obtain⟨i,j,rfl,rfl,q⟩:=h;obtain⟨t,rfl⟩:=rx;obtain⟨t',rfl⟩:=ry;exact rule i j t t' s _ _ ⟨.int (g i j),H,I.tok _,⟨_,rfl⟩,q⟩
def opB0 {f:Value->Value->Sem Value}{g:Int->Int->Bool}
  (rule:∀(i j:Int) (t u:Tok) (s:Shared) (Q:Value->Shared->Prop) (E:Value->Shared->Prop),Q (.bool (g i j)) s->wpAny (model X.prog X.w) X.A (f (.int i t) (.int j u)) Q E s) :
  OpR X f (rI0 fun i j=>.bl (g i j)):=by
 intro pins s σ H x y v u Q I rx ry h;obtain⟨i,j,rfl,rfl,q⟩:=h;obtain⟨t,rfl⟩:=rx;obtain⟨t',rfl⟩:=ry;exact rule i j t t' s _ _ ⟨.bl (g i j),H,I,rfl,q⟩
def CDiv (i j:Int):Prop:=0<j/\j<1073741824
def CPow (i j:Int):Prop:=0<=j/\j<=1000000/\i.natAbs<2 ^ 64
def CMul (i j:Int):Prop:=(-(2 ^ 64)<i/\i<2 ^ 64)\/(-(2 ^ 64)<j/\j<2 ^ 64)
def CMul.ok {i j:Int} (h:CMul i j):IntMulOk i j:=by
 rcases h with⟨h1,h2⟩|⟨h1,h2⟩
 ·exact .of_left (intBits_le_64 h1 h2)
 ·exact .of_right (intBits_le_64 h1 h2)
def JT:OpR X (binaryOp .Add) (rI0 fun i j=>.int (i+j)):=opI0 fun _ _ _ _ _ _ _ q=>add_int q
def UK:OpR X (binaryOp .Sub) (rI0 fun i j=>.int (i-j)):=opI0 fun _ _ _ _ _ _ _ q=>sub_int q
def Pe:OpR X (binaryOp .Mult) (rI CMul fun i j=>.int (i*j)):=opI fun _ _ _ _ _ _ _ hc q=>mul_int q hc.ok
def Uq:OpR X (binaryOp .FloorDiv) (rI CDiv fun i j=>.int (i / j)):=opI fun i j _ _ _ _ _ hc q=>by
 have h1:(0:Int)<j:=hc.1;have h2:j<1073741824:=hc.2;exact floordiv_int (by omega) (by rw[Int.fdiv_eq_ediv_of_nonneg i (by omega)];exact q) (.inl (PyProof.noPylong_small (by omega)))
def JQ:OpR X (binaryOp .Mod) (rI (fun _ j=>0<j) fun i j=>.int (i % j)):=opI fun i j _ _ _ _ _ hc q=>by
 have h1:(0:Int)<j:=hc;exact mod_int' (by omega) (by rw[Int.fmod_eq_emod_of_nonneg i (by omega)];exact q)
def BP:OpR X (binaryOp .Pow) (rI CPow fun i j=>.int (i ^ j.toNat)):=opI fun _ _ _ _ _ _ _ hc q=>pow_int_small hc.1 hc.2.1 hc.2.2 q
def unI {f:Value->Sem Value}{g:Int->Int}
  (rule:∀(i:Int) (t:Tok) (s:Shared) (Q:Value->Shared->Prop) (E:Value->Shared->Prop),Q (.int (g i) s.toks) { s with toks:=s.toks+1 }->wpAny (model X.prog X.w) X.A (f (.int i t)) Q E s) :
  UnR X f (rU fun i=>.int (g i)):=by
 intro pins s σ H x v Q I rx h;obtain⟨i,rfl,q⟩:=h;obtain⟨t,rfl⟩:=rx;exact rule i t s _ _ ⟨.int (g i),H,I.tok _,⟨_,rfl⟩,q⟩
def UD:UnR X (unaryOp .USub) (rU fun i=>.int (-i)):=unI fun _ _ _ _ _ q=>neg_int q
end
def scal:V->V->Bool
 | .non,.non=>true | .non,.int _=>true | .int _,.non=>true | .non,.bl _=>true | .bl _,.non=>true | .non,.str _=>true | .str _,.non=>true
 | .int _,.int _=>true | .bl _,.bl _=>true | .str _,.str _=>true | .byt _,.byt _=>true
 | .int _,.str _=>true | .str _,.int _=>true | .bl _,.str _=>true | .str _,.bl _=>true
 | _,_=>false
def rEq:R2:=fun x y H Q=>scal x y=true/\Q (.bl (decide (x=y))) H
def rNe:R2:=fun x y H Q=>scal x y=true/\Q (.bl (!decide (x=y))) H
def AD {i j:Int}:decide (V.int i=V.int j)=(i==j):=by
 rw[QS];simp
def As {i j:Bool}:decide (V.bl i=V.bl j)=(i==j):=by
 rw[QS];simp
def A8 {i j:Str}:decide (V.str i=V.str j)=(i==j):=by
 rw[QS];simp
def GK {i j:Array UInt8}:decide (V.byt i=V.byt j)=(i.toList==j.toList):=by
 rw[QS];cases i
 cases j
 simp
section
variable {X:Cx}{a b c:Expr}{ta tb tc:TE}{pos:Pos}
def Uk {pins:List (Addr×Obj)}{σ:St}{H:Hp}{s:Shared}{Q:VK}{k k':Bool} (I:Inv X pins σ H s) (q:Q (.bl k) H) (e:k=k'):EP X pins σ Q (.bool k') s:=by
 subst e;exact⟨.bl k,H,I,rfl,q⟩
def op_eq:OpR X (compareOp .Eq) rEq:=by
 intro pins s σ H x y v u Q I rx ry h;obtain⟨hs,q⟩:=h;cases x with
 | non=>
  cases rx
  cases y with
  | non=>cases ry;exact PySem.EqNone.eq_none_none (Uk I q (by simp))
  | bl j=>cases ry;exact PySem.EqNone.eq_none_bool (Uk I q (by simp))
  | int j=>obtain⟨t',rfl⟩:=ry;exact PySem.EqNone.eq_none_int (Uk I q (by simp))
  | str j=>obtain⟨t',rfl⟩:=ry;exact PySem.EqNone.eq_none_str (Uk I q (by simp))
  | _=>exact absurd (show false=true from hs) Y9
 | bl i=>
  cases rx
  cases y with
  | non=>cases ry;exact PySem.EqNone.eq_bool_none (Uk I q (by simp))
  | bl j=>cases ry;exact eq_bool (Uk I q As)
  | str j=>obtain⟨t',rfl⟩:=ry;exact PySem.EqMixed.eq_bool_str (Uk I q (by simp))
  | _=>exact absurd (show false=true from hs) Y9
 | int i=>
  obtain⟨t,rfl⟩:=rx;cases y with
  | non=>cases ry;exact PySem.EqNone.eq_int_none (Uk I q (by simp))
  | int j=>obtain⟨t',rfl⟩:=ry;exact eq_int (Uk I q AD)
  | str j=>obtain⟨t',rfl⟩:=ry;exact PySem.EqMixed.eq_int_str (Uk I q (by simp))
  | _=>exact absurd (show false=true from hs) Y9
 | str i=>
  obtain⟨t,rfl⟩:=rx;cases y with
  | non=>cases ry;exact PySem.EqNone.eq_str_none (Uk I q (by simp))
  | bl j=>cases ry;exact PySem.EqMixed.eq_str_bool (Uk I q (by simp))
  | int j=>obtain⟨t',rfl⟩:=ry;exact PySem.EqMixed.eq_str_int (Uk I q (by simp))
  | str j=>obtain⟨t',rfl⟩:=ry;exact eq_str (Uk I q A8)
  | _=>exact absurd (show false=true from hs) Y9
 | byt i=>
  obtain⟨t,rfl⟩:=rx;cases y with
  | byt j=>obtain⟨t',rfl⟩:=ry;exact PySem.W.eq_bytes (Uk I q GK)
  | _=>exact absurd (show false=true from hs) Y9
 | _=>cases y<;>exact absurd (show false=true from hs) Y9
def op_ne:OpR X (compareOp .NotEq) rNe:=by
 intro pins s σ H x y v u Q I rx ry h;obtain⟨hs,q⟩:=h;cases x with
 | non=>
  cases rx
  cases y with
  | non=>cases ry;exact PySem.EqNone.ne_none_none (Uk I q (by simp))
  | bl j=>cases ry;exact PySem.EqNone.ne_none_bool (Uk I q (by simp))
  | int j=>obtain⟨t',rfl⟩:=ry;exact PySem.EqNone.ne_none_int (Uk I q (by simp))
  | str j=>obtain⟨t',rfl⟩:=ry;exact PySem.EqNone.ne_none_str (Uk I q (by simp))
  | _=>exact absurd (show false=true from hs) Y9
 | bl i=>
  cases rx
  cases y with
  | non=>cases ry;exact PySem.EqNone.ne_bool_none (Uk I q (by simp))
  | bl j=>cases ry;exact ne_bool (Uk I q (YS not As))
  | str j=>obtain⟨t',rfl⟩:=ry;exact PySem.EqMixed.ne_bool_str (Uk I q (by simp))
  | _=>exact absurd (show false=true from hs) Y9
 | int i=>
  obtain⟨t,rfl⟩:=rx;cases y with
  | non=>cases ry;exact PySem.EqNone.ne_int_none (Uk I q (by simp))
  | int j=>obtain⟨t',rfl⟩:=ry;exact ne_int (Uk I q (YS not AD))
  | str j=>obtain⟨t',rfl⟩:=ry;exact PySem.EqMixed.ne_int_str (Uk I q (by simp))
  | _=>exact absurd (show false=true from hs) Y9
 | str i=>
  obtain⟨t,rfl⟩:=rx;cases y with
  | non=>cases ry;exact PySem.EqNone.ne_str_none (Uk I q (by simp))
  | bl j=>cases ry;exact PySem.EqMixed.ne_str_bool (Uk I q (by simp))
  | int j=>obtain⟨t',rfl⟩:=ry;exact PySem.EqMixed.ne_str_int (Uk I q (by simp))
  | str j=>obtain⟨t',rfl⟩:=ry;exact ne_str (Uk I q (YS not A8))
  | _=>exact absurd (show false=true from hs) Y9
 | byt i=>
  obtain⟨t,rfl⟩:=rx;cases y with
  | byt j=>obtain⟨t',rfl⟩:=ry;exact PySem.W.ne_bytes (Uk I q (YS not GK))
  | _=>exact absurd (show false=true from hs) Y9
 | _=>cases y<;>exact absurd (show false=true from hs) Y9
def Xh:OpR X (compareOp .Lt) (rI0 fun i j=>.bl (decide (i<j))):=opB0 fun _ _ _ _ _ _ _ q=>lt_int q
def Zap:OpR X (compareOp .LtE) (rI0 fun i j=>.bl (decide (i<=j))):=opB0 fun _ _ _ _ _ _ _ q=>le_int q
def UY:OpR X (compareOp .Gt) (rI0 fun i j=>.bl (decide (j<i))):=opB0 fun _ _ _ _ _ _ _ q=>gt_int q
def Pm:OpR X (compareOp .GtE) (rI0 fun i j=>.bl (decide (j<=i))):=opB0 fun _ _ _ _ _ _ _ q=>ge_int q
def OpR.or {f:Value->Value->Sem Value}{r r':R2} (h:OpR X f r) (h':OpR X f r'):OpR X f (fun x y H Q=>r x y H Q\/r' x y H Q):=by
 intro pins s σ H x y v u Q I rx ry q;rcases q with q|q
 ·exact h pins s σ H x y v u Q I rx ry q
 ·exact h' pins s σ H x y v u Q I rx ry q
def JN (b:Expr) {op:CmpOp} (h:op≠.In:=by decide) (h2:op≠.NotIn:=by decide):behindInMarks op b=false:=by
 have e1:(op==CmpOp.In)=false:=by cases op<;>first|rfl|exact absurd rfl h
 have e2:(op==CmpOp.NotIn)=false:=by cases op<;>first|rfl|exact absurd rfl h2
 cases b<;>simp[behindInMarks,e1,e2]
def K0 {op:CmpOp}{r:R2} (ho:OpR X (compareOp op) r) (ha:PE X a ta) (hb:PE X b tb) (hm:behindInMarks op b=false):PE X (.Compare a [op] [b] pos) (tOp r ta tb):=by
 intro pins s σ H Q I h;exact wpAny_Compare1 (binT ha hb I h fun v u s2 x y H2 I2 rx ry q=>ho pins s2 σ H2 x y v u Q I2 rx ry q) hm
def Ng (t:TE):TT:=fun σ H Q=>t σ H fun x H'=>∃k,x=.bl k/\Q k H'
def JL {op:CmpOp}{r:R2} (ho:OpR X (compareOp op) r) (ha:PE X a ta) (hb:PE X b tb) (hm:behindInMarks op b=false):PT X (.Compare a [op] [b] pos) (Ng (tOp r ta tb)):=by
 intro pins s σ H Q I h
 refine wpAny_isTrue_Compare1 (thn (ha pins s σ H _ I h) fun v s1 ⟨x,H1,I1,r1,q1⟩=>thn (hb pins s1 σ H1 _ I1 q1) fun u s2 ⟨y,H2,I2,r2,q2⟩=>
  thn (ho pins s2 σ H2 x y v u _ I2 r1 r2 q2) fun c s3 ⟨z,H3,I3,r3,k,e,q3⟩=>?_) hm
 subst e;cases r3
 exact WU ⟨H3,I3,q3⟩
def TruV (K:Za) (x:V) (H:Hp) (k:Bool):Prop:=
 match x with
 | .non=>k=false
 | .bl b=>k=b
 | .int i=>k=(i != 0)
 | .str y=>y.length<=sizeLine/\k=((y.length:Int) != 0)
 | .byt y=>y.size<=sizeLine/\k=((y.size:Int) != 0)
 | .ref p=>(∃xs,SqL K H p xs/\k=!xs.isEmpty)\/(∃xs,SqT K H p xs/\k=!xs.isEmpty)\/∃kvs,H p=some (.dK kvs)/\k=!kvs.isEmpty
 | _=>False
def Zbq {κ:Type}{kvs:List (κ×V)}{vs:List (κ×Value)} (r:KV kvs vs):(!vs.isEmpty)=!kvs.isEmpty:=by
 cases r<;>rfl
def G6 {xs:List V}{its:List Value} (r:Vals xs its):(!its.toArray.isEmpty)=!xs.isEmpty:=by
 cases r<;>simp
def N4:(sizeLine:Nat)<2 ^ 63:=by rw[sizeLine_eq];decide
def Zag:TruR X (fun x H Q=>∃k,TruV X.K x H k/\Q k H):=by
 intro pins s σ H x v Q I rx h;obtain⟨k,e,q⟩:=h;have hl:=N4;have hs:sizeLine=16777216:=sizeLine_eq;cases x with
 | non=>
  cases rx
  have e':k=false:=e;subst e';exact truthy_none ⟨H,I,q⟩
 | bl b=>
  cases rx
  have e':k=b:=e;subst e';exact WU ⟨H,I,q⟩
 | int i=>
  obtain⟨t,rfl⟩:=rx;have e':k=(i != 0):=e;subst e';exact PySem.P.truthy_int ⟨H,I,q⟩
 | str y=>
  obtain⟨t,rfl⟩:=rx;obtain⟨hy,e'⟩:y.length<=sizeLine/\k=((y.length:Int) != 0):=e;subst e';exact PySem.P.truthy_str (by omega) ⟨H,I.tok _,q⟩
 | byt y=>
  obtain⟨t,rfl⟩:=rx;obtain⟨hy,e'⟩:y.size<=sizeLine/\k=((y.size:Int) != 0):=e;subst e';exact PySem.W.truthy_bytes (by omega) ⟨H,I.tok _,q⟩
 | ref p=>
  cases rx
  have e':(∃xs,SqL X.K H p xs/\k=!xs.isEmpty)\/(∃xs,SqT X.K H p xs/\k=!xs.isEmpty)\/∃kvs,H p=some (.dK kvs)/\k=!kvs.isEmpty:=e;rcases e' with⟨xs,hx,e'⟩|⟨xs,hx,e'⟩|⟨kvs,hx,e'⟩
  ·subst e';obtain⟨its,r,pl,hz⟩:=I.list hx;have hlen:=r.length;exact wpAny_truthy_list pl.isList (by simp only[Y8];omega) ⟨H,I.tok _,by rw[G6 r];exact q⟩
  ·subst e';obtain⟨its,r,pl,hz⟩:=I.tuple hx;have hlen:=r.length;exact truthy_tuple pl (by simp only[Y8];omega) ⟨H,I.tok _,by rw[G6 r];exact q⟩
  ·subst e';obtain⟨hz,hS,vs,r,m⟩:kvs.length<=sizeLine/\(p==sysModules)=false/\∃vs,KV kvs vs/\s.heap.DictOf (Xj X.prog X.w) p vs:=I.hok p _ hx;have hlen:kvs.length=vs.length:=Paired.length r;exact wpAny_truthy_dict hS m (by omega) ⟨H,I.tok _,by rw[Zbq r];exact q⟩
 | _=>exact(show False from e).elim
def HK (ha:PE X a ta) (he:∀whole,isTrue a X.env whole=(do let v ←whole;standAt a.pos;holding [v] (truthy v))) :
  PT X a (fun σ H Q=>ta σ H fun x H'=>∃k,TruV X.K x H' k/\Q k H'):=by
 intro pins s σ H Q I h;exact isTrue_plain (thn (ha pins s σ H _ I h) fun v s1 ⟨x,H1,I1,r1,q1⟩=>Zag pins s1 σ H1 x v Q I1 r1 q1) (he _)
def vals1 {x:V}{us:List Value} (r:Vals [x] us):∃u,us=[u]/\RelV x u:=by
 cases r with
 | cons r1 r2=>cases r2;exact⟨_,rfl,r1⟩
def vals2 {x y:V}{us:List Value} (r:Vals [x,y] us):∃u w',us=[u,w']/\RelV x u/\RelV y w':=by
 cases r with
 | cons r1 r2=>
  cases r2 with
  | cons r3 r4=>cases r4;exact⟨_,_,rfl,r1,r3⟩
def Gj (hc:X.calm=true):UF X (.builtin "max") (fun xs H Q=>∃i j,xs=[.int i,.int j]/\Q (.int (if j>i then j else i)) H):=by
 intro pins s σ H xs us Q I r h;obtain⟨i,j,rfl,q⟩:=h;obtain⟨u,w',rfl,⟨t,rfl⟩,⟨t',rfl⟩⟩:=vals2 r;refine max_two_ints (I.ok.hd hc) fun h' tk k=>⟨_,H,I.kept k,?_,q⟩;by_cases hj:j>i
 ·rw[Yr hj,Yr hj];exact⟨_,rfl⟩
 ·rw[Yq hj,Yq hj];exact⟨_,rfl⟩
def Ie:UF X (.type "int") (fun xs H Q=>(∃i,xs=[.int i]/\Q (.int i) H)\/∃k,xs=[.bl k]/\Q (.int (if k then 1 else 0)) H):=by
 intro pins s σ H xs us Q I r h;rcases h with⟨i,rfl,q⟩|⟨k,rfl,q⟩
 ·obtain⟨u,rfl,t,rfl⟩:=vals1 r;exact call_int_int ⟨.int i,H,I,⟨_,rfl⟩,q⟩
 ·obtain⟨u,rfl,r1⟩:=vals1 r;cases r1
  exact call_int_bool ⟨.int (if k then 1 else 0),H,I.tok _,⟨_,rfl⟩,q⟩
def LenV (K:Za) (x:V) (H:Hp) (n:Nat):Prop:=
 match x with
 | .str y=>y.length<=sizeLine/\n=y.length
 | .byt y=>y.size<=sizeLine/\n=y.size
 | .ref p=>(∃xs,SqL K H p xs/\n=xs.length)\/∃xs,SqT K H p xs/\n=xs.length
 | _=>False
def Zao:UF X (.builtin "len") (fun xs H Q=>∃x n,xs=[x]/\LenV X.K x H n/\Q (.int n) H):=by
 intro pins s σ H xs us Q I r h;obtain⟨x,n,rfl,e,q⟩:=h;obtain⟨u,rfl,rx⟩:=vals1 r;have hl:=N4;have hs:sizeLine=16777216:=sizeLine_eq;cases x with
 | str y=>
  obtain⟨t,rfl⟩:=rx;obtain⟨hy,e'⟩:y.length<=sizeLine/\n=y.length:=e;subst e';exact len_str (by omega) ⟨.int _,H,I.tok _,⟨_,rfl⟩,q⟩
 | byt y=>
  obtain⟨t,rfl⟩:=rx;obtain⟨hy,e'⟩:y.size<=sizeLine/\n=y.size:=e;subst e';exact PySem.W.len_bytes (by omega) ⟨.int _,H,I.tok _,⟨_,rfl⟩,q⟩
 | ref p=>
  cases rx
  have e':(∃xs,SqL X.K H p xs/\n=xs.length)\/∃xs,SqT X.K H p xs/\n=xs.length:=e;rcases e' with⟨xs,hx,e'⟩|⟨xs,hx,e'⟩
  ·subst e';obtain⟨its,r',pl,hz⟩:=I.list hx;have hlen:=r'.length;exact Calls.call_len_list pl.isList (by simp only[Y8];omega) ⟨.int xs.length,H,I.tok _,⟨_,by simp only[Y8];rw[hlen]⟩,q⟩
  ·subst e';obtain⟨its,r',pl,hz⟩:=I.tuple hx;have hlen:=r'.length;exact len_tuple pl (by simp only[Y8];omega) ⟨.int xs.length,H,I.tok _,⟨_,by simp only[Y8];rw[hlen]⟩,q⟩
 | _=>exact(show False from e).elim
end
structure ObjM (h:Heap) (x dx C:Addr) (mA:Str->Option Value):Prop where
 obj:h.get? x=some (PySem.W.instObj C dx)
 ns:h.Ns1 dx mA
 ne:dx≠x
def R3 {h:Heap}{dx:Addr}{mA:Str->Option Value} (n:h.Ns1 dx mA):∃od,h.get? dx=some od/\∀name,PySem.W.lookIn name od=some (mA name):=by
 obtain⟨o,es,ep,ho,hd,hk,_,hm⟩:=n;refine⟨o,ho,fun name=>?_⟩;have e:=hm name;unfold nsFind findBy at e;rw[←Array.find?_toList] at e;unfold PySem.W.lookIn;rw[hd]
 dsimp only
 split
 ·rename_i y q;rw[q] at e;exact YS some e
 ·rename_i q;rw[q] at e
  have a:es.toList.any (·.refKey)=false:=by
   rw[Vh];intro y hy;obtain⟨z,t,hkey⟩:=hk y (Array.mem_toList_iff.mp hy);simp[DictEntry.refKey,hkey]
  have a':¬es.toList.any (·.refKey)=true:=by rw[a];exact Y9
  rw[Yq a'];exact YS some e
def ObjM.look {h:Heap}{x dx C:Addr}{mA:Str->Option Value} (I:ObjM h x dx C mA):∃od,PySem.W.InstAt h x (PySem.W.instObj C dx) C (some od)/\∀name,PySem.W.lookIn name od=some (mA name):=
 let ⟨od,ho,hl⟩:=R3 I.ns
 ⟨od,⟨I.obj,rfl,rfl,ho⟩,hl⟩
section
variable {prog:Program}{w:World}{A:Around}{E:Value->Shared->Prop}{s:Shared}{K:Za}{x dx C f:Addr}{mA:Str->Option Value}{name:Str}{v:Value}
def RV {expr:Bool}{Q:Value->Shared->Prop} (X:K.In s.heap) (I:ObjM s.heap x dx C mA) (hg:PySem.W.plainGet K C name=true) (hh:PySem.W.hasDictIn K C=true)
  (ha:PySem.W.findIn K (.ref C) name=some none) (hv:mA name=some v) (hv':PySem.W.handedIn v=true) (h:Q v { s with toks:=s.toks+1 }) :
  wpAny (model prog w) A (getAttr (.ref x) name expr) Q E s:=by
 obtain⟨od,J,hl⟩:=I.look;exact PySem.W.get_value X J (QZ hg).1 (PySem.W.findObj_own hh ha rfl (by rw[hl,hv])) hv' h
def R7 {pl:Sem Bool}{Q:Value×List Value->Shared->Prop} (X:K.In s.heap) (I:ObjM s.heap x dx C mA) (hg:PySem.W.plainGet K C name=true)
  (hf:PySem.W.findIn K (.ref C) name=some (some (.ref f))) (ht:PySem.W.isFn K (.ref f)=true) (hv:mA name=none) (h:Q (.ref f,[.ref x]) s) :
  wpAny (model prog w) A (getMethod (.ref x) name pl) Q E s:=by
 obtain⟨od,J,hl⟩:=I.look;exact PySem.W.method_fn X J (QZ hg).1 (QZ hg).2 hf (beq_iff_eq.mp ht) (by show(PySem.W.lookIn name od).map (·.isSome)=some false;rw[hl,hv];rfl) h
def Zbj {ns:List Str}{Q:Unit->Shared->Prop} (X:K.In s.heap) (I:ObjM s.heap x dx C mA)
  (hs:PySem.W.findIn K (.ref C) "__setattr__"=some (some (.builtin "object.__setattr__"))) (hp:PySem.W.plainOver K C=true) (ht:PySem.W.takerIn K C name=some none) (hh:PySem.W.hasDictIn K C=true)
  (hw:PySem.Within mA ns) (hsz:ns.length<=sizeLine)
  (h:∀h',ObjM h' x dx C (fun y=>if y=name then some v else mA y)->Heap.SameBut dx s.heap h'->Q () { s with heap:=h',toks:=s.toks+2 }) :
  wpAny (model prog w) A (setAttr (.ref x) name v) Q E s:=by
 obtain⟨od,J,hl⟩:=I.look;refine PySem.W.set_plain X J hs (PySem.W.osa_open (s:={ s with toks:=s.toks+1 }) (r:=none) X J hp ht fun b=>?_)
 obtain⟨cd,hc,hd'⟩:=PySem.W.any_some hh;have hx:s.heap.get? x=some ⟨.ref C,some dx,.plain,#[]⟩:=I.obj;refine Yp (Yt (Yp (Yp (wpAny_loadPart hx (Yp (PySem.W.Looks.here (s:={ s with toks:=s.toks+1 }) (PySem.W.looks_clsIn X hc) ?_))))))
 rw[hd'];refine Yt (a:=some dx) (Yp (Yt (Yp ?_)));refine wpAny_nsSet1 (s:={ s with toks:=s.toks+1 }) I.ns fun h' hn2 hs2=>?_
 obtain⟨oD,esD,epD,hoD,hdD,hcD⟩:=hn2.count (PySem.Within.cons name v hw);refine Yp (wpAny_lookBehind hoD (by rw[hdD];exact pastItsLine_dict (Y7 hcD (by rw[YC];omega))) ?_);exact Yt (h _ ⟨(hs2.2 _ (Ne.symm I.ne)).trans I.obj,hn2,I.ne⟩ hs2)
def Zdo {R:Result->Shared->Prop}{vs:List Value}{kw:List (Str×Value)} (X:K.In s.heap) (hm:PySem.W.makesIn K C=true)
  (hi:PySem.W.findIn K (.ref C) "__init__"=some (some (.ref f))) (hf:PySem.W.typeIn K (.ref f)=some (.type "function"))
  (h:codeAny (model prog w) (A.under (.builtin "type.__call__" ⟨.ref C::vs,kw⟩)) (.call (.ref f) ⟨.ref (s.heap.objs.size+1)::vs,kw⟩) (PySem.W.InitBack (s.heap.objs.size+1) R)
   { s with heap:=(s.heap.push PySem.W.emptyDict).push (PySem.W.instObj C s.heap.objs.size) }) :
  codeAny (model prog w) A (.call (.ref C) ⟨vs,kw⟩) R s:=by
 obtain⟨hh,g,d,t,os⟩:=s;exact PySem.W.make_core (PySem.W.makes_of X hm) (PySem.W.looks_findIn X hi) (fun self=>PySem.W.bind_fn X self hf) (.inl rfl) h
end
def putF (f:Str) (v:V):List (Str×V)->List (Str×V)
 | []=>[(f,v)]
 | (g,x)::r=>if g=f then(g,v)::r else(g,x)::putF f v r
def Cy (f g:Str) (v:V):∀fs:List (Str×V),(putF f v fs).lookup g=if g=f then some v else fs.lookup g
 | []=>by
  show List.lookup g [(f,v)]=_;by_cases h:g=f
  ·have hb:(g==f)=true:=beq_iff_eq.mpr h;simp only[List.lookup,hb,Yr h]
  ·have hb:(g==f)=false:=WA.mpr h;simp only[List.lookup,hb,Yq h]
 | (k,x)::r=>by
  have ih:=Cy f g v r;rw[show putF f v ((k,x)::r)=(if k=f then(k,v)::r else(k,x)::putF f v r) from rfl]
  by_cases hk:k=f
  ·rw[Yr hk];by_cases h:g=k
   ·have hb:(g==k)=true:=beq_iff_eq.mpr h;simp only[List.lookup,hb,Yr (h.trans hk)]
   ·have hb:(g==k)=false:=WA.mpr h;simp only[List.lookup,hb,Yq (fun e:g=f=>h (e.trans hk.symm))]
  ·rw[Yq hk];by_cases h:g=k
   ·have hb:(g==k)=true:=beq_iff_eq.mpr h;simp only[List.lookup,hb,Yq (fun e:g=f=>hk (h.symm.trans e))]
   ·have hb:(g==k)=false:=WA.mpr h;simp only[List.lookup,hb];exact ih
def SC (f:Str) (v:V):∀fs:List (Str×V),f∈(putF f v fs).map (·.1)/\∀g,g∈fs.map (·.1)->g∈(putF f v fs).map (·.1)
 | []=>⟨by simp[putF],fun g h=>by simp at h⟩
 | (k,x)::r=>by
  obtain⟨i1,i2⟩:=SC f v r;rw[show putF f v ((k,x)::r)=(if k=f then(k,v)::r else(k,x)::putF f v r) from rfl]
  by_cases hk:k=f
  ·rw[Yr hk];subst hk;exact⟨by simp,fun g h=>by simpa using h⟩
  ·rw[Yq hk];refine⟨?_,fun g h=>?_⟩
   ·rw[YA];exact YF _ i1
   ·rw[YA] at h ⊢;rcases Y5.mp h with e|e
    ·exact Y5.mpr (.inl e)
    ·exact YF _ (i2 g e)
def Ed (f:Str) (v:V):∀fs:List (Str×V),(putF f v fs).length<=fs.length+1
 | []=>by simp[putF]
 | (k,x)::r=>by
  have ih:=Ed f v r;rw[show putF f v ((k,x)::r)=(if k=f then(k,v)::r else(k,x)::putF f v r) from rfl]
  by_cases hk:k=f
  ·rw[Yr hk,YC,YC];omega
  ·rw[Yq hk,YC,YC];omega
def RelO.some_of {v:V}{o:Option Value} (r:RelO (some v) o):∃u,o=some u/\RelV v u:=by
 cases o with
 | none=>exact(show False from r).elim
 | some u=>exact⟨u,rfl,r⟩
def RelO.none_of {o:Option Value} (r:RelO none o):o=none:=by
 cases o with
 | none=>rfl
 | some u=>exact(show False from r).elim
def Zdh {v:V}{u:Value} (r:RelV v u):PySem.W.handedIn u=true:=by
 cases v with
 | non=>cases (show u=Value.none from r);rfl
 | bl b=>cases (show u=Value.bool b from r);rfl
 | int i=>obtain⟨t,e⟩:=(show ∃t,u=Value.int i t from r);cases e;rfl
 | str x=>obtain⟨t,e⟩:=(show ∃t,u=Value.str x t from r);cases e;rfl
 | byt b=>obtain⟨t,e⟩:=(show ∃t,u=Value.bytes b t from r);cases e;rfl
 | flt b=>obtain⟨t,e⟩:=(show ∃t,u=Value.float b t from r);cases e;rfl
 | ref a=>cases (show u=Value.ref a from r);rfl
 | ty n=>cases (show u=Value.type n from r);rfl
section
variable {P:Program}{w:World}{H H':Hp}{h h':Heap}{a C dx:Addr}{fs fs':List (Str×V)}
def NF (hok:HOk P w H h) (e:H a=some (.ins C dx fs)):∃mA,ObjM h a dx C mA/\(∀f,RelO (fs.lookup f) (mA f))/\PySem.Within mA (fs.map (·.1))/\fs.length<=1000/\H dx=some (.own a):=by
 obtain⟨d,z,ne,ob,mA,n,r,q⟩:=(show ObjOk P w H h a (.ins C dx fs) from hok a _ e)
 exact⟨mA,⟨ob,n,ne⟩,r,q,z,d⟩
end
structure Cls (K:Za) (C:Addr):Prop where
 pg:PySem.W.plainGet K C Str.empty=true
 hd:PySem.W.hasDictIn K C=true
 po:PySem.W.plainOver K C=true
 sa:PySem.W.findIn K (.ref C) "__setattr__"=some (some (.builtin "object.__setattr__"))
def Cls.get {K:Za}{C:Addr} (c:Cls K C) (f:Str):PySem.W.plainGet K C f=true:=c.pg
def NoAttr (K:Za) (C:Addr) (f:Str):Prop:=PySem.W.findIn K (.ref C) f=some none
def NoAttr.taker {K:Za}{C:Addr}{f:Str} (n:NoAttr K C f):PySem.W.takerIn K C f=some none:=by
 unfold PySem.W.takerIn;rw[show PySem.W.findIn K (.ref C) f=some none from n]
 rfl
structure Meth (K:Za) (C:Addr) (m:Str) (f:Addr):Prop where
 at_:PySem.W.findIn K (.ref C) m=some (some (.ref f))
 fn:PySem.W.isFn K (.ref f)=true
 kp:PySem.W.keepIn K (.ref f)=true
section
variable {X:Cx}{pins:List (Addr×Obj)}{σ:St}{H:Hp}{s:Shared}{a C dx:Addr}{fs:List (Str×V)}{f:Str}{v:V}{A:Around}{E:Value->Shared->Prop}
def L5 {b:Bool}{Q:Value->Shared->Prop} (I:Inv X pins σ H s) (e:H a=some (.ins C dx fs)) (c:Cls X.K C) (n:NoAttr X.K C f) (l:fs.lookup f=some v)
  (h:∀u s',Inv X pins σ H s'->RelV v u->Q u s'):wpAny (model X.prog X.w) A (getAttr (.ref a) f b) Q E s:=by
 obtain⟨mA,O,r,_,_,_⟩:=NF I.hok e;obtain⟨u,hu,ru⟩:=RelO.some_of (v:=v) (o:=mA f) (by rw[←l];exact r f);exact RV I.kIn O (c.get f) c.hd n hu (Zdh ru) (h u _ (I.tok _) ru)
def SU {m:Str}{g:Addr}{pl:Sem Bool}{Q:Value×List Value->Shared->Prop} (I:Inv X pins σ H s) (e:H a=some (.ins C dx fs)) (c:Cls X.K C) (k:Meth X.K C m g) (l:fs.lookup m=none)
  (h:Q (.ref g,[.ref a]) s):wpAny (model X.prog X.w) A (getMethod (.ref a) m pl) Q E s:=by
 obtain⟨mA,O,r,_,_,_⟩:=NF I.hok e;have hn:mA m=none:=RelO.none_of (by rw[←l];exact r m);exact R7 I.kIn O (c.get m) k.at_ k.fn hn h
def MN {y:V}{u:Value}{Q:Unit->Shared->Prop} (I:Inv X pins σ H s) (e:H a=some (.ins C dx fs)) (c:Cls X.K C) (n:NoAttr X.K C f) (hl:fs.length<1000) (ry:RelV y u)
  (h:∀s',Inv X pins σ (upd H a (.ins C dx (putF f y fs))) s'->Q () s'):wpAny (model X.prog X.w) A (setAttr (.ref a) f u) Q E s:=by
 obtain⟨mA,O,r,wi,_,ho⟩:=NF I.hok e;have hz:(fs.map (·.1)).length<=sizeLine:=by rw[Yn,sizeLine_eq];omega
 refine Zbj I.kIn O c.sa c.po n.taker c.hd wi hz fun h' O' sb=>h _ ?_;have hd:∃o,h'.get? dx=some o:=let ⟨o,_,_,e',_⟩:=O'.ns;⟨o,e'⟩;refine I.write (x:=a) (e:=dx) (by rw[e];exact True.intro) (.inr ho) (fun b q hb z=>(sb.2 b hb).trans z) hd ?_;refine⟨by rw[JW O.ne];exact ho,?_,O.ne,O'.obj,_,O'.ns,fun g=>?_,fun g hg=>?_⟩
 ·have:=Ed f y fs;omega
 ·show RelO ((putF f y fs).lookup g) (if g=f then some u else mA g);rw[Cy];by_cases q:g=f
  ·rw[Yr q,Yr q];exact ry
  ·rw[Yq q,Yq q];exact r g
 ·by_cases q:g=f
  ·rw[q];exact(SC f y fs).1
  ·refine(SC f y fs).2 g (wi g fun z=>hg ?_);show(if g=f then some u else mA g)=none;rw[Yq q];exact z
def Inv.made (I:Inv X pins σ H s):Inv X pins σ (upd (upd H s.heap.objs.size (.own (s.heap.objs.size+1))) (s.heap.objs.size+1) (.ins C s.heap.objs.size []))
  { s with heap:=(s.heap.push PySem.W.emptyDict).push (PySem.W.instObj C s.heap.objs.size) }:=by
 have e1:(s.heap.push PySem.W.emptyDict).get? s.heap.objs.size=some PySem.W.emptyDict:=Y6 s.heap rfl
 have e2:((s.heap.push PySem.W.emptyDict).push (PySem.W.instObj C s.heap.objs.size)).get? (s.heap.objs.size+1)=some (PySem.W.instObj C s.heap.objs.size):=by
  have:=Y6 (s.heap.push PySem.W.emptyDict) (o:=PySem.W.instObj C s.heap.objs.size) rfl
  rwa[Qb] at this
 have e3:(s.heap.push PySem.W.emptyDict).Ns s.heap.objs.size (fun _=>none):=⟨PySem.W.emptyDict,#[],_,e1,rfl,(fun e he=>absurd he (by simp)),fun _=>rfl⟩;have I1:=I.laid (a:=s.heap.objs.size) (o:=.own (s.heap.objs.size+1)) (h':=s.heap.push PySem.W.emptyDict) (t':=s.toks) (fun b u q=>Yu _ q) (Yx _) ⟨_,e1⟩;refine I1.laid (a:=s.heap.objs.size+1) (o:=.ins C s.heap.objs.size []) (t':=s.toks) (fun b u q=>Yu _ q) (WG (Qb _ _)) ?_;have ne:s.heap.objs.size≠s.heap.objs.size+1:=YL (Qd _);refine⟨by rw[JW ne,Uj],Wy _,ne,e2,fun _=>none,(Heap.Ns1.of_empty e3).at fun o q=>Yu _ q,fun _=>True.intro,fun y hy=>absurd rfl hy⟩
def R9 {prog:Program}{w:World}{env:Env}{e:Expr}{f:Str}{pos:Pos}{s:Shared}{Q:Value->Shared->Prop} (hb:attributeBase e f env (eval e env)=eval e env)
  (h:wpAny (model prog w) A (eval e env) (fun o s₁=>wpAny (model prog w) A (getAttr o f true) Q E s₁) E s):wpAny (model prog w) A (eval (.Attribute e f pos) env) Q E s:=
 Attribute_any_ h (by rw[arm_eval_Attribute,hb])
end
def tFld (K:Za) (ta:TE) (f:Str):TE:=fun σ H Q=>ta σ H fun x H1=>∃a C dx fs v,x=.ref a/\H1 a=some (.ins C dx fs)/\Cls K C/\NoAttr K C f/\fs.lookup f=some v/\Q v H1
def sFld (K:Za) (ta tv:TE) (f:Str):TS:=fun D σ H=>tv σ H fun y H1=>ta σ H1 fun x H2=>∃a C dx fs,x=.ref a/\H2 a=some (.ins C dx fs)/\Cls K C/\NoAttr K C f/\fs.length<1000/\
 D.nx σ (upd H2 a (.ins C dx (putF f y fs)))
section
variable {X:Cx}{o e value:Expr}{f:Str}{pos pos' tpos:Pos}{ta tv:TE}
def XB (he:PE X e ta) (hb:attributeBase e f X.env (eval e X.env)=eval e X.env):PE X (.Attribute e f pos) (tFld X.K ta f):=by
 intro pins s σ H Q I h;refine R9 hb (thn (he pins s σ H _ I h) fun u s1 ⟨x,H1,I1,rx,a,C,dx,fs,v,ex,ea,c,n,l,q⟩=>?_);subst ex;obtain rfl:u=Value.ref a:=rx;exact L5 I1 ea c n l fun u' s2 I2 ru=>⟨v,H1,I2,ru,q⟩
def BC (ha:PE X o ta) (hv:PE X value tv) (hs:swapsWith value (some (.Attribute o f pos')) pos.line X.env=pure false):PS X (.Assign [.Attribute o f pos'] value pos) (sFld X.K ta tv f):=by
 intro pins s σ H D I h;refine plainObj_wpAny_Assign_Attribute (thn (hv pins s σ H _ I h) fun u s1 ⟨y,H1,I1,ry,q⟩=>thn (ha pins s1 σ H1 _ I1 q) fun ov s2 ⟨x,H2,I2,rx,a,C,dx,fs,ex,ea,c,n,l,q2⟩=>?_) hs;subst ex;obtain rfl:ov=Value.ref a:=rx;exact MN I2 ea c n l ry fun s3 I3=>⟨σ,_,I3,q2⟩
def Zeu {pl:Sem Bool}{m:Str}{apos:Pos}{args:List Expr}{pins:List (Addr×Obj)}{s:Shared}{σ:St}{H:Hp}{Q:Value->Shared->Prop}{te:TE} (he:PE X e te) (I:Inv X pins σ H s)
  (h:te σ H fun x H1=>∃a C dx fs g,x=.ref a/\H1 a=some (.ins C dx fs)/\Cls X.K C/\Meth X.K C m g/\fs.lookup m=none/\
   ∀s1,Inv X pins σ H1 s1->wpAny (model X.prog X.w) X.A (callWith pos (.ref g) [.ref a] (backTo pos (starEach args X.env)) (backToKw pos (keywordEach [] X.env))) Q X.xe s1)
  (ht:eval (.Call (.Attribute e m apos) args [] pos) X.env=(do
   let ov ←eval e X.env
   standAt apos.atName
   let (f,first) ←holding [ov] (getMethod ov m pl)
   callWith pos f first (backTo pos (starEach args X.env)) (backToKw pos (keywordEach [] X.env)))) :
  wpAny (model X.prog X.w) X.A (eval (.Call (.Attribute e m apos) args [] pos) X.env) Q X.xe s:=by
 refine QL (pl:=pl) (thn (he pins s σ H _ I h) fun u s1 ⟨x,H1,I1,rx,a,C,dx,fs,g,ex,ea,c,k,l,q⟩=>?_) ht;subst ex;obtain rfl:u=Value.ref a:=rx;exact SU I1 ea c k l (q s1 I1)
end
section
variable {X:Cx}{pins:List (Addr×Obj)}{σ:St}{H:Hp}{s:Shared}{A:Around}{E:Value->Shared->Prop}{Q:Value->Shared->Prop}{c:Value}{b:Bool}
inductive TyOf (K:Za) (H:Hp):V->Value->Prop where
 | non:TyOf K H .non (.type "NoneType")
 | bl (x:Bool):TyOf K H (.bl x) (.type "bool")
 | int (i:Int):TyOf K H (.int i) (.type "int")
 | str (x:Str):TyOf K H (.str x) (.type "str")
 | flt (x:UInt64):TyOf K H (.flt x) (.type "float")
 | lst {a:Addr} {xs:List V} (e:H a=some (.lst xs)):TyOf K H (.ref a) (.type "list")
 | frz {a:Addr} {o:Obj} {xs:List V} (e:H a=some (.frz o (.lst xs))):TyOf K H (.ref a) (.type "list")
 | tup {a:Addr} {xs:List V} (e:H a=some (.tup xs)):TyOf K H (.ref a) (.type "tuple")
 | dK {a:Addr} {kvs:List (Key×V)} (e:H a=some (.dK kvs)):TyOf K H (.ref a) (.type "dict")
 | dT {a:Addr} {kvs:List (List Key×V)} (e:H a=some (.dT kvs)):TyOf K H (.ref a) (.type "dict")
 | ins {a C dx:Addr} {fs:List (Str×V)} (e:H a=some (.ins C dx fs)) (cl:Cls K C) (ha:PySem.W.findIn K (.ref C) "__class__"=some (some (.builtin "object.__class__")))
   (hn:PySem.W.specialIn K (.builtin "object.__class__") "__get__"=some (some (.builtin "getset_descriptor.__get__"))) (htk:PySem.W.takesIn K (.builtin "object.__class__")=some true)
   (hm:PySem.W.mroIn K C (.type "object")=some true):TyOf K H (.ref a) (.ref C)
def Ow {x:V}{u t:Value} (I:Inv X pins σ H s) (rx:RelV x u) (ty:TyOf X.K H x t) (e:PySem.W.kitOne X.K t c=some b) (h:∀tk,Q (.bool b) { s with toks:=tk }) :
  wpAny (model X.prog X.w) A (call (.builtin "isinstance") [u,c]) Q E s:=by
 cases ty with
 | non=>cases (show u=Value.none from rx);exact Wx PySem.W.kitx_none I.kIn True.intro e (fun z=>nomatch z) h
 | bl y=>cases (show u=Value.bool y from rx);exact Wx PySem.W.kitx_bool I.kIn True.intro e (fun z=>nomatch z) h
 | int i=>obtain⟨t,q⟩:=(show ∃t,u=Value.int i t from rx);cases q;exact Wx PySem.W.kitx_int I.kIn True.intro e (fun z=>nomatch z) h
 | str y=>obtain⟨t,q⟩:=(show ∃t,u=Value.str y t from rx);cases q;exact Wx PySem.W.kitx_str I.kIn True.intro e (fun z=>nomatch z) h
 | flt y=>obtain⟨t,q⟩:=(show ∃t,u=Value.float y t from rx);cases q;exact Wx PySem.W.kitx_float I.kIn True.intro e (fun z=>nomatch z) h
 | @lst a xs ea=>
  cases (show u=Value.ref a from rx)
  obtain⟨_,_,n,_,h1⟩:=(show ObjOk X.prog X.w H s.heap a (.lst xs) from I.hok a _ ea)
  exact Wx PySem.W.kitx_list I.kIn ⟨_,h1,rfl⟩ e (fun z=>nomatch z) h
 | @frz a ob xs ea=>
  cases (show u=Value.ref a from rx)
  obtain⟨_,_,_,n,_,h1⟩:=(show ObjOk X.prog X.w H s.heap a (.frz ob (.lst xs)) from I.hok a _ ea)
  exact Wx PySem.W.kitx_list I.kIn ⟨_,h1,rfl⟩ e (fun z=>nomatch z) h
 | @tup a xs ea=>
  cases (show u=Value.ref a from rx)
  obtain⟨_,_,_,p⟩:=(show ObjOk X.prog X.w H s.heap a (.tup xs) from I.hok a _ ea)
  obtain⟨o,h1,h2,_⟩:=p;exact Wx PySem.W.kitx_tuple I.kIn ⟨o,h1,h2⟩ e (fun z=>nomatch z) h
 | @dK a kvs ea=>
  cases (show u=Value.ref a from rx)
  obtain⟨_,_,vs,_,p⟩:=(show ObjOk X.prog X.w H s.heap a (.dK kvs) from I.hok a _ ea)
  obtain⟨o,es,ep,h1,h2,_⟩:=p;exact Wx PySem.W.kitx_dict I.kIn ⟨o,h1,h2.1⟩ e (fun z=>nomatch z) h
 | @dT a kvs ea=>
  cases (show u=Value.ref a from rx)
  obtain⟨_,_,xs,_,o,es,ep,h1,h2,_⟩:=(show ObjOk X.prog X.w H s.heap a (.dT kvs) from I.hok a _ ea)
  exact Wx PySem.W.kitx_dict I.kIn ⟨o,h1,h2.1⟩ e (fun z=>nomatch z) h
 | @ins a C dx fs ea cl ha hn htk hm=>
  cases (show u=Value.ref a from rx)
  obtain⟨mA,O,_⟩:=NF I.hok ea;obtain⟨od,J,_⟩:=O.look;exact Wx (PySem.W.kitx_own (cl.get _) cl.hd ha hn htk hm) I.kIn J e (fun z=>nomatch z) h
end
structure Room (k:Nat) (A:Around):Prop where
 hd:A.handled=none
 dp:A.depth+3*k+5<recursionLimit
 un:A.units+16*k+200<cLine
def Room.mono {j k:Nat}{A:Around} (r:Room k A) (h:j<=k):Room j A:=⟨r.hd,by have:=r.dp;omega,by have:=r.un;omega⟩
def Room.deeper {k:Nat}{A:Around} (r:Room (k+1) A) (env:Env):Room k (A.deeper env):=
 ⟨r.hd,by have:=r.dp;show A.depth+1+3*k+5<_;omega,by have:=r.un;show A.units+3+16*k+200<_;omega⟩
def Zcx {A:Around}{C:Addr}{us:List Value}{kw:List (Str×Value)}:(A.under (.builtin "type.__call__" ⟨.ref C::us,kw⟩)).depth=A.depth+1:=by
 first|rfl|simp[Around.under,Code.weight,Code.isCreation,Code.isGuard,Code.isCaller,Code.frames,Code.isFrame,guardIds]
def MA {A:Around}{C:Addr}{us:List Value}{kw:List (Str×Value)}:(A.under (.builtin "type.__call__" ⟨.ref C::us,kw⟩)).units=A.units+1:=by
 first|rfl|simp[Around.under,Code.cUnits,Code.frames,Code.isFrame]
def Room.make {k:Nat}{A:Around} (r:Room (k+1) A) (C:Addr) (us:List Value) (kw:List (Str×Value)):Room k (A.under (.builtin "type.__call__" ⟨.ref C::us,kw⟩)):=
 ⟨r.hd,by have:=r.dp;rw[Zcx];omega,by have:=r.un;rw[MA];omega⟩
def Room.depth {k:Nat}{A:Around} (r:Room k A):A.depth<recursionLimit:=by have:=r.dp;omega
def Room.units {k:Nat}{A:Around} (r:Room k A):A.units+64<cLine:=by have:=r.un;omega
def Room.units0 {k:Nat}{A:Around} (r:Room k A):A.units<cLine:=by have:=r.un;omega
def tNil:TA:=fun _ H Q=>Q [] H
def UJ (ta:TE) (tr:TA):TA:=fun σ H Q=>ta σ H fun x H1=>tr σ H1 fun xs H2=>Q (x::xs) H2
section
variable {X:Cx}{e:Expr}{es:List Expr}{te:TE}{t:TA}{pos:Pos}
def JY:PA X [] tNil:=fun _ _ _ _ H Q I h=>Calls.spliced_nil ⟨[],H,I,.nil,h⟩
def JG (ha:PE X e te) (hr:PA X es t) (hs:starEach (e::es) X.env=(false,eval e X.env)::starEach es X.env:=by rfl):PA X (e::es) (UJ te t):=by
 intro pos pins s σ H Q I h;rw[hs];show wpAny _ _ (spliced ((false,eval e X.env)::backTo pos (starEach es X.env))) _ _ s;refine Calls.spliced_cons (thn (ha pins s σ H _ I h) fun u s1 ⟨x,H1,I1,r1,q1⟩=>?_);exact thn (hr pos pins s1 σ H1 _ I1 q1) fun us s2 ⟨xs,H2,I2,r2,q2⟩=>⟨x::xs,H2,I2,.cons r1 r2,q2⟩
def tTup (t:TA):TE:=fun σ H Q=>t σ H fun xs H1=>xs.length<=sizeLine/\∀p,H1 p=none->Q (.ref p) (upd H1 p (.tup xs))
def tLst (t:TA):TE:=fun σ H Q=>t σ H fun xs H1=>xs.length<=sizeLine/\∀p,H1 p=none->Q (.ref p) (upd H1 p (.lst xs))
def JR {x1} (h:PA X es t):PE X (.Tuple es x1 pos) (tTup t):=by
 intro pins s σ H Q I hq;refine wpAny_Tuple_spliced (thn (h pos pins s σ H _ I hq) fun us s1 ⟨xs,H1,I1,r,z,q⟩=>⟨by rw[←r.length];exact z,?_⟩);have hf:H1 s1.heap.objs.size=none:=I1.hok.fresh (Yx _);refine⟨.ref s1.heap.objs.size,upd H1 s1.heap.objs.size (.tup xs),I1.laid (t':=s1.toks) (fun b u e=>Yu _ e) (Yx _) ?_,rfl,q _ hf⟩;exact⟨z,us,r,⟨_,Y6 _ rfl,rfl,_,rfl⟩⟩
def JH (h:PA X es t):PE X (.List es pos) (tLst t):=by
 intro pins s σ H Q I hq;refine wpAny_List_spliced (thn (h pos pins s σ H _ I hq) fun us s1 ⟨xs,H1,I1,r,z,q⟩=>⟨by rw[←r.length];exact z,?_⟩);have hf:H1 s1.heap.objs.size=none:=I1.hok.fresh (Yx _);refine⟨.ref s1.heap.objs.size,upd H1 s1.heap.objs.size (.lst xs),I1.laid (t':=s1.toks) (fun b u e=>Yu _ e) (Yx _) ?_,rfl,q _ hf⟩;exact⟨z,us,0,r,Y6 _ rfl⟩
end
abbrev Sp:=List V->Hp->VK->XK->Prop
abbrev CXT:=List Env->Hp->Shared->XK->Value->Shared->Prop
structure Env0 (P:Program) (w:World) (K:Za) (mg:Str->Option Value) (base:Heap) (A:Around) (outer:List Env) (s:Shared) (H:Hp):Prop where
 frames:A.frames=some outer
 mod:Mod K mg base
 bs:∀b o,base.get? b=some o->s.heap.get? b=some o/\H b=none
 bsz:base.objs.size<=s.heap.objs.size
 funs:s.heap.FunFrames base outer
 frf:∀b∈frs outer,H b=none
 hok:HOk P w H s.heap
 bare:AllBare s.gens
def CE (outer:List Env) (P:Program) (w:World) (H:Hp) (s:Shared) (Q:VK) (u:Value) (s':Shared):Prop:=
 ∃v H',s'.os=s.os/\AllBare s'.gens/\Un (frs outer) [] H H' s.heap s'.heap/\HOk P w H' s'.heap/\RelV v u/\Q v H'
def CR (CX:CXT) (outer:List Env) (P:Program) (w:World) (H:Hp) (s:Shared) (Q:VK) (E:XK) (r:Result) (s':Shared):Prop:=
 match r with
 | .ok (.ret u)=>CE outer P w H s Q u s'
 | .ok _=>False
 | .error e=>CX outer H s E e s'
structure FnOk (P:Program) (w:World) (K:Za) (mg:Str->Option Value) (base:Heap) (CX:CXT) (k:Nat) (f:Addr) (fd:FuncData) (ps:List Str) (sp:Sp):Prop where
 len:∀vs H Q E,sp vs H Q E->vs.length=ps.length
 run:∀(A:Around) (outer:List Env) (s:Shared) (H:Hp) (args:Args) (us:List Value) (vs:List V) (Q:VK) (E:XK),Room k A->Env0 P w K mg base A outer s H->BindsTo s fd args (ps.zip us)->Vals vs us->sp vs H Q E->
  codeAny (model P w) A (.call (.ref f) args) (CR CX outer P w H s Q E) s
def FnOk.imp {P:Program}{w:World}{K:Za}{mg:Str->Option Value}{base:Heap}{CX:CXT}{k:Nat}{f:Addr}{fd:FuncData}{ps:List Str}{sp sp':Sp} (F:FnOk P w K mg base CX k f fd ps sp)
  (h:∀vs H Q E,sp' vs H Q E->sp vs H Q E):FnOk P w K mg base CX k f fd ps sp':=
 ⟨fun vs H Q E q=>F.len vs H Q E (h _ _ _ _ q),fun A outer s H args us vs Q E hr he hb hv hs=>F.run A outer s H args us vs Q E hr he hb hv (h _ _ _ _ hs)⟩
def Env0.make {P:Program}{w:World}{K:Za}{mg:Str->Option Value}{base:Heap}{A:Around}{outer:List Env}{s:Shared}{H:Hp} (e:Env0 P w K mg base A outer s H) (C:Addr) (us:List Value) (kw:List (Str×Value)) :
  Env0 P w K mg base (A.under (.builtin "type.__call__" ⟨.ref C::us,kw⟩)) outer s H:=⟨by first|exact e.frames|(simpa [Around.under,Code.envs,Code.isFrame,pushEnvs] using e.frames),e.mod,e.bs,e.bsz,e.funs,e.frf,e.hok,e.bare⟩
section
variable {X:Cx}{pins:List (Addr×Obj)}{σ:St}{H:Hp}{s s':Shared}
def Inv.env0 (I:Inv X pins σ H s):Env0 X.prog X.w X.K X.mg X.base X.A X.stack s H:=
 ⟨I.ok.frames,I.ok.mod,I.bs,Y7 I.ok.bsz I.sz,I.stack,I.stkFree,I.hok,I.bare⟩
def Inv.after {Q:VK}{u:Value} (I:Inv X pins σ H s) (h:CE X.stack X.prog X.w H s Q u s'):EP X pins σ Q u s':=by
 obtain⟨v,H',os,bare,un,hok,r,q⟩:=h;obtain⟨hh,g,d,t,os'⟩:=s';obtain rfl:os'=s.os:=os;exact⟨v,H',I.call (h':=hh) (g':=g) (d':=d) (t':=t) (ch:=[]) un hok bare (fun b z=>absurd z (by simp)),r,q⟩
end
def K6 (sp:Sp) (dvs:List V) (E:XK) (t:TA):TE:=fun σ H Q=>t σ H fun vs H1=>sp (vs++dvs) H1 Q E
def Kr (C:Addr) (m:Str) (sp:Sp) (dvs:List V) (E:XK) (ta:TE) (t:TA):TE:=fun σ H Q=>ta σ H fun x H1=>∃a dx fs,x=.ref a/\H1 a=some (.ins C dx fs)/\fs.lookup m=none/\
 t σ H1 fun vs H2=>sp (x::(vs++dvs)) H2 Q E
def BD (C:Addr) (sp:Sp) (dvs:List V) (E:XK) (t:TA):TE:=fun σ H Q=>t σ H fun vs H1=>∀x dx,H1 x=none->H1 dx=none->dx≠x->
 sp (.ref x::(vs++dvs)) (upd (upd H1 dx (.own x)) x (.ins C dx [])) (fun v H2=>v=.non/\Q (.ref x) H2) E
def Binds (K:Za) (fd:FuncData) (ps:List Str) (ds:List Value):Prop:=
 ∀(s:Shared) (us:List Value),K.In s.heap->(us++ds).length=ps.length->BindsTo s fd ⟨us,[]⟩ (ps.zip (us++ds))
def Binds.all {K:Za}{fd:FuncData}{ps:List Str} (h:∀us:List Value,us.length=ps.length->bindArgs fd ⟨us,[]⟩=pure (ps.zip us)):Binds K fd ps []:=fun s us _ hl=>by
 rw[We] at hl ⊢;exact .of_eq (h us hl)
def Xx (CX:CXT) (X:Cx) (E:XK):Prop:=∀(pins:List (Addr×Obj)) (σ:St) (H:Hp) (s:Shared) (e:Value) (s':Shared),Inv X pins σ H s->CX X.stack H s E e s'->X.xe e s'
section
variable {X:Cx}{CX:CXT}{k:Nat}{f C:Addr}{fd:FuncData}{ps:List Str}{sp:Sp}{dvs:List V}{ds:List Value}{E:XK}{x m:Str}{p pos apos:Pos}{e o:Expr}{es:List Expr}{ta:TE}{t:TA}
def Sh {pins:List (Addr×Obj)}{σ:St}{H:Hp}{s:Shared}{Q:VK}{us:List Value}{vs:List V} (F:FnOk X.prog X.w X.K X.mg X.base CX k f fd ps sp) (hr:Room k X.A) (hb:Binds X.K fd ps ds) (hd:Vals dvs ds) (hx:Xx CX X E)
  (I:Inv X pins σ H s) (r:Vals vs us) (h:sp (vs++dvs) H Q E):wpAny (model X.prog X.w) X.A (call (.ref f) us) (EP X pins σ Q) X.xe s:=by
 have r2:Vals (vs++dvs) (us++ds):=r.append hd;have hl:(us++ds).length=ps.length:=by rw[←r2.length];exact F.len _ _ _ _ h
 refine wpAny_call (Qs (F.run X.A X.stack s H ⟨us,[]⟩ (us++ds) (vs++dvs) Q E hr I.env0 (hb s us I.kIn hl) r2 h) fun r s' hq=>?_);cases r with
 | error e=>exact hx pins σ H s e s' I hq
 | ok fl=>
  cases fl with
  | ret u=>exact I.after hq
  | next=>exact False.elim hq
  | brk=>exact False.elim hq
  | cont=>exact False.elim hq
def RG (F:FnOk X.prog X.w X.K X.mg X.base CX k f fd ps sp) (hr:Room k X.A) (hg:Gl X x) (hm:X.mg x=some (.ref f)) (hk:PySem.W.keepIn X.K (.ref f)=true) (hb:Binds X.K fd ps ds) (hd:Vals dvs ds) (hx:Xx CX X E)
  (ha:PA X (e::es) t) (hdb:(x==("__debug__" : Str))=false:=by decide) (he:starEach (e::es) X.env=(false,eval e X.env)::starEach es X.env:=by rfl) (hpl:(backTo pos (starEach es X.env)).any (·.1)=false:=by rfl) :
  PE X (.Call (.Name x p) (e::es) [] pos) (K6 sp dvs E t):=by
 intro pins s σ H Q I h;refine Q2 (Nw I hg hm ?_ hdb);refine Ve (h₀:=X.base) I.ok.mod.kin hk (thn (ha pos pins s σ H _ I h) fun us s1 ⟨vs,H1,I1,r,q⟩=>⟨I1.kIn,?_⟩) he hpl;exact Sh F hr hb hd hx I1 r q
def Oi {pl:Sem Bool} (he:PE X o ta) (c:Cls X.K C) (hm:Meth X.K C m f) (F:FnOk X.prog X.w X.K X.mg X.base CX k f fd ps sp) (hr:Room k X.A) (hb:Binds X.K fd ps ds) (hd:Vals dvs ds) (hx:Xx CX X E) (ha:PA X (e::es) t)
  (hst:starEach (e::es) X.env=(false,eval e X.env)::starEach es X.env:=by rfl) (hpl:(backTo pos (starEach es X.env)).any (·.1)=false:=by rfl)
  (ht:eval (.Call (.Attribute o m apos) (e::es) [] pos) X.env=(do
   let ov ←eval o X.env
   standAt apos.atName
   let (f,first) ←holding [ov] (getMethod ov m pl)
   callWith pos f first (backTo pos (starEach (e::es) X.env)) (backToKw pos (keywordEach [] X.env))):=by rfl) :
  PE X (.Call (.Attribute o m apos) (e::es) [] pos) (Kr C m sp dvs E ta t):=by
 intro pins s σ H Q I h;refine QL (pl:=pl) (thn (he pins s σ H _ I h) fun u s1 ⟨x,H1,I1,rx,a,dx,fs,ex,ea,l,q⟩=>?_) ht;subst ex;obtain rfl:u=Value.ref a:=rx;refine SU I1 ea c hm l ?_;refine Ve (first:=[.ref a]) (h₀:=X.base) I.ok.mod.kin hm.kp (thn (ha pos pins s1 σ H1 _ I1 q) fun us s2 ⟨vs,H2,I2,r,q2⟩=>⟨I2.kIn,?_⟩) hst hpl
 exact Sh (us:=.ref a::us) (vs:=.ref a::vs) F hr hb hd hx I2 (.cons rfl r) q2
def O3 {pl:Sem Bool} (he:PE X o ta) (c:Cls X.K C) (hm:Meth X.K C m f) (F:FnOk X.prog X.w X.K X.mg X.base CX k f fd ps sp) (hr:Room k X.A) (hb:Binds X.K fd ps ds) (hd:Vals dvs ds) (hx:Xx CX X E)
  (ht:eval (.Call (.Attribute o m apos) [] [] pos) X.env=(do
   let ov ←eval o X.env
   standAt apos.atName
   let (f,first) ←holding [ov] (getMethod ov m pl)
   callWith pos f first (backTo pos (starEach [] X.env)) (backToKw pos (keywordEach [] X.env))):=by rfl) :
  PE X (.Call (.Attribute o m apos) [] [] pos) (Kr C m sp dvs E ta tNil):=by
 intro pins s σ H Q I h;refine QL (pl:=pl) (thn (he pins s σ H _ I h) fun u s1 ⟨x,H1,I1,rx,a,dx,fs,ex,ea,l,q⟩=>?_) ht;subst ex;obtain rfl:u=Value.ref a:=rx;refine SU I1 ea c hm l ?_;exact PySem.W.callWith_K0 (first:=[.ref a]) I1.kIn hm.kp (Sh (us:=[.ref a]) (vs:=[.ref a]) F hr hb hd hx I1 (.cons rfl .nil) q)
structure Mk (K:Za) (C f:Addr):Prop where
 makes:PySem.W.makesIn K C=true
 init:PySem.W.findIn K (.ref C) "__init__"=some (some (.ref f))
 fn:PySem.W.isFn K (.ref f)=true
 kp:PySem.W.keepIn K (.ref C)=true
def Hh {pins:List (Addr×Obj)}{σ:St}{H:Hp}{s:Shared}{Q:VK}{us:List Value}{vs:List V} (M:Mk X.K C f) (F:FnOk X.prog X.w X.K X.mg X.base CX k f fd ps sp) (hr:Room (k+1) X.A) (hb:Binds X.K fd ps ds) (hd:Vals dvs ds)
  (hx:Xx CX X E) (I:Inv X pins σ H s) (r:Vals vs us)
  (h:∀x dx,H x=none->H dx=none->dx≠x->sp (.ref x::(vs++dvs)) (upd (upd H dx (.own x)) x (.ins C dx [])) (fun v H2=>v=.non/\Q (.ref x) H2) E) :
  wpAny (model X.prog X.w) X.A (call (.ref C) us) (EP X pins σ Q) X.xe s:=by
 have hq:=h (s.heap.objs.size+1) s.heap.objs.size (I.hok.fresh (QE _)) (I.hok.fresh (Yx _)) (YL (Qd _));have I2:=Inv.made (C:=C) I;have r2:Vals (V.ref (s.heap.objs.size+1)::(vs++dvs)) (Value.ref (s.heap.objs.size+1)::(us++ds)):=.cons rfl (r.append hd)
 have hl:(Value.ref (s.heap.objs.size+1)::us++ds).length=ps.length:=by
  have e:=r2.length;rw[F.len _ _ _ _ hq] at e;exact e.symm
 refine wpAny_call (Zdo (f:=f) I.kIn M.makes M.init (beq_iff_eq.mp M.fn) (Qs (F.run _ X.stack _ _ ⟨Value.ref (s.heap.objs.size+1)::us,[]⟩ (Value.ref (s.heap.objs.size+1)::(us++ds)) _ _ E (hr.make C us [])
  (I2.env0.make C us []) (hb _ (Value.ref (s.heap.objs.size+1)::us) I2.kIn hl) r2 hq) fun r s' hq'=>?_))
 cases r with
 | error e=>exact hx pins σ _ _ e s' I2 hq'
 | ok fl=>
  cases fl with
  | ret u=>
   obtain⟨v,H',I3,rv,ev,q3⟩:=I2.after hq';subst ev;exact⟨rv,⟨V.ref (s.heap.objs.size+1),H',I3,rfl,q3⟩⟩
  | next=>exact False.elim hq'
  | brk=>exact False.elim hq'
  | cont=>exact False.elim hq'
def Zc3 (M:Mk X.K C f) (F:FnOk X.prog X.w X.K X.mg X.base CX k f fd ps sp) (hr:Room (k+1) X.A) (hg:Gl X x) (hm:X.mg x=some (.ref C)) (hb:Binds X.K fd ps ds) (hd:Vals dvs ds) (hx:Xx CX X E)
  (ha:PA X (e::es) t) (hdb:(x==("__debug__" : Str))=false:=by decide) (he:starEach (e::es) X.env=(false,eval e X.env)::starEach es X.env:=by rfl) (hpl:(backTo pos (starEach es X.env)).any (·.1)=false:=by rfl) :
  PE X (.Call (.Name x p) (e::es) [] pos) (BD C sp dvs E t):=by
 intro pins s σ H Q I h;refine Q2 (Nw I hg hm ?_ hdb);refine Ve (h₀:=X.base) I.ok.mod.kin M.kp (thn (ha pos pins s σ H _ I h) fun us s1 ⟨vs,H1,I1,r,q⟩=>⟨I1.kIn,?_⟩) he hpl;exact Hh M F hr hb hd hx I1 r q
end
structure FnScope (N P:List Str) (sc:Scope):Prop where
 kind:sc.kind=.function
 co:sc.isCoroutine=false
 gen:sc.isGenerator=false
 nd:N.Nodup
 pre:N.take P.length=P
 par:∀x∈P,sc.names.lookup x=some .local\/sc.names.lookup x=some .cell
 nofree:∀y∈sc.names,y.2≠.free
def DN {kindOf:Str->Option NameKind}{x:Str}:∀{binds:List (Str×Value)}{m:Str->Option Value},(∀v,(x,v)∉binds)->bindL kindOf binds m x=m x
 | [],_,_=>rfl
 | (n,v)::r,m,h=>by
  unfold bindL;rw[DN fun w hw=>h w (YF _ hw)];split
  ·have:x≠n:=by rintro rfl;exact h v YK
   simp[this]
  ·rfl
def A4 {kindOf:Str->Option NameKind}{x:Str}:∀{binds:List (Str×Value)}{m:Str->Option Value},(∀v,(x,v)∉binds)->bindC kindOf binds m x=m x
 | [],_,_=>rfl
 | (n,v)::r,m,h=>by
  unfold bindC;rw[A4 fun w hw=>h w (YF _ hw)];split
  ·rfl
  ·have:x≠n:=by rintro rfl;exact h v YK
   simp[this]
def CA {kindOf:Str->Option NameKind}{x:Str}{v:Value}:∀{P:List Str}{vs:List Value}{i:Nat}{m:Str->Option Value},P.Nodup->P[i]?=some x->vs[i]?=some v->kindOf x=some .local->
  bindL kindOf (P.zip vs) m x=some v
 | [],_,_,_,_,h,_,_=>by simp at h
 | _::_,[],_,_,_,_,h,_=>by simp at h
 | p::P,w::vs,0,m,nd,h1,h2,hk=>by
  simp at h1 h2;subst h1;subst h2;show bindL kindOf ((p,w)::P.zip vs) m p=_;unfold bindL;rw[DN fun v hv=>(YX.mp nd).1 (List.of_mem_zip hv).1,Yr hk];simp
 | p::P,w::vs,i+1,m,nd,h1,h2,hk=>by
  show bindL kindOf ((p,w)::P.zip vs) m x=_;unfold bindL;exact CA (i:=i) (YX.mp nd).2 (by simpa using h1) (by simpa using h2) hk
def EE {kindOf:Str->Option NameKind}{x:Str}{v:Value}:∀{P:List Str}{vs:List Value}{i:Nat}{m:Str->Option Value},P.Nodup->P[i]?=some x->vs[i]?=some v->kindOf x≠some .local->
  bindC kindOf (P.zip vs) m x=some v
 | [],_,_,_,_,h,_,_=>by simp at h
 | _::_,[],_,_,_,_,h,_=>by simp at h
 | p::P,w::vs,0,m,nd,h1,h2,hk=>by
  simp at h1 h2;subst h1;subst h2;show bindC kindOf ((p,w)::P.zip vs) m p=_;unfold bindC;rw[A4 fun v hv=>(YX.mp nd).1 (List.of_mem_zip hv).1,Yq hk];simp
 | p::P,w::vs,i+1,m,nd,h1,h2,hk=>by
  show bindC kindOf ((p,w)::P.zip vs) m x=_;unfold bindC;exact EE (i:=i) (YX.mp nd).2 (by simpa using h1) (by simpa using h2) hk
def start (N:List Str) (vs:List V):St:=vs.map some++List.replicate (N.length-vs.length) none
def cxOf (CX:CXT) (P:Program) (w:World) (K:Za) (mg:Str->Option Value) (base:Heap) (N:List Str) (qual:Str) (scope:Scope) (f:Addr) (cd:Value) (A:Around) (outer:List Env) (s:Shared) (H:Hp) (E:XK):Cx where
 prog:=P
 w:=w
 K:=K
 mg:=mg
 base:=base
 A:=A.deeper (envOfC qual scope s.heap.objs.size f cd)
 N:=N
 s₀:=s
 H₀:=H
 env:=envOfC qual scope s.heap.objs.size f cd
 outer:=outer
 stack:=envOfC qual scope s.heap.objs.size f cd::outer
 ex:=[]
 calm:=true
 fn:=fun _=>true
 pn:=[]
 xe:=fun e s'=>wpAny (model P w) (A.deeper (envOfC qual scope s.heap.objs.size f cd)) (leaving (envOfC qual scope s.heap.objs.size f cd) e) (fun _ s''=>CX outer H s E e s'') (fun e' s''=>CX outer H s E e' s'') s'
def AE {sc:Scope}{n:Nat}{x:Str} (h:sc.names.lookup x=some .cell):∃c,(cellsFrom n sc.names []).lookup x=some c:=by
 have q:=PySem.W.cellsFrom_some sc.names n [] (.inl h);exact Option.isSome_iff_exists.mp q
def R5 {CX:CXT}{P:Program}{w:World}{K:Za}{mg:Str->Option Value}{base:Heap}{N ps:List Str}{qual:Str}{scope:Scope}{f:Addr}{cd:Value}{A:Around}{outer:List Env}{s s1:Shared}{H:Hp}{E:XK}{us:List Value}{vs:List V}
  (S:FnScope N ps scope) (hd:A.handled=none) (e0:Env0 P w K mg base A outer s H) (hl:vs.length=ps.length) (r:Vals vs us)
  (x:InCallC s s.heap.objs.size (bindL (envOfC qual scope s.heap.objs.size f cd).kindOf (ps.zip us) fun _=>none) (cellsFrom (s.heap.objs.size+1) scope.names []) (bindC (envOfC qual scope s.heap.objs.size f cd).kindOf (ps.zip us) fun _=>none) s1) :
  Inv (cxOf CX P w K mg base N qual scope f cd A outer s H E) [] (start N vs) H s1:=by
 have hpl:ps.length<=N.length:=by have:=YS List.length S.pre;rw[Wr] at this;omega
 obtain⟨h1,tk,rfl,hk⟩:=x.done;have noA:∀b:Addr,b∉(cxOf CX P w K mg base N qual scope f cd A outer s H E).ex:=fun b z=>absurd (show b∈([]:List Addr) from z) (by simp)
 refine⟨⟨e0.mod,S.kind,rfl,rfl,Yx _,fun y z c h1 h2=>?_,fun y hy=>?_,fun y c _ h=>?_,fun _=>hd,Around.frames_deeper e0.frames,.inr ⟨rfl,rfl⟩,fun b z=>absurd z (noA b),e0.bs,e0.bsz,fun b _ _=>noA b,fun b z=>absurd z (noA b),e0.funs,e0.frf⟩,
  rfl,e0.bare,Un.kept hk,⟨_,x.toInCall.ns,fun i y v h1 h2 h3=>?_⟩,fun y c h=>⟨_,x.cell y c h⟩,e0.hok.fresh (Yx _),fun y c h=>?_,fun p hp=>absurd (show p∈([]:List (Addr×Obj)) from hp) (by simp),e0.hok.kept hk,?_⟩
 ·exact name_of_addr x.apart (WL h1) (WL h2)
 ·have hy:scope.names.lookup y=some .cell\/scope.names.lookup y=some .free:=hy;rcases hy with hy|hy
  ·exact AE hy
  ·exact absurd rfl (S.nofree _ (WL hy))
 ·exact Q1 (x.above y c (WL h))
 ·have hi:i<vs.length:=by
   unfold start at h2;by_cases hi:i<vs.length
   ·exact hi
   ·rw[YN (by simpa using hi)] at h2;rw[WK] at h2;split at h2<;>cases h2
  have ha:vs[i]?=some v:=by
   unfold start at h2;rw[YQ (by simpa using hi),Yz] at h2;cases e:vs[i]? with
   | none=>rw[e] at h2;cases h2
   | some a=>rw[e] at h2;cases h2;rfl
  obtain⟨u,hu,rv⟩:=r.get ha
  have hp:ps[i]?=some y:=by
   rw[←S.pre,W4 (by omega)];exact h1
  have ndP:ps.Nodup:=by rw[←S.pre];exact S.nd.sublist (QA _ _)
  refine⟨u,rv,?_⟩;rcases S.par y (YE hp) with k|k
  ·exact .inl ⟨k,CA ndP hp hu k⟩
  ·obtain⟨c,e⟩:=AE (n:=s.heap.objs.size+1) k;refine .inr ⟨.inl k,c,e,?_⟩;have q:=x.cell y c e;rw[EE ndP hp hu (by show scope.names.lookup y≠_;rw[k];decide)] at q;exact q
 ·exact e0.hok.fresh (Q1 (x.above y c (WL h)))
 ·unfold start;show _=N.length;rw[Yy,Yn,List.length_replicate];omega
def Sz {CX:CXT}{P:Program}{w:World}{K:Za}{mg:Str->Option Value}{base:Heap}{k:Nat}{f:Addr}{name qual:Str}{params:Arguments}{body:List Stmt}{scope:Scope}{dV kV doc pm cdv ct oc:Value}{an od:Option Addr}
  {osl:Array (Option Value)} {N ps:List Str} {sp:Sp} (lk:K.lookup f=some ⟨oc,od,.func (PySem.W.fnOf name qual params body scope dV kV doc pm an cdv ct),osl⟩) (hcd:PySem.W.codeIn K cdv qual=true) (S:FnScope N ps scope)
  (len:∀vs H Q E,sp vs H Q E->vs.length=ps.length)
  (hbody:∀(A:Around) (outer:List Env) (s:Shared) (H:Hp) (vs:List V) (Q:VK) (E:XK),Room k (A.deeper (envOfC qual scope s.heap.objs.size f cdv))->sp vs H Q E->
   ∃t,PSs (cxOf CX P w K mg base N qual scope f cdv A outer s H E) body t/\t { nx:=fun _ H'=>Q .non H',rt:=Q } (start N vs) H) :
  FnOk P w K mg base CX (k+1) f (PySem.W.fnOf name qual params body scope dV kV doc pm an cdv ct) ps sp:=by
 refine⟨len,fun A outer s H args us vs Q E hr e0 hb r hsp=>?_⟩;have hl:=len _ _ _ _ hsp;have KX:K.In s.heap:=e0.mod.kin.keeps fun b o e=>(e0.bs b o e).1;have lim:s.heap.NoLimit:=e0.mod.nolimit.keeps fun b o e=>(e0.bs b o e).1
 have hkind:∀y∈ps.zip us,scope.names.lookup y.1=some .local\/(scope.names.lookup y.1=some .cell/\((cellsFrom (s.heap.objs.size+1) scope.names []).lookup y.1).isSome=true):=fun⟨n,v⟩ hy=>by
  rcases S.par n (List.of_mem_zip hy).1 with q|q
  ·exact .inl q
  ·exact .inr ⟨q,PySem.W.cellsFrom_some _ _ _ (.inl q)⟩
 refine codeAny_call_function hr.depth (KX _ _ lk) rfl S.co S.gen rfl (PySem.W.codeRec_of KX hcd) (hb _ _ _ _ ?_);refine wpAny_newFunctionEnv_cells S.kind hkind fun env he s1 x=>?_;subst he;refine⟨lim.keeps x.toInCall.keep,codeAny_func ?_⟩;obtain⟨t,ht,hq⟩:=hbody A outer s H vs Q E (hr.deeper _) hsp;have I:Inv (cxOf CX P w K mg base N qual scope f cdv A outer s H E) [] (start N vs) H s1:=R5 S hr.hd e0 hl r x;refine Wp (ht [] s1 (start N vs) H _ I hq) (fun fl s' hs=>?_) fun e s' hs=>hs
 have fin:∀{σ':St} {H':Hp} {v:V} {u:Value},Inv (cxOf CX P w K mg base N qual scope f cdv A outer s H E) [] σ' H' s'->RelV v u->Q v H'->CE outer P w H s Q u s':=
  fun {σ' H' v u} J rv q=>⟨v,H',J.os,J.bare,J.base,J.hok,rv,q⟩
 cases fl with
 | ret u=>
  obtain⟨v,σ',H',J,rv,q⟩:=hs;exact fin J rv q
 | next=>
  obtain⟨σ',H',J,q⟩:=hs;exact fin (v:=V.non) (u:=Value.none) J rfl q
 | brk=>
  obtain⟨_,_,_,q⟩:=hs;exact False.elim q
 | cont=>
  obtain⟨_,_,_,q⟩:=hs;exact False.elim q
section
variable {X:Cx}{x:Str}{p pos:Pos}{e:Expr}{es:List Expr}{t:TA}{id T:String}{r:List V->Hp->VK->Prop}
def tCB (r:List V->Hp->VK->Prop) (t:TA):TE:=fun σ H Q=>t σ H fun vs H1=>r vs H1 Q
def U7 (hc:UF X (.builtin id) r) (hg:Gl X x) (hm:X.mg x=none) (hv:bootBuiltins x=some (.builtin id)) (ha:PA X (e::es) t) (hn:x≠"__name__":=by decide) (hdb:(x==("__debug__" : Str))=false:=by decide)
  (he:starEach (e::es) X.env=(false,eval e X.env)::starEach es X.env:=by rfl) (hpl:(backTo pos (starEach es X.env)).any (·.1)=false:=by rfl):PE X (.Call (.Name x p) (e::es) [] pos) (tCB r t):=by
 intro pins s σ H Q I h;refine Q2 (TK I hg hm hv ?_ hn hdb);exact PyProof.Rows.callWith_builtin1 (thn (ha pos pins s σ H _ I h) fun us s1 ⟨vs,H1,I1,r1,q1⟩=>hc pins s1 σ H1 vs us Q I1 r1 q1) he hpl
def X2 (hc:UF X (.type T) r) (hg:Gl X x) (hm:X.mg x=none) (hv:bootBuiltins x=some (.type T)) (ha:PA X (e::es) t) (hn:x≠"__name__":=by decide) (hdb:(x==("__debug__" : Str))=false:=by decide)
  (he:starEach (e::es) X.env=(false,eval e X.env)::starEach es X.env:=by rfl) (hpl:(backTo pos (starEach es X.env)).any (·.1)=false:=by rfl):PE X (.Call (.Name x p) (e::es) [] pos) (tCB r t):=by
 intro pins s σ H Q I h;refine Q2 (TK I hg hm hv ?_ hn hdb);exact Qy (thn (ha pos pins s σ H _ I h) fun us s1 ⟨vs,H1,I1,r1,q1⟩=>hc pins s1 σ H1 vs us Q I1 r1 q1) he hpl
end
end L2
namespace HT
open PySem PyProof.Rows
section
variable {prog:Program}{w:World}{A:Around}{E:Value->Shared->Prop}{s:Shared}
def HG {t b:Addr}{vs ws:List Value}{Q:Value->Shared->Prop} (ht:IsTup s.heap t vs.toArray) (hb:IsTup s.heap b ws.toArray) (hv:vs≠[])
  (h1:ws=[]->Q (.ref t) s) (h2:ws≠[]->Q (.ref s.heap.objs.size) { s with heap:=s.heap.push { cls:=.type "tuple",data:=.seq (vs++ws).toArray } })
  (hsz:vs.length+ws.length<=sizeLine):wpAny (model prog w) A (binaryOp .Add (.ref t) (.ref b)) Q E s:=by
 obtain⟨⟨cls,dd,data,sl⟩,ho,hc,n,hd⟩:=id ht;obtain⟨⟨cls2,dd2,data2,sl2⟩,ho2,hc2,n2,hd2⟩:=id hb;simp only at hc hd hc2 hd2;subst hc hd hc2 hd2;have e:vs.toArray++ws.toArray=(vs++ws).toArray:=by simp
 by_cases hw:ws=[]
 ·exact concat_meets ⟨_,ho,rfl⟩ ⟨_,ho2,rfl⟩ noFill_tuple_add seq_tuple_add QF Q8 (Q3 _ _)
   (tuple_addW1 t b vs.toArray ws.toArray n n2 dd dd2 sl sl2 (by simpa using hv) (by simp[hw])) ⟨ho,ho2,h1 hw⟩
 ·refine concat_meets ⟨_,ho,rfl⟩ ⟨_,ho2,rfl⟩ noFill_tuple_add seq_tuple_add QF Q8 (Q3 _ _)
   (tuple_addW2 t b vs.toArray ws.toArray n n2 dd dd2 sl sl2 (by simpa using hv) (by simpa using hw) (by rw[Y8,Y8];exact hsz)) ⟨ho,ho2,?_⟩
  rw[e];exact h2 hw
def sIx (n d:Nat):Option Int->Nat
 | none=>d
 | some v=>if v<0 then(v+(n:Int)).toNat else min v.toNat n
def Ar (n d:Nat):sIx n d none=d:=rfl
def Nj (n d k:Nat):sIx n d (some (k:Int))=min k n:=by
 show(if (k:Int)<0 then((k:Int)+(n:Int)).toNat else min (k:Int).toNat n)=min k n;rw[Yq (by omega),YY]
end
end HT
namespace L2
open PySem PySem.Spec PyProof.Rows
abbrev TO:=St->Hp->(Option Int->Hp->Prop)->Prop
def PO (X:Cx) (e:Option Expr) (t:TO):Prop:=
 ∀(pins:List (Addr×Obj)) (s:Shared) (σ:St) (H:Hp) (Q:Option Int->Hp->Prop),Inv X pins σ H s->t σ H Q->
  wpAny (model X.prog X.w) X.A (evalPart e X.env) (fun u s'=>∃o H',Inv X pins σ H' s'/\IsPart u o/\Q o H') X.xe s
def FX:TO:=fun _ H Q=>Q none H
def E1 (t:TE):TO:=fun σ H Q=>t σ H fun x H1=>∃i,x=.int i/\Q (some i) H1
def NK {ns:List Int}:∀{us:List Value},Vals (ns.map V.int) us->IntsAre us ns:=by
 induction ns with
 | nil=>intro us r;rw[Vn] at r;cases r;exact .nil
 | cons n ns ih=>
  intro us r;rw[YA] at r;cases r with
  | cons r1 r2=>
   obtain⟨t,e⟩:=r1;subst e;exact .cons n t (ih r2)
section
variable {X:Cx}{e:Expr}{te:TE}{lo hi:Option Expr}{tl th:TO}{pos p2:Pos}
def Xo:PO X none FX:=by
 intro pins s σ H Q I h;rw[evalPart_none];exact Yt ⟨none,H,I,.none,h⟩
def UX (h:PE X e te):PO X (some e) (E1 te):=by
 intro pins s σ H Q I hw;rw[evalPart_some];refine thn (h pins s σ H _ I hw) fun u s1 ⟨x,H1,I1,r1,q1⟩=>?_;obtain⟨i,rfl,q⟩:=q1;obtain⟨t,rfl⟩:=r1;exact⟨some i,H1,I1,.int i t,q⟩
def SlR (X:Cx) (r:V->Option Int->Option Int->Hp->VK->Prop):Prop:=
 ∀(pins:List (Addr×Obj)) (s:Shared) (σ:St) (H:Hp) (x:V) (v vl vu:Value) (lo hi:Option Int) (sl:Addr) (Q:VK),Inv X pins σ H s->RelV x v->s.heap.IsSliceOf sl vl vu .none->IsPart vl lo->IsPart vu hi->r x lo hi H Q->
  ∃T id,typeLookup (.type T) "__getitem__"=pure (some (.builtin id))/\s.TypeIs v T/\wpAny (model X.prog X.w) X.A (getItem v (.ref sl)) (EP X pins σ Q) X.xe s
def tSl (r:V->Option Int->Option Int->Hp->VK->Prop) (te:TE) (tl th:TO):TE:=fun σ H Q=>te σ H fun x H1=>tl σ H1 fun l H2=>th σ H2 fun u H3=>r x l u H3 Q
def Xi {r:V->Option Int->Option Int->Hp->VK->Prop} (hr:SlR X r) (he:PE X e te) (hl:PO X lo tl) (hu:PO X hi th):PE X (.Subscript e (.Slice lo hi none p2) pos) (tSl r te tl th):=by
 intro pins s σ H Q I h;refine Subscript_ (thn (he pins s σ H _ I h) fun v s1 ⟨x,H1,I1,r1,q1⟩=>?_);refine wpAny_Slice (thn (hl pins s1 σ H1 _ I1 q1) fun vl s2 ⟨l,H2,I2,pl,q2⟩=>thn (hu pins s2 σ H2 _ I2 q2) fun vu s3 ⟨u,H3,I3,pu,q3⟩=>?_);rw[evalPart_none];refine Yt ?_;have I4:Inv X pins σ H3 { s3 with heap:=s3.heap.push { cls:=.type "slice",data:=.fields #[vl,vu,.none] } }:=I3.kept (t':=s3.toks) fun b ob q=>Yu _ q
 obtain⟨T,id,hT,ht,hg⟩:=hr pins { s3 with heap:=s3.heap.push { cls:=.type "slice",data:=.fields #[vl,vu,.none] } } σ H3 x v vl vu l u s3.heap.objs.size Q I4 r1 (Heap.IsSliceOf.new ..) pl pu q3
 show wpAny (model X.prog X.w) X.A (subscriptTail e (.Slice lo hi none p2) v (.ref s3.heap.objs.size)) (EP X pins σ Q) X.xe { s3 with heap:=s3.heap.push { cls:=.type "slice",data:=.fields #[vl,vu,.none] } }
 exact tail_any (ops:=[.ref s3.heap.objs.size,v]) ht hT hg (by with_unfolding_all rfl)
def cutV (xs:List V) (lo hi:Option Int):List V:=(xs.drop (HT.sIx xs.length 0 lo)).take (HT.sIx xs.length xs.length hi-HT.sIx xs.length 0 lo)
def O6 (xs:List V) (lo hi:Option Int):(cutV xs lo hi).length<=xs.length:=by
 unfold cutV;rw[Wr,QI];omega
def Zcq (K:Za):R2:=fun x y H Q=>∃a b xs ys,x=.ref a/\y=.ref b/\SqT K H a xs/\SqT K H b ys/\xs≠[]/\xs.length+ys.length<=sizeLine/\
 (ys=[]->Q (.ref a) H)/\(ys≠[]->∀p,H p=none->Q (.ref p) (upd H p (.tup (xs++ys))))
def Vals.nil_iff {xs:List V}{us:List Value} (r:Vals xs us):us=[]↔xs=[]:=by
 cases r with
 | nil=>simp
 | cons _ _=>simp
def LX:OpR X (binaryOp .Add) (Zcq X.K):=by
 intro pins s σ H x y v u Q I rx ry h;obtain⟨a,b,xs,ys,rfl,rfl,ha,hb,hx,hz,q1,q2⟩:=h;cases rx
 cases ry
 obtain⟨its,r1,p1,_⟩:=I.tuple ha;obtain⟨its2,r2,p2,_⟩:=I.tuple hb;refine HT.HG p1 p2 (fun z=>hx (r1.nil_iff.mp z)) (fun z=>⟨.ref a,H,I,rfl,q1 (r2.nil_iff.mp z)⟩) (fun z=>?_) (by rw[←r1.length,←r2.length];exact hz);refine⟨.ref s.heap.objs.size,_,I.laid (t':=s.toks) (o:=.tup (xs++ys)) (fun b ob q=>Yu _ q) (Yx _) ?_,rfl,q2 (fun w=>z (r2.nil_iff.mpr w)) _ (I.hok.fresh (Yx _))⟩;exact⟨by rw[Yy];exact hz,_,r1.append r2,IsTup.new _ _⟩
end
def ixN (n:Nat) (i:Int):Option Nat:=if 0<=i then(if i<n then some i.toNat else none) else if -(n:Int)<=i then some (i+n).toNat else none
def atI {α:Type} (xs:List α) (i:Int):Option α:=(ixN xs.length i).bind fun j=>xs[j]?
def Zd5 {n:Nat}{i:Int}{j:Nat} (h:ixN n i=some j):seqIndex? i n=some j/\j<n/\-(n:Int)<=i/\i<n:=by
 unfold ixN at h;by_cases h0:0<=i
 ·rw[Yr h0] at h;by_cases h1:i<n
  ·rw[Yr h1] at h;have e:i.toNat=j:=Y2 h;exact⟨by rw[seqIndex_of h0 h1,e],by omega,by omega,h1⟩
  ·rw[Yq h1] at h;cases h
 ·rw[Yq h0] at h;by_cases h1:-(n:Int)<=i
  ·rw[Yr h1] at h;have e:(i+n).toNat=j:=Y2 h;exact⟨by rw[seqIndex_neg (by omega) h1,e],by omega,h1,by omega⟩
  ·rw[Yq h1] at h;cases h
def Dq {α:Type}{xs:List α}{i:Int}{v:α} (h:atI xs i=some v):∃j,seqIndex? i xs.length=some j/\xs[j]?=some v/\j<xs.length/\-(xs.length:Int)<=i/\i<xs.length:=by
 unfold atI at h;cases e:ixN xs.length i with
 | none=>rw[e] at h;cases h
 | some j=>
  rw[e] at h;obtain⟨h1,h2,h3,h4⟩:=Zd5 e;exact⟨j,h1,h,h2,h3,h4⟩
def Ta {α:Type}{xs:List α}{j:Nat}{v:α} (h:xs[j]?=some v):atI xs (j:Int)=some v:=by
 have hj:j<xs.length:=(YG.mp h).1
 have e:ixN xs.length (j:Int)=some j:=by
  unfold ixN;rw[Yr (by omega),Yr (by omega)];simp
 unfold atI;rw[e];exact h
def Ce (b:Expr):Prop:=∀o i,subscripted b false o i=operate [o,i] (getItem o i)
def IxR (X:Cx) (r:R2):Prop:=
 ∀(value slice:Expr) (pins:List (Addr×Obj)) (s:Shared) (σ:St) (H:Hp) (x y:V) (v u:Value) (Q:VK),Inv X pins σ H s->RelV x v->RelV y u->r x y H Q->
  subscripted slice false v u=operate [v,u] (getItem v u)->wpAny (model X.prog X.w) X.A (subscriptTail value slice v u) (EP X pins σ Q) X.xe s
def MtR (X:Cx) (id:String) (r:V->List V->Hp->VK->Prop):Prop:=
 ∀(pins:List (Addr×Obj)) (s:Shared) (σ:St) (H:Hp) (x:V) (xs:List V) (v:Value) (us:List Value) (Q:VK),Inv X pins σ H s->RelV x v->Vals xs us->r x xs H Q->
  wpAny (model X.prog X.w) X.A (call (.builtin id) (v::us)) (EP X pins σ Q) X.xe s
section
variable {X:Cx}{a b:Expr}{ta tb:TE}{pos:Pos}
def IxR.or {r r':R2} (h:IxR X r) (h':IxR X r'):IxR X (fun x y H Q=>r x y H Q\/r' x y H Q):=by
 intro value slice pins s σ H x y v u Q I rx ry q hs;rcases q with q|q
 ·exact h value slice pins s σ H x y v u Q I rx ry q hs
 ·exact h' value slice pins s σ H x y v u Q I rx ry q hs
def AQ {r:R2} (hr:IxR X r) (ha:PE X a ta) (hb:PE X b tb) (hs:Ce b):PE X (.Subscript a b pos) (tOp r ta tb):=by
 intro pins s σ H Q I h;exact Subscript_ (binT ha hb I h fun v u s2 x y H2 I2 rx ry q=>hr a b pins s2 σ H2 x y v u Q I2 rx ry q (hs _ _))
def rIxL (K:Za):R2:=fun x y H Q=>∃p xs i v,x=.ref p/\y=.int i/\SqL K H p xs/\atI xs i=some v/\Q v H
def rIxT (K:Za):R2:=fun x y H Q=>∃p xs i v,x=.ref p/\y=.int i/\SqT K H p xs/\atI xs i=some v/\Q v H
def ix_list:IxR X (rIxL X.K):=by
 intro value slice pins s σ H x y v u Q I rx ry h hs;obtain⟨p,xs,i,z,rfl,rfl,hq,he,q⟩:=h;cases rx
 obtain⟨t,rfl⟩:=ry;obtain⟨its,r,pl,hz⟩:=I.list hq;obtain⟨j,h1,h2,h3,h4,h5⟩:=Dq he;obtain⟨w,ew,rw'⟩:=r.get h2;have hl:=r.length;have hn:=N4;have fin:EP X pins σ Q w s:=⟨z,H,I,rw',q⟩;by_cases h0:0<=i
 ·have hj:i.toNat=j:=by
   rw[seqIndex_of h0 h5] at h1;exact Y2 h1
  exact item_listR pl.isList h0 (by omega) (by rw[hj];simpa using ew) fin hs
 ·have hj:(i+(its.toArray.size:Int)).toNat=j:=by
   rw[seqIndex_neg (by omega) h4] at h1;rw[Y8,←hl];exact Y2 h1
  exact subscriptTail_builtinR (x:=w) pl.isList.typeIs slot_list_getitem.lookup
   (wpAny_getItem_list_neg (Q:=fun r s'=>r=w/\EP X pins σ Q r s') pl.isList (by omega) (by rw[Y8]<;>omega) (by omega) (by rw[hj];simpa using ew) ⟨rfl,fin⟩) hs
def GZ:IxR X (rIxT X.K):=by
 intro value slice pins s σ H x y v u Q I rx ry h hs;obtain⟨p,xs,i,z,rfl,rfl,hq,he,q⟩:=h;cases rx
 obtain⟨t,rfl⟩:=ry;obtain⟨its,r,pl,hz⟩:=I.tuple hq;obtain⟨j,h1,h2,h3,h4,h5⟩:=Dq he;obtain⟨w,ew,rw'⟩:=r.get h2;have hl:=r.length;have hn:=N4;have fin:EP X pins σ Q w s:=⟨z,H,I,rw',q⟩
 exact subscriptTail_builtinR (x:=w) pl.typeIs slot_tuple_getitem.lookup
  (getItem_tuple (j:=j) (Q:=fun r s'=>r=w/\EP X pins σ Q r s') pl (by omega) (by omega) (by rw[Y8,←hl];exact h1) (by simpa using ew) ⟨rfl,fin⟩) hs
def OV (lo hi:Option Int) (n:Nat):(sliceBounds lo hi none n).1=((HT.sIx n 0 lo:Nat):Int)/\(sliceBounds lo hi none n).2.1=((HT.sIx n n hi:Nat):Int)/\(sliceBounds lo hi none n).2.2=1:=by
 refine⟨?_,?_,rfl⟩
 ·cases lo with
  | none=>simp[sliceBounds,HT.sIx]
  | some i=>
   simp only[sliceBounds,HT.sIx,Option.getD_none,show(1:Int)>0 by decide,if_true];by_cases h:i<0
   ·simp only[h,if_true]<;>omega
   ·simp only[h,QJ]<;>omega
 ·cases hi with
  | none=>simp[sliceBounds,HT.sIx]
  | some i=>
   simp only[sliceBounds,HT.sIx,Option.getD_none,show(1:Int)>0 by decide,if_true];by_cases h:i<0
   ·simp only[h,if_true]<;>omega
   ·simp only[h,QJ]<;>omega
def Zci (its:List Value) (lo hi:Option Int):slicePick its.toArray lo hi none=((its.drop (HT.sIx its.length 0 lo)).take (HT.sIx its.length its.length hi-HT.sIx its.length 0 lo)).toArray:=by
 obtain⟨h1,h2,h3⟩:=OV lo hi its.toArray.size;unfold slicePick;rw[h1,h2,h3];simp only[sliceRange_one,pick_run,Y8]<;>rfl
def rSlL (K:Za):V->Option Int->Option Int->Hp->VK->Prop:=fun x lo hi H Q=>∃a xs,x=.ref a/\SqL K H a xs/\∀p,H p=none->Q (.ref p) (upd H p (.lst (cutV xs lo hi)))
def O8:SlR X (rSlL X.K):=by
 intro pins s σ H x v vl vu lo hi sl Q I rx hs pl pu h;obtain⟨a,xs,rfl,hx,q⟩:=h;cases rx
 obtain⟨its,r,ht,hz⟩:=I.list hx;have hlen:=r.length;refine⟨"list",_,slot_list_getitem.lookup,ht.isList.typeIs,?_⟩;refine wpAny_getItem_list_slice ht.isList hs pl pu .none (by simp) ?_ (by rw[Y8]<;>omega);rw[Zci,←hlen];refine⟨.ref s.heap.objs.size,_,I.laid (t':=s.toks) (o:=.lst (cutV xs lo hi)) (fun b ob q=>Yu _ q) (Yx _) ?_,rfl,q _ (I.hok.fresh (Yx _))⟩;exact⟨Y7 (O6 xs lo hi) hz,_,0,(r.drop (HT.sIx xs.length 0 lo)).take (HT.sIx xs.length xs.length hi-HT.sIx xs.length 0 lo),Y6 _ rfl⟩
def Xe:V->Bool
 | .non=>true
 | .bl _=>true
 | .int _=>true
 | .str _=>true
 | _=>false
def eqV:V->V->Bool
 | .non,.non=>true
 | .bl a,.bl b=>a==b
 | .bl a,.int b=>(if a then 1 else 0)==b
 | .int a,.bl b=>a==(if b then 1 else 0)
 | .int a,.int b=>a==b
 | .str a,.str b=>a==b
 | _,_=>false
def EX {A:Around}{s:Shared}{y x:V}{u v:Value} (ry:RelV y u) (rx:RelV x v) (fy:Xe y=true) (fx:Xe x=true):SeqAt.EqAt A s u v (eqV y x):=by
 cases y with
 | non=>
  cases ry
  cases x with
  | non=>cases rx;exact SeqAt.EqAt.same _
  | bl b=>cases rx;exact SeqAt.EqAt.none_bool b
  | int b=>obtain⟨t,rfl⟩:=rx;exact SeqAt.EqAt.none_int b t
  | str b=>obtain⟨t,rfl⟩:=rx;exact SeqAt.EqAt.none_str b t
  | _=>exact absurd (show false=true from fx) Y9
 | bl a=>
  cases ry
  cases x with
  | non=>cases rx;exact SeqAt.EqAt.bool_none a
  | bl b=>cases rx;exact SeqAt.EqAt.bool_bool a b
  | int b=>obtain⟨t,rfl⟩:=rx;exact SeqAt.EqAt.bool_int a b t
  | str b=>obtain⟨t,rfl⟩:=rx;exact SeqAt.EqAt.bool_str a b t
  | _=>exact absurd (show false=true from fx) Y9
 | int a=>
  obtain⟨t',rfl⟩:=ry;cases x with
  | non=>cases rx;exact SeqAt.EqAt.int_none a t'
  | bl b=>cases rx;exact SeqAt.EqAt.int_bool a t' b
  | int b=>obtain⟨t,rfl⟩:=rx;exact SeqAt.EqAt.int_int a t' b t
  | str b=>obtain⟨t,rfl⟩:=rx;exact SeqAt.EqAt.int_str a t' b t
  | _=>exact absurd (show false=true from fx) Y9
 | str a=>
  obtain⟨t',rfl⟩:=ry;cases x with
  | non=>cases rx;exact SeqAt.EqAt.str_none a t'
  | bl b=>cases rx;exact SeqAt.EqAt.str_bool a t' b
  | int b=>obtain⟨t,rfl⟩:=rx;exact SeqAt.EqAt.str_int a t' b t
  | str b=>obtain⟨t,rfl⟩:=rx;exact SeqAt.EqAt.str_str a t' b t
  | _=>exact absurd (show false=true from fx) Y9
 | _=>exact absurd (show false=true from fy) Y9
def eqU (x:V) (u:Value):Bool:=match u with
 | .none=>eqV .non x
 | .bool b=>eqV (.bl b) x
 | .int i _=>eqV (.int i) x
 | .str z _=>eqV (.str z) x
 | _=>false
def Cr {x y:V}{u:Value} (r:RelV y u) (f:Xe y=true):eqU x u=eqV y x:=by
 cases y with
 | non=>cases r;rfl
 | bl b=>cases r;rfl
 | int i=>obtain⟨t,rfl⟩:=r;rfl
 | str z=>obtain⟨t,rfl⟩:=r;rfl
 | _=>exact absurd (show false=true from f) Y9
def Tr {x:V}:∀{xs:List V}{us:List Value},Vals xs us->xs.all Xe=true->us.any (eqU x)=xs.any fun y=>eqV y x
 | _,_,.nil,_=>rfl
 | y::xs,u::us,.cons r t,f=>by
  rw[List.all_cons,Wm] at f;rw[Qh,Qh,Cr r f.1,Tr t f.2]
def T8 {A:Around}{s:Shared}{x:V}{v:Value} (rx:RelV x v) (fx:Xe x=true):∀{xs:List V}{us:List Value},Vals xs us->xs.all Xe=true->∀u∈us,SeqAt.EqAt A s u v (eqU x u)
 | _,_,.nil,_=>fun u hu=>by cases hu
 | y::xs,u::us,.cons r t,f=>fun u' hu=>by
  rw[List.all_cons,Wm] at f;rcases Y5.mp hu with rfl|hu
  ·rw[Cr r f.1];exact EX r rx f.1 fx
  ·exact T8 rx fx t f.2 u' hu
def inV (x:V) (xs:List V):Bool:=xs.any fun y=>eqV y x
def rIn (K:Za) (neg:Bool):R2:=fun x y H Q=>∃p xs,y=.ref p/\(SqL K H p xs\/SqT K H p xs)/\Xe x=true/\xs.all Xe=true/\Q (.bl (if neg then !inV x xs else inV x xs)) H
def Zeg:OpR X (compareOp .In) (rIn X.K false):=by
 intro pins s σ H x y v u Q I rx ry h;obtain⟨p,xs,rfl,hq,fx,fs,q⟩:=h;cases ry
 rcases hq with hq|hq
 ·obtain⟨its,r,pl,hz⟩:=I.list hq;refine SeqAt.in_listAt (eqU x) pl.isList (fun w hw=>T8 rx fx r fs w (by simpa using hw)) ⟨.bl _,H,I,rfl,?_⟩;rw[show its.toArray.any (eqU x)=its.any (eqU x) by simp,Tr r fs];exact q
 ·obtain⟨its,r,pl,hz⟩:=I.tuple hq;refine SeqAt.in_tupleAt (eqU x) pl (fun w hw=>T8 rx fx r fs w (by simpa using hw)) ⟨.bl _,H,I,rfl,?_⟩;rw[show its.toArray.any (eqU x)=its.any (eqU x) by simp,Tr r fs];exact q
def Zbm:OpR X (compareOp .NotIn) (rIn X.K true):=by
 intro pins s σ H x y v u Q I rx ry h;obtain⟨p,xs,rfl,hq,fx,fs,q⟩:=h;cases ry
 rcases hq with hq|hq
 ·obtain⟨its,r,pl,hz⟩:=I.list hq;refine SeqAt.notIn_listAt (eqU x) pl.isList (fun w hw=>T8 rx fx r fs w (by simpa using hw)) ⟨.bl _,H,I,rfl,?_⟩;rw[show its.toArray.any (eqU x)=its.any (eqU x) by simp,Tr r fs];exact q
 ·obtain⟨its,r,pl,hz⟩:=I.tuple hq;refine SeqAt.notIn_tupleAt (eqU x) pl (fun w hw=>T8 rx fx r fs w (by simpa using hw)) ⟨.bl _,H,I,rfl,?_⟩;rw[show its.toArray.any (eqU x)=its.any (eqU x) by simp,Tr r fs];exact q
def MO:UF X (.type "list") (fun xs H Q=>∃p ys,xs=[.ref p]/\(SqL X.K H p ys\/SqT X.K H p ys)/\∀l,H l=none->Q (.ref l) (upd H l (.lst ys))):=by
 intro pins s σ H xs us Q I r h;obtain⟨p,ys,rfl,hq,q⟩:=h;obtain⟨u,rfl,rx⟩:=vals1 r;cases rx
 have fin:∀(its:List Value),Vals ys its->ys.length<=sizeLine->∀(h':Heap) (c':Nat),(∀b o',s.heap.get? b=some o'->h'.get? b=some o')->
   h'.get? s.heap.objs.size=some { cls:=.type "list",dict:=none,data:=.seq its.toArray c',slots:=#[] }->EP X pins σ Q (.ref s.heap.objs.size) { s with heap:=h' }:=fun its r' hz h' c' kp e=>
  ⟨.ref s.heap.objs.size,_,I.laid (t':=s.toks) kp (Yx _) (show ObjOk X.prog X.w _ h' _ (.lst ys) from⟨hz,its,c',r',e⟩),rfl,q _ (I.hok.fresh (Yx _))⟩
 rcases hq with hq|hq
 ·obtain⟨its,r',pl,hz⟩:=I.list hq;have hlen:=r'.length;obtain⟨o,ho,hc,n,hd⟩:=pl.isList;exact call_list_seq p (.inl rfl) ho hc hd (fun h' c' kp e=>fin its r' hz h' c' kp e) (by simp only[Y8]<;>omega)
 ·obtain⟨its,r',pl,hz⟩:=I.tuple hq;have hlen:=r'.length;obtain⟨o,ho,hc,n,hd⟩:=pl;exact call_list_seq p (.inr rfl) ho hc hd (fun h' c' kp e=>fin its r' hz h' c' kp e) (by simp only[Y8]<;>omega)
def IP:UF X (.type "tuple") (fun xs H Q=>∃p ys,xs=[.ref p]/\((SqL X.K H p ys/\∀l,H l=none->Q (.ref l) (upd H l (.tup ys)))\/(SqT X.K H p ys/\Q (.ref p) H))):=by
 intro pins s σ H xs us Q I r h;obtain⟨p,ys,rfl,h⟩:=h;obtain⟨u,rfl,rx⟩:=vals1 r;cases rx
 rcases h with⟨hq,q⟩|⟨hq,q⟩
 ·obtain⟨its,r',pl,hz⟩:=I.list hq;have hlen:=r'.length;refine call_tuple_list pl.isList (fun h' kp=>?_) (by simp only[Y8]<;>omega);have I1:Inv X pins σ H { s with heap:=h' }:=I.kept (t':=s.toks) kp
  have I2:Inv X pins σ (upd H h'.objs.size (.tup ys)) { s with heap:=h'.push { cls:=.type "tuple",data:=.seq its.toArray } }:=
   I1.laid (t':=s.toks) (fun b o e=>Yu _ e) (Yx _) (show ObjOk X.prog X.w _ _ _ (.tup ys) from⟨hz,its,r',IsTup.new _ _⟩)
  exact⟨.ref h'.objs.size,_,I2,rfl,q _ (I1.hok.fresh (Yx _))⟩
 ·obtain⟨its,r',pl,hz⟩:=I.tuple hq;exact call_tuple_same pl ⟨.ref p,H,I,rfl,q⟩
def tyV (K:Za) (T:String) (x:V) (H:Hp):Prop:=match x with
 | .str _=>T = "str"
 | .int _=>T = "int"
 | .ref p=>(T = "list"/\∃xs,SqL K H p xs)\/(T = "tuple"/\∃o,K.lookup p=some o/\o.cls=.type "tuple"/\o.dict=none)\/
   (T = "dict"/\((∃kvs,H p=some (.dK kvs))\/∃kvs,H p=some (.dT kvs)))\/(T = "set"/\∃S n,H p=some (.set S n))
 | _=>False
def Cp {pins:List (Addr×Obj)}{σ:St}{H:Hp}{s:Shared}{T:String}{x:V}{v:Value} (I:Inv X pins σ H s) (r:RelV x v) (ty:tyV X.K T x H) :
  s.TypeIs v T/\∀a,v=.ref a->∃ob,s.heap.get? a=some ob/\ob.dict=none:=by
 cases x with
 | str z=>
  obtain⟨t,rfl⟩:=r;cases (show T = "str" from ty)
  exact⟨typeIs_str s z t,fun _ e=>nomatch e⟩
 | int i=>
  obtain⟨t,rfl⟩:=r;cases (show T = "int" from ty)
  exact⟨typeIs_int s i t,fun _ e=>nomatch e⟩
 | ref p=>
  cases r
  rcases ty with⟨rfl,xs,hq⟩|⟨rfl,o,hk,hc,hd⟩|⟨rfl,hk⟩|⟨rfl,S,n,hk⟩
  ·obtain⟨its,_,pl,_⟩:=I.list hq;refine⟨pl.isList.typeIs,fun a e=>?_⟩;cases e
   obtain⟨o,n,e,c,hd,_⟩:=pl;exact⟨o,e,hd⟩
  ·refine⟨⟨o,I.kIn p o hk,hc⟩,fun a e=>?_⟩;cases e
   exact⟨o,I.kIn _ o hk,hd⟩
  ·have z:∃o,s.heap.get? p=some o/\o.ExactDict:=by
    rcases hk with⟨kvs,hk⟩|⟨kvs,hk⟩
    ·obtain⟨_,_,_,_,o,_,_,e,ex,_⟩:=I.hok p _ hk;exact⟨o,e,ex⟩
    ·obtain⟨_,_,_,_,o,_,_,e,ex,_⟩:=I.hok p _ hk;exact⟨o,e,ex⟩
   obtain⟨o,e,ex⟩:=z;refine⟨⟨o,e,ex.1⟩,fun a e2=>?_⟩;cases e2
   exact⟨o,e,ex.2.1⟩
  ·obtain⟨o,_,_,_,e,ex,_⟩:=I.hok p _ hk;refine⟨⟨o,e,ex.1⟩,fun a e2=>?_⟩;cases e2
   exact⟨o,e,ex.2.1⟩
 | _=>exact False.elim ty
def tBM0 (K:Za) (T:String) (r:V->List V->Hp->VK->Prop) (to:TE):TE:=fun σ H Q=>to σ H fun x H1=>tyV K T x H1/\r x [] H1 Q
def tBM (K:Za) (T:String) (r:V->List V->Hp->VK->Prop) (to:TE) (t:TA):TE:=fun σ H Q=>to σ H fun x H1=>tyV K T x H1/\t σ H1 fun xs H2=>r x xs H2 Q
variable {o e:Expr}{es:List Expr}{to:TE}{t:TA}{name:Str}{apos cpos:Pos}{T id:String}{r:V->List V->Hp->VK->Prop}
def Td (pa:PlainAttrs T) (slot:Slot T name id) (hty:typeOf (.builtin id)=pure (.type "method_descriptor")) (hm:MtR X id r) (ho:PE X o to)
  (hbase:attributeBase o name X.env (eval o X.env)=eval o X.env:=by rfl) (hline:(apos.endLine==cpos.line)=true:=by rfl):PE X (.Call (.Attribute o name apos) [] [] cpos) (tBM0 X.K T r to):=by
 intro pins s σ H Q I h;refine wpAny_Call_method0_late hbase hline (thn (ho pins s σ H _ I h) fun v s1 ⟨x,H1,I1,r1,ty,q1⟩=>?_);obtain⟨h1,h2⟩:=Cp I1 r1 ty;exact⟨T,id,pa,slot,hty,h1,h2,Calls.callWith_builtin rfl (PySem.evalArgs_none (hm pins s1 σ H1 x [] v [] Q I1 r1 .nil q1))⟩
def XT (pa:PlainAttrs T) (slot:Slot T name id) (hty:typeOf (.builtin id)=pure (.type "method_descriptor")) (hm:MtR X id r) (ho:PE X o to) (ha:PA X (e::es) t)
  (hbase:attributeBase o name X.env (eval o X.env)=eval o X.env:=by rfl)
  (hfew:((backTo cpos (starEach (e::es) X.env)).all (fun x=>!x.1)&&(backToKw cpos (keywordEach [] X.env)).all (fun x=>x.1.isSome)
   && decide ((e::es).length+([]:List Keyword).length+(if ([]:List Keyword).isEmpty then 0 else 1)<30))=true:=by rfl)
  (hline:(apos.endLine==cpos.line)=true:=by rfl) (hs:starEach (e::es) X.env=(false,eval e X.env)::starEach es X.env:=by rfl) (hplain:(backTo cpos (starEach es X.env)).any (·.1)=false:=by rfl) :
  PE X (.Call (.Attribute o name apos) (e::es) [] cpos) (tBM X.K T r to t):=by
 intro pins s σ H Q I h;refine wpAny_Call_method_late hbase hfew hline rfl (thn (ho pins s σ H _ I h) fun v s1 ⟨x,H1,I1,r1,ty,q1⟩=>?_);obtain⟨h1,h2⟩:=Cp I1 r1 ty;refine⟨T,id,pa,slot,hty,h1,h2,?_⟩;have hA:=ha cpos pins s1 σ H1 _ I1 q1;rw[hs] at hA ⊢;refine Calls.callWith_builtin (by show(false || (backTo cpos (starEach es X.env)).any (·.1))=false;rw[hplain]<;>rfl) (Calls.evalArgs_plain ?_);exact thn hA fun us s2 ⟨vs,H2,I2,r2,q2⟩=>hm pins s2 σ H2 x vs v us Q I2 r1 r2 q2
end
def MtM (X:Cx) (id:String) (r:V->List V->Hp->VK->Prop):Prop:=
 ∀(pins:List (Addr×Obj)) (s:Shared) (σ:St) (H:Hp) (x:V) (xs:List V) (v:Value) (us:List Value) (Q:VK),Inv X pins σ H s->RelV x v->Vals xs us->r x xs H Q->
  wpAny (model X.prog X.w) X.A (call (.builtin id) (v::us)) (EP X pins σ Q) X.xe s
def Vals.one:∀{x:V}{us:List Value},Vals [x] us->∃u,us=[u]/\RelV x u
 | _,_,.cons r .nil=>⟨_,rfl,r⟩
def Vals.zero:∀{us:List Value},Vals [] us->us=[]
 | _,.nil=>rfl
def Vals.dropLast {xs:List V}{us:List Value} (h:Vals xs us):Vals xs.dropLast us.dropLast:=by
 induction h with
 | nil=>exact .nil
 | cons r t ih=>
  cases t with
  | nil=>exact .nil
  | cons q t'=>exact .cons r ih
def Ik {α:Type} (l:List α):l.eraseIdx (l.length-1)=l.dropLast:=by
 induction l with
 | nil=>rfl
 | cons a r ih=>
  cases r with
  | nil=>rfl
  | cons b r=>
   have e:(a::b::r).length-1=((b::r).length-1)+1:=by
    have h1:(a::b::r).length=r.length+2:=rfl;have h2:(b::r).length=r.length+1:=rfl;omega
   rw[e,List.eraseIdx_cons_succ,ih]
   all_goals rfl
section
variable {X:Cx}{pins:List (Addr×Obj)}{σ:St}{H:Hp}{s:Shared}{l b:Addr}{xs ys zs:List V}
def Inv.lset {its its':List Value}{n:Nat}{f:Array Value->Array Value}{t':Nat} (I:Inv X pins σ H s) (hH:H l=some (.lst xs))
  (e:s.heap.get? l=some { cls:=.type "list",data:=.seq its.toArray n }) (hf:f its.toArray=its'.toArray) (hv:Vals ys its') (hz:ys.length<=sizeLine) :
  Inv X pins σ (upd H l (.lst ys)) { s with heap:=s.heap.update l (Obj.mapSeq f),toks:=t' }:=by
 have q:=PySem.IsL.update e f;rw[hf] at q;refine I.write (x:=l) (e:=l) (by rw[hH];exact trivial) (.inl rfl) (fun b' u hb hu=>(Ws s.heap (Obj.mapSeq f) (Ne.symm hb)).trans hu) ⟨_,q⟩ ?_;exact⟨hz,its',_,hv,q⟩
def Inv.lnew {its:List Value}{t':Nat} (I:Inv X pins σ H s) (hv:Vals ys its) (hz:ys.length<=sizeLine) :
  Inv X pins σ (upd H s.heap.objs.size (.lst ys)) { s with heap:=s.heap.push { cls:=.type "list",data:=.seq its.toArray },toks:=t' }:=
 I.laid (fun _ _ q=>Yu _ q) (Yx _) ⟨hz,its,0,hv,Y6 _ rfl⟩
def Inv.fresh (I:Inv X pins σ H s):H s.heap.objs.size=none:=I.hok.fresh (Yx _)
def Inv.lstM (I:Inv X pins σ H s) (hH:H l=some (.lst xs)):xs.length<=sizeLine/\∃(its:List Value) (n:Nat),Vals xs its/\xs.length=its.length/\s.heap.get? l=some { cls:=.type "list",data:=.seq its.toArray n }:=by
 obtain⟨z,its,n,r,e⟩:=I.hok l _ hH;exact⟨z,its,n,r,r.length,e⟩
def Hy {n:Nat} (h:n<=sizeLine):Builtin.List.listTooLong n=false:=by
 unfold Builtin.List.listTooLong;exact YB (by omega)
end
section
variable {X:Cx}
def BF:V->List V->Hp->VK->Prop:=fun x vs H Q=>∃l xs y,x=.ref l/\vs=[y]/\H l=some (.lst xs)/\xs.length<sizeLine/\Q .non (upd H l (.lst (xs++[y])))
def XZ:MtM X "list.append" BF:=by
 intro pins s σ H x vs v us Q I rx rv h;obtain⟨l,xs,y,rfl,rfl,hH,hz,q⟩:=h;cases rx
 obtain⟨u,rfl,ru⟩:=rv.one;obtain⟨z,its,n,r,hl,e⟩:=I.lstM hH;refine call_meets F.slot_list_append ⟨_,e,rfl⟩ F.entry_list_append (F.args_list_append_2 _ _) (PySem.list_append l its.toArray n u (by rw[Y8];omega)) ⟨e,?_⟩;refine⟨.non,_,I.lset (its':=its++[u]) hH e (by simp) (r.append (.cons ru .nil)) ?_,rfl,q⟩;rw[Yy,YZ];omega
def M7:V->List V->Hp->VK->Prop:=fun x vs H Q=>∃l b xs zs,x=.ref l/\vs=[.ref b]/\H l=some (.lst xs)/\H b=some (.lst zs)/\xs.length+zs.length<=sizeLine/\Q .non (upd H l (.lst (xs++zs)))
def Zev:MtM X "list.extend" M7:=by
 intro pins s σ H x vs v us Q I rx rv h;obtain⟨l,b,xs,zs,rfl,rfl,hH,hB,hz,q⟩:=h;cases rx
 obtain⟨u,rfl,ru⟩:=rv.one;cases ru
 obtain⟨z,its,n,r,hl,e⟩:=I.lstM hH;obtain⟨z2,its2,n2,r2,hl2,e2⟩:=I.lstM hB;have hsz:its.toArray.size+its2.toArray.size<=sizeLine:=by rw[Y8,Y8];omega
 have hlong:¬(!its.toArray.isEmpty&&Builtin.List.listTooLong (its.toArray.size+its2.toArray.size))=true:=by
  rw[Hy hsz,Bool.and_false];exact Y9
 refine call_meets F.slot_list_extend ⟨_,e,rfl⟩ F.entry_list_extend (F.args_list_extend_2 _ _)
  (AutoSeq1.list_extend_list_list_0 l its.toArray n b its2.toArray n2 hlong (by rw[Y8];omega) (by omega)) ⟨e,e2,?_⟩
 refine⟨.non,_,I.lset (its':=its++its2) hH e (by simp) (r.append r2) ?_,rfl,q⟩;rw[Yy];omega
def rPop:V->List V->Hp->VK->Prop:=fun x vs H Q=>∃l xs y,x=.ref l/\vs=[]/\H l=some (.lst xs)/\xs[xs.length-1]?=some y/\Q y (upd H l (.lst xs.dropLast))
def TR:MtM X "list.pop" rPop:=by
 intro pins s σ H x vs v us Q I rx rv h;obtain⟨l,xs,y,rfl,rfl,hH,hy,q⟩:=h;cases rx
 have hus:=rv.zero;subst hus;obtain⟨z,its,n,r,hl,e⟩:=I.lstM hH;obtain⟨u,hu,ru⟩:=r.get hy
 have hy':its.toArray[its.toArray.size-1]?=some u:=by
  show its.toArray[its.length-1]?=some u;rw[←Ww,←hl];exact hu
 refine call_meets F.slot_list_pop ⟨_,e,rfl⟩ F.entry_list_pop (F.args_list_pop_1 _) (MeetsSeq.list_pop_last l its.toArray n u hy' (by rw[Y8];omega)) ⟨e,?_⟩;refine⟨y,_,I.lset (its':=its.dropLast) hH e ?_ r.dropLast ?_,ru,q⟩
 ·show its.toArray.eraseIdxIfInBounds (its.toArray.size-1)=its.dropLast.toArray;rw[Y8,List.eraseIdxIfInBounds_toArray,Ik]
 ·rw[List.length_dropLast];omega
def rCat:R2:=fun x y H Q=>∃l b xs zs,x=.ref l/\y=.ref b/\H l=some (.lst xs)/\H b=some (.lst zs)/\xs.length+zs.length<=sizeLine/\∀p,H p=none->Q (.ref p) (upd H p (.lst (xs++zs)))
def UZ:OpR X (binaryOp .Add) rCat:=by
 intro pins s σ H x y v u Q I rx ry h;obtain⟨l,b,xs,zs,rfl,rfl,hH,hB,hz,q⟩:=h;cases rx
 cases ry
 obtain⟨z,its,n,r,hl,e⟩:=I.lstM hH;obtain⟨z2,its2,n2,r2,hl2,e2⟩:=I.lstM hB;refine PySem.P.add_list e e2 ?_ (by rw[Y8,Y8];omega);have ea:its.toArray++its2.toArray=(its++its2).toArray:=by simp
 rw[ea];exact⟨.ref _,_,I.lnew (t':=s.toks) (r.append r2) (by rw[Yy];omega),rfl,q _ I.fresh⟩
end
end L2
namespace Att
open PySem PySem.W PySem.Calls PyProof.Rows
def Zes {P:Params}{h:Heap}:∀(ns:List Int) (vs:List Value),WellAll P h vs (ns.map WData.int)->IntsAre vs ns:=by
 intro ns
 induction ns with
 | nil=>
  intro vs w;rw[Vn] at w;cases w
  exact .nil
 | cons n ns ih=>
  intro vs w;rw[YA] at w;cases w with
  | cons a b=>
   cases a
   exact .cons _ _ (ih _ b)
def Zaq {l:OpenLaw}{n:Nat} (hn:l.most=some n) {P:Params}{h:Heap}{args:List WData}{vals:List Value}
  (hpre:l.row.toRowW.claim.pre args=true) (hwl:WellAll P h vals args) :
  ∃a vs ns,vals=[Value.ref a]/\args=[WData.list (ns.map WData.int)]/\h.get? a=some { cls:=.type "list",data:=.seq vs.toArray }/\IntsAre vs ns/\ns.length<=n:=by
 have hsh:WShape.hasAll [] args [.list .int]=true:=(pre_splitW hpre).1;have hc:l.pre.holds [] { args:=args }=true:=(pre_splitW hpre).2;obtain⟨d,r,rfl,h1,h2⟩:=hasAllW_cons hsh;obtain rfl:=hasAllW_nil h2;obtain⟨xs,rfl,h3⟩:=hasW_list h1;obtain⟨ns,rfl⟩:=items_int h3
 have hlen:ns.length<=n:=by
  unfold OpenLaw.pre at hc
  have h4:(WTm.not (.lt (.lit (.int (n:Int))) (.len (.arg 0)))).holds [] { args:=[.list (ns.map .int)] }=true:=by
   have h4:=(holds_andW hc).1;rw[hn] at h4;exact h4
  have h5:=condW_of h4 (w_not (w_lt w_lit (w_len_list (w_arg rfl))));rw[Yn] at h5;refine Nat.le_of_not_lt fun q=>?_;have q':(n:Int)<((ns.length:Nat):Int):=by omega
  first
   | (rw[Ys q'] at h5;exact absurd h5 (by decide))
   | (simp at h5;omega)
 cases hwl with
 | cons w1 w2=>
  cases w2
  cases w1 with
  | list ho hall=>exact⟨_,_,ns,rfl,rfl,ho,Zes ns _ hall,hlen⟩
def Zeo (l:OpenLaw) (args:List WData):l.row.toRowW.claim.post args (.bool true) args=true:=
 postW_of (r:=l.row.toRowW) (X:=(true==true))
  (show WShape.has [] (.bool true) .bool=true by first|rfl|decide|simp[WShape.has,WShape.arms,WShape.armsAll])
  (show(WTm.eq .res (.lit (.bool true))).value [] { args:=args,res:=some (.bool true),after:=args }=some (.bool (true==true)) from w_eq_bool (w_res rfl) w_lit) rfl
def Re {l:OpenLaw}{n:Nat}{q:Program}{loose:List Str}{XP:(Str->Option Value)->Heap->Prop}{YP:World->Heap->Prop}{d:DefRec}
  (hn:l.most=some n) (hdf:d.params.defaults=[])
  (call:∀(w:World) (s₀ s₁:Shared) (mg mb:Str->Option Value) (fa:Addr) (o:Obj) (pm cd doc:Value) (a:Addr) (vs:List Value) (ns:List Int),
   Ground q loose [] XP w s₀ mg mb s₁.heap->YP w s₁.heap->
   s₁.heap.get? fa=some o->o.data=.func (docDef d.name d.params d.body d.scope pm cd doc)->s₁.heap.CodeRec cd d.name->mg d.name=some (.ref fa)->
   s₁.heap.get? a=some { cls:=.type "list",data:=.seq vs.toArray }->IntsAre vs ns->ns.length<=n->s₁.gens=#[]->
   codeAny (model l.prog w) callerA (.call (.ref fa) ⟨[.ref a],[]⟩) (fun r s'=>r=.ok (.ret (.bool true))/\OldK s₁.heap s'.heap/\s'.os=s₁.os/\AllBare s'.gens) s₁) :
  WalkO q loose XP YP l.row.toRowW d [] (fun f vs=>PySem.call f vs):=by
 intro w s₀ s₁ mg mb G Y fa o pm cd doc dV kV ho hd hcd hD hmg hg args vals as hpre hlay hrd hwl hlo;obtain rfl:dV=.none:=Dflts.none hD hdf;obtain rfl:kV=.none:=Dflts.noKw hD;obtain⟨a,vs,ns,rfl,rfl,hobj,hints,hlen⟩:=Zaq hn hpre hwl;refine enter_call (Qs (call w s₀ s₁ mg mb fa o pm cd doc a vs ns G Y ho (fd_plain hd) hcd hmg hobj hints hlen hg) fun r s' hq=>?_);obtain⟨rfl,h2,h3,h4⟩:=hq;exact⟨.inl ⟨.bool true,.bool true,[],rfl,fun _=>rfl,.bool true,Zeo l _,fun _=>⟨List.Pairwise.nil,fun _ hm=>(nomatch hm)⟩⟩,h2,h3,h4⟩
end Att
namespace L2
open PySem PySem.Spec PyProof.Rows
def N3:∀{vs:List Value}{ns:List Int},IntsAre vs ns->Vals (ns.map V.int) vs
 | _,_,.nil=>.nil
 | _,_,.cons n t h=>.cons ⟨t,rfl⟩ (N3 h)
def Only (H:Hp):Prop:=∀b,H b=none\/∃o xs,H b=some (.frz o (.lst xs))
def RL {P:Program}{w:World}{K:Za}{mg mb:Str->Option Value}{CX:CXT}{k:Nat}{fa a:Addr}{fd:FuncData}{x:Str}{sp:Sp}{s₁:Shared}{vs:List Value}{ns:List Int}
  (KX:K.In s₁.heap) (hns:s₁.heap.Ns mainGlobals mg) (hb:s₁.heap.Ns builtinsNs mb) (hbb:∀x:Str,x≠"__name__"->mb x=bootBuiltins x) (hlim:s₁.heap.NoLimit) (hg:s₁.gens=#[])
  (ha:s₁.heap.get? a=some { cls:=.type "list",data:=.seq vs.toArray }) (hi:IntsAre vs ns) (hl:ns.length<=sizeLine) (hr:Room k callerA)
  (F:∀base:Heap,K.In base->base.Ns mainGlobals mg->FnOk P w K mg base CX k fa fd [x] sp) (hbind:∀(s:Shared) (u:Value),BindsTo s fd ⟨[u],[]⟩ [(x,u)])
  (hsp:∀H:Hp,Only H->SqL K H a (ns.map V.int)->sp [.ref a] H (fun v _=>v=.bl true) fun _ _ _=>False)
  (hCX:∀H e s',CX [] H s₁ (fun _ _ _=>False) e s'->False) :
  codeAny (model P w) callerA (.call (.ref fa) ⟨[.ref a],[]⟩) (fun r s'=>r=.ok (.ret (.bool true))/\OldK s₁.heap s'.heap/\s'.os=s₁.os/\AllBare s'.gens) s₁:=by
 have rv:=N3 hi;have lenV:=hi.length
 have core:∀H:Hp,Only H->SqL K H a (ns.map V.int)->HOk P w H s₁.heap->(∀b,H b≠none->b=a)->(H a≠none->K.lookup a=none)->
   codeAny (model P w) callerA (.call (.ref fa) ⟨[.ref a],[]⟩) (fun r s'=>r=.ok (.ret (.bool true))/\OldK s₁.heap s'.heap/\s'.os=s₁.os/\AllBare s'.gens) s₁:=by
  intro H hO hS hok hA hK;have base_of:∀{b:Addr} {o:Obj},s₁.heap.get? b=some o->H b=none->(hidT s₁.heap H).get? b=some o:=fun e n=>Me e n
  have noA:∀{b:Addr} {o:Obj} {es:Array DictEntry} {ep:Nat},s₁.heap.get? b=some o->o.data=.dict es ep->H b=none:=fun {b o es ep} e d=>by
   cases q:H b with
   | none=>rfl
   | some u=>
    have e':b=a:=hA b (by rw[q];simp);subst e';rw[ha] at e;cases e;have d':Data.seq vs.toArray _=Data.dict es ep:=d;cases d'
  have nsK:∀{b:Addr} {m:Str->Option Value},s₁.heap.Ns b m->(hidT s₁.heap H).Ns b m:=fun {b m} ⟨o,es,ep,e,d,r⟩=>⟨o,es,ep,base_of e (noA e d),d,r⟩
  have hKb:K.In (hidT s₁.heap H):=fun b o e=>base_of (KX b o e) (by
   cases q:H b with
   | none=>rfl
   | some u=>
    have e':b=a:=hA b (by rw[q];simp);subst e';rw[hK (by rw[q];simp)] at e;cases e)
  have hM:Mod K mg (hidT s₁.heap H):=⟨hKb,nsK hns,⟨mb,nsK hb,hbb⟩,let ⟨mc,h1,h2⟩:=hlim;⟨mc,nsK h1,h2⟩⟩;have e0:Env0 P w K mg (hidT s₁.heap H) callerA [] s₁ H:=⟨rfl,hM,fun b o e=>Zdj e,WG (GV _ _),trivial,fun b hb=>absurd (show b∈([]:List Addr) from hb) (by simp),hok,.of_eq hg⟩
  refine Qs ((F _ hKb (nsK hns)).run callerA [] s₁ H ⟨[.ref a],[]⟩ [.ref a] [.ref a] _ _ hr e0 (hbind s₁ (.ref a)) (.cons rfl .nil) (hsp H hO hS)) fun r s' h=>?_;cases r with
  | error e=>exact(hCX H e s' h).elim
  | ok fl=>
   cases fl with
   | next=>exact False.elim h
   | brk=>exact False.elim h
   | cont=>exact False.elim h
   | ret u=>
    obtain⟨v,H',os,bare,un,hok',r',q⟩:=h;have q':v=.bl true:=q;subst q';obtain rfl:u=Value.bool true:=r';refine⟨rfl,OldK.of_keep fun b o e=>?_,os,bare⟩;cases q:H b with
    | none=>exact un.keep b o e q (by intro z;exact absurd (show b∈([]:List Addr) from z) (by simp)) (by simp)
    | some u=>
     rcases hO b with z|⟨ob,xs,z⟩
     ·rw[q] at z;cases z
     ·have z2:=un.frzs b ob _ z;obtain⟨e1,_⟩:=hok b _ z;obtain⟨e2,_⟩:=hok' b _ z2;rw[e] at e1;cases e1;exact e2
 cases hk:K.lookup a with
 | some o=>
  have e:=KX a o hk;rw[ha] at e;cases e
  refine core (fun _=>none) (fun _=>.inl rfl) (.inr ⟨_,vs.toArray,_,hk,rfl,rfl,rfl,by rw[Y8,lenV];exact hl,by simpa using rv⟩) (fun b u z=>by have z':(none:Option HO)=some u:=z;cases z') (fun b z=>absurd rfl z) fun z=>absurd rfl z
 | none=>
  refine core (fun b=>if b=a then some (.frz { cls:=.type "list",data:=.seq vs.toArray } (.lst (ns.map V.int))) else none) (fun b=>?_) (.inl (.inr ⟨{ cls:=.type "list",data:=.seq vs.toArray },Yr rfl⟩)) (fun b u z=>?_) (fun b z=>?_) fun _=>hk
  ·by_cases hb:b=a
   ·exact .inr ⟨_,_,Yr hb⟩
   ·exact .inl (Yq hb)
  ·by_cases hb:b=a
   ·have z':=(Yr hb).symm.trans z;cases z'
    subst hb;exact⟨ha,by rw[Yn];exact hl,vs,_,rv,ha⟩
   ·have z':=(Yq hb).symm.trans z;cases z'
  ·by_cases hb:b=a
   ·exact hb
   ·exact absurd (Yq hb) z
def Ot {l:PySem.W.OpenLaw}{n k:Nat}{q:Program}{loose:List Str}{XP:(Str->Option Value)->Heap->Prop}{YP:World->Heap->Prop}{d:DefRec}{K:Params->Za}{CX:World->CXT}{sp:World->Sp}{x:Str}
  (hn:l.most=some n) (hn2:n<=sizeLine) (hdf:d.params.defaults=[]) (hr:Room k callerA)
  (hY:∀(w:World) (h:Heap),YP w h->(K w.params).In h)
  (F:∀(w:World) (mg:Str->Option Value) (fa:Addr) (h:Heap),(K w.params).In h->h.Ns mainGlobals mg->mg d.name=some (.ref fa)->
   ∃fd:FuncData,(∀(s:Shared) (u:Value),BindsTo s fd ⟨[u],[]⟩ [(x,u)])/\
    ∀base:Heap,(K w.params).In base->base.Ns mainGlobals mg->FnOk l.prog w (K w.params) mg base (CX w) k fa fd [x] (sp w))
  (hsp:∀(w:World) (H:Hp) (a:Addr) (ns:List Int),ns.length<=n->Only H->SqL (K w.params) H a (ns.map V.int)->sp w [.ref a] H (fun v _=>v=.bl true) fun _ _ _=>False)
  (hCX:∀(w:World) (H:Hp) (s:Shared) (e:Value) (s':Shared),CX w [] H s (fun _ _ _=>False) e s'->False) :
  PySem.W.WalkO q loose XP YP l.row.toRowW d [] (fun f vs=>PySem.call f vs):=by
 refine Att.Re hn hdf fun w s₀ s₁ mg mb fa o pm cd doc a vs ns G Y ho hd hcd hmg hobj hints hlen hg=>?_;have KX:=hY w _ Y;obtain⟨fd,hb,hF⟩:=F w mg fa _ KX G.T.g hmg;exact RL KX G.T.g G.T.b G.T.builtins G.T.nolimit hg hobj hints (Y7 hlen hn2) hr hF hb (fun H hO hS=>hsp w H a ns hlen hO hS) fun H e s'=>hCX w H s₁ e s'
def Zd7 {l:PySem.W.OpenLaw}{n k:Nat}{q:Program}{loose:List Str}{XP:(Str->Option Value)->Heap->Prop}{YP:World->Heap->Prop}{d:DefRec}{K:Params->Za}{CX:CXT}{sp:Za->Sp}{x:Str}
  (hn:l.most=some n) (hn2:n<=sizeLine) (hdf:d.params.defaults=[]) (hr:Room k callerA)
  (hY:∀(w:World) (h:Heap),YP w h->(K w.params).In h)
  (F:∀(w:World) (mg:Str->Option Value) (fa:Addr) (h:Heap),(K w.params).In h->h.Ns mainGlobals mg->mg d.name=some (.ref fa)->
   ∃fd:FuncData,(∀(s:Shared) (u:Value),BindsTo s fd ⟨[u],[]⟩ [(x,u)])/\
    ∀base:Heap,(K w.params).In base->base.Ns mainGlobals mg->FnOk l.prog w (K w.params) mg base CX k fa fd [x] (sp (K w.params)))
  (hsp:∀(K:Za) (H:Hp) (a:Addr) (ns:List Int),ns.length<=n->Only H->SqL K H a (ns.map V.int)->sp K [.ref a] H (fun v _=>v=.bl true) fun _ _ _=>False)
  (hCX:∀(H:Hp) (s:Shared) (e:Value) (s':Shared),CX [] H s (fun _ _ _=>False) e s'->False) :
  PySem.W.WalkO q loose XP YP l.row.toRowW d [] (fun f vs=>PySem.call f vs):=
 Ot (K:=K) (CX:=fun _=>CX) (sp:=fun w=>sp (K w.params)) hn hn2 hdf hr hY F (fun w H a ns h1 h2 h3=>hsp (K w.params) H a ns h1 h2 h3) fun _ H s e s'=>hCX H s e s'
def inClass (s:Stmt) (j:Nat):Stmt:=match s with
 | .ClassDef _ _ _ body _ _ _ _ _ _ _=>body.getD j (.Pass ⟨0,0,0,0⟩)
 | _=>.Pass ⟨0,0,0,0⟩
def XC (s:Stmt):Arguments:=match s with
 | .FunctionDef _ a _ _ _ _ _ _ _ _=>a
 | _=>{ posonlyargs:=[],args:=[],vararg:=none,kwonlyargs:=[],kw_defaults:=[],kwarg:=none,defaults:=[] }
def UH (s:Stmt):List Stmt:=match s with
 | .FunctionDef _ _ b _ _ _ _ _ _ _=>b
 | _=>[]
def J5 (s:Stmt):Scope:=match s with
 | .FunctionDef _ _ _ _ _ _ sc _ _ _=>sc
 | _=>{ kind:=.function,names:=[],isGenerator:=false,isCoroutine:=false }
abbrev CX0:CXT:=fun _ _ _ _ _ _=>False
abbrev E0:XK:=fun _ _ _=>False
def Ui {X:Cx}:Xx CX0 X E0:=fun _ _ _ _ _ _ _ h=>h.elim
structure Fun (K:Za) (x qual:Str) (st:Stmt) (f:Addr) (fd:FuncData):Prop where
 ex:∃(oc:Value) (od:Option Addr) (kV doc pm:Value) (an:Option Addr) (cdv ct:Value) (osl:Array (Option Value)),
  fd=PySem.W.fnOf x qual (XC st) (UH st) (J5 st) .none kV doc pm an cdv ct/\K.lookup f=some ⟨oc,od,.func fd,osl⟩/\PySem.W.codeIn K cdv qual=true
 kp:PySem.W.keepIn K (.ref f)=true
section
variable {P:Program}{w:World}{K:Za}{mg:Str->Option Value}{base:Heap}
def Fun.ok {x qual:Str}{st:Stmt}{f:Addr}{fd:FuncData}{N ps:List Str}{k:Nat}{sp:Sp} (F:Fun K x qual st f fd) (S:FnScope N ps (J5 st)) (len:∀vs H Q E,sp vs H Q E->vs.length=ps.length)
  (hbody:∀(cdv:Value) (A:Around) (outer:List Env) (s:Shared) (H:Hp) (vs:List V) (Q:VK) (E:XK),Room k (A.deeper (envOfC qual (J5 st) s.heap.objs.size f cdv))->sp vs H Q E->
   ∃t,PSs (cxOf CX0 P w K mg base N qual (J5 st) f cdv A outer s H E).nox (UH st) t/\t { nx:=fun _ H'=>Q .non H',rt:=Q } (start N vs) H):FnOk P w K mg base CX0 (k+1) f fd ps sp:=by
 obtain⟨oc,od,kV,doc,pm,an,cdv,ct,osl,rfl,lk,hcd⟩:=F.ex;refine Sz lk hcd S len fun A outer s H vs Q E hr hsp=>?_;obtain⟨t,h,q⟩:=hbody cdv A outer s H vs Q E hr hsp;exact⟨t,h.nox,q⟩
def Fun.binds {x qual:Str}{st:Stmt}{f:Addr}{fd:FuncData}{ps:List Str} (F:Fun K x qual st f fd)
  (h:∀(kV doc pm:Value) (an:Option Addr) (cdv ct:Value) (us:List Value),us.length=ps.length->bindArgs (PySem.W.fnOf x qual (XC st) (UH st) (J5 st) .none kV doc pm an cdv ct) ⟨us,[]⟩=pure (ps.zip us)):Binds K fd ps []:=by
 obtain⟨oc,od,kV,doc,pm,an,cdv,ct,osl,rfl,lk,hcd⟩:=F.ex;exact .all (h kV doc pm an cdv ct)
def Ft {x qual:Str}{st:Stmt}{f:Addr}{oc:Value}{od an:Option Addr}{osl:Array (Option Value)}{kV doc pm cdv ct:Value} (l:K.lookup f=some ⟨oc,od,.func (PySem.W.fnOf x qual (XC st) (UH st) (J5 st) .none kV doc pm an cdv ct),osl⟩)
  (c:PySem.W.codeIn K cdv qual=true) (k:PySem.W.keepIn K (.ref f)=true):Fun K x qual st f (PySem.W.fnOf x qual (XC st) (UH st) (J5 st) .none kV doc pm an cdv ct):=⟨⟨oc,od,kV,doc,pm,an,cdv,ct,osl,rfl,l,c⟩,k⟩
end
def U6 {A:Around}{k:Nat} (hr:Room k A):A.units+1<cLine:=Vf (Nat.add_le_add_left (by decide:1<=64) _) hr.units
def LI {n:Nat} (h:n<=1000):n<sizeLine:=Vf h (by decide)
section
variable {X:Cx}
def pv (i:Nat) {x:Str}{pos:Pos} (hN:X.N[i]?=some x:=by rfl) (hv:Vis X.env.scope x:=by first|exact Or.inl rfl|exact Or.inr (Or.inl rfl)|exact Or.inr (Or.inr rfl)) (hd:(x==("__debug__" : Str))=false:=by decide)
  (hcd:(x==("__classdict__" : Str))=false:=by decide):PE X (.Name x pos) (tVar i):=LR hN hv hd hcd
end
def iteF {A B:Prop} (h:B):if false=true then A else B:=by
 rw[Yq Y9];exact h
def iteT {A B:Prop} (h:A):if true=true then A else B:=by
 rw[Yr rfl];exact h
def ite2 {c A B:Prop} [Decidable c] (h1:c->A) (h2:¬c->B):if c then A else B:=by
 by_cases h:c
 ·rw[Yr h];exact h1 h
 ·rw[Yq h];exact h2 h
def Kv {c A B:Prop} [Decidable c] (hc:c) (h:B):if (!decide c)=true then A else B:=by
 rw[Ys hc];exact iteF h
def Same (H H':Hp):Prop:=∀b o,H b=some o->H' b=some o
def Same.refl (H:Hp):Same H H:=fun _ _ h=>h
def Same.trans {H H1 H2:Hp} (a:Same H H1) (b:Same H1 H2):Same H H2:=fun c o h=>b c o (a c o h)
def Same.free {H H':Hp} (e:Same H H') {l:Addr} (h:H' l=Option.none):H l=Option.none:=by
 cases q:H l with
 | none=>rfl
 | some o=>
  rw[e l o q] at h;cases h
def Same.seq {K:Za}{H H':Hp}{a:Addr}{xs:List V} (e:Same H H') (h:SqL K H a xs):SqL K H' a xs:=by
 rcases h with(h|⟨o,h⟩)|h
 ·exact .inl (.inl (e _ _ h))
 ·exact .inl (.inr ⟨o,e _ _ h⟩)
 ·exact .inr h
end L2
set_option maxHeartbeats 4000000
namespace L2
open PySem PySem.Spec PyProof.Rows
section
variable {κ:Type} [DecidableEq κ]
def valV (kvs:List (κ×V)) (k:κ):Option V:=(kvs.find? fun kv=>decide (kv.1=k)).map (·.2)
def putK (kvs:List (κ×V)) (k:κ) (v:V):List (κ×V):=
 if (kvs.any fun kv=>decide (kv.1=k))=true then kvs.map (fun kv=>if kv.1=k then(kv.1,v) else kv) else kvs++[(k,v)]
def Xz {p:κ×V}{r:List (κ×V)}{k:κ} (e:p.1=k):valV (p::r) k=some p.2:=by simp[valV,Qj,e]
def Xy {p:κ×V}{r:List (κ×V)}{k:κ} (e:¬p.1=k):valV (p::r) k=valV r k:=by simp[valV,Qj,e]
def Tw (k:κ):∀kvs:List (κ×V),(kvs.any fun kv=>decide (kv.1=k))=(valV kvs k).isSome
 | []=>rfl
 | p::r=>by
  rw[Qh];by_cases e:p.1=k
  ·simp only[Xz e,Ys e,Bool.true_or,Option.isSome_some]
  ·rw[Xy e,YB e,Bool.false_or];exact Tw k r
def EC (k j:κ) (y:V):∀kvs:List (κ×V),valV (kvs.map fun kv=>if kv.1=k then(kv.1,y) else kv) j=(valV kvs j).map fun x=>if j=k then y else x
 | []=>rfl
 | p::r=>by
  have ih:=EC k j y r;rw[YA];by_cases h:p.1=k
  ·rw[Yr h];by_cases e:p.1=j
   ·rw[Xz (p:=(p.1,y)) e,Xz e,QT,Yr (e.symm.trans h)]
   ·rw[Xy (p:=(p.1,y)) e,Xy e,ih]
  ·rw[Yq h];by_cases e:p.1=j
   ·rw[Xz (p:=p) e,Xz e,QT,Yq (fun z=>h (e.trans z))]
   ·rw[Xy (p:=p) e,Xy e,ih]
def AM (k j:κ) (y:V):∀kvs:List (κ×V),valV kvs k=none->valV (kvs++[(k,y)]) j=if j=k then some y else valV kvs j
 | [],_=>by
  by_cases e:k=j
  ·rw[Yr e.symm];exact Xz (p:=(k,y)) e
  ·rw[Yq (fun z=>e z.symm)];exact Xy (p:=(k,y)) e
 | p::r,hn=>by
  rw[WC];have hk:¬p.1=k:=fun z=>by rw[Xz z] at hn;cases hn
  rw[Xy hk] at hn;have ih:=AM k j y r hn;by_cases e:p.1=j
  ·rw[Xz e,Xz e,Yq (fun z=>hk (e.trans z))]
  ·rw[Xy e,Xy e,ih]
def N1 (kvs:List (κ×V)) (k j:κ) (y:V):valV (putK kvs k y) j=if j=k then some y else valV kvs j:=by
 unfold putK;by_cases a:(kvs.any fun kv=>decide (kv.1=k))=true
 ·rw[Yr a,EC];rw[Tw] at a;by_cases e:j=k
  ·obtain⟨x,hx⟩:=Option.isSome_iff_exists.mp a;rw[Yr e,e,hx,QT,Yr rfl]
  ·rw[Yq e];cases valV kvs j with
   | none=>rfl
   | some x=>rw[QT,Yq e]
 ·rw[Yq a];refine AM k j y kvs ?_;rw[Tw] at a;cases q:valV kvs k with
  | none=>rfl
  | some x=>rw[q] at a;exact(a rfl).elim
def NP (kvs:List (κ×V)) (k:κ) (v:V):(putK kvs k v).length<=kvs.length+1:=by
 unfold putK;split
 ·rw[Yn];omega
 ·rw[Yy,YC,List.length_nil];omega
def Zc4 {kvs:List (κ×V)}{k:κ} (v:V) (h:valV kvs k=none):putK kvs k v=kvs++[(k,v)]:=by
 unfold putK;rw[Tw,h];exact Yq (by decide)
def RelO.isSome_eq {o:Option V}{u:Option Value} (r:RelO o u):o.isSome=u.isSome:=by
 cases o with
 | none=>cases u with
  | none=>rfl
  | some _=>exact(show False from r).elim
 | some _=>cases u with
  | none=>exact(show False from r).elim
  | some _=>rfl
def KV.val {kvs:List (κ×V)}{vs:List (κ×Value)} (r:KV kvs vs) (k:κ):RelO (valV kvs k) (valueAt vs k):=by
 unfold KV at r
 induction r with
 | nil=>exact True.intro
 | @cons p q ps qs h t ih=>
  obtain⟨h1,h2⟩:=h;by_cases e:p.1=k
  ·have e':q.1=k:=h1.symm.trans e;have b:valueAt (q::qs) k=some q.2:=by simp[valueAt,Qj,e']
   rw[Xz e,b];exact h2
  ·have e':¬q.1=k:=fun z=>e (h1.trans z);have b:valueAt (q::qs) k=valueAt qs k:=by simp[valueAt,Qj,e']
   rw[Xy e,b];exact ih
def KV.any {kvs:List (κ×V)}{vs:List (κ×Value)} (r:KV kvs vs) (k:κ):(kvs.any fun kv=>decide (kv.1=k))=vs.any fun kv=>decide (kv.1=k):=by
 unfold KV at r
 induction r with
 | nil=>rfl
 | cons h t ih=>rw[Qh,Qh,ih,h.1]
def KV.repl {kvs:List (κ×V)}{vs:List (κ×Value)} (r:KV kvs vs) (k:κ) {y:V}{u:Value} (ry:RelV y u) :
  KV (kvs.map fun kv=>if kv.1=k then(kv.1,y) else kv) (vs.map fun kv=>if kv.1=k then(kv.1,u) else kv):=by
 unfold KV at r ⊢
 induction r with
 | nil=>exact .nil
 | @cons p q ps qs h t ih=>
  rw[YA,YA];refine .cons ?_ ih;obtain⟨h1,h2⟩:=h;by_cases e:p.1=k
  ·rw[Yr e,Yr (h1.symm.trans e)];exact⟨h1,ry⟩
  ·rw[Yq e,Yq (fun z=>e (h1.trans z))];exact⟨h1,h2⟩
def KV.put {kvs:List (κ×V)}{vs:List (κ×Value)} (r:KV kvs vs) (k:κ) {y:V}{u:Value} (ry:RelV y u):KV (putK kvs k y) (stored vs k u):=by
 unfold putK stored;rw[r.any k];by_cases e:(vs.any fun kv=>decide (kv.1=k))=true
 ·rw[Yr e,Yr e];exact r.repl k ry
 ·rw[Yq e,Yq e];exact Paired.snoc r ⟨rfl,ry⟩
def KV.length {kvs:List (κ×V)}{vs:List (κ×Value)} (r:KV kvs vs):kvs.length=vs.length:=Paired.length r
end
def Ny {P:Program}{w:World}{k:Key}{u:Value} (r:RelV (kV k) u):(Xj P w).is k u=true:=by
 cases k with
 | inl i=>obtain⟨t,e⟩:=(show ∃t,u=Value.int i t from r);subst e;exact Lv P w i t
 | inr x=>obtain⟨t,e⟩:=(show ∃t,u=Value.str x t from r);subst e;exact Rx P w x t
def AO {P:Program}{w:World}:∀{ks:List Key}{us:List Value},Vals (ks.map kV) us->ItemsAre (Xj P w) ks us
 | [],_,r=>by rw[Vn] at r;cases r;exact .nil
 | k::ks,_,r=>by
  rw[YA] at r;cases r with
  | cons h t=>exact .cons (Ny h) (AO t)
abbrev KT (H:Hp):List (List Key×V)->List (List Key×Addr×Value)->Prop:=Paired fun p q=>p.1=q.1/\H q.2.1=some (.tup (p.1.map kV))/\RelV p.2 q.2.2
def KT.val {H:Hp}{kvs:List (List Key×V)}{xs:List (List Key×Addr×Value)} (r:KT H kvs xs) (k:List Key):RelO (valV kvs k) ((atKey xs k).map (·.2)):=by
 induction r with
 | nil=>exact True.intro
 | @cons p q ps qs h t ih=>
  obtain⟨h1,_,h2⟩:=h;by_cases e:p.1=k
  ·have e':q.1=k:=h1.symm.trans e;have b:atKey (q::qs) k=some q.2:=by simp[atKey,Qj,e']
   rw[Xz e,b];exact h2
  ·have e':¬q.1=k:=fun z=>e (h1.trans z);have b:atKey (q::qs) k=atKey qs k:=by simp[atKey,Qj,e']
   rw[Xy e,b];exact ih
def KT.repl {H:Hp}{kvs:List (List Key×V)}{xs:List (List Key×Addr×Value)} (r:KT H kvs xs) (k:List Key) {y:V}{u:Value} (ry:RelV y u) :
  KT H (kvs.map fun kv=>if kv.1=k then(kv.1,y) else kv) (xs.map (putAt k u)):=by
 induction r with
 | nil=>exact .nil
 | @cons p q ps qs h t ih=>
  rw[YA,YA];refine .cons ?_ ih;obtain⟨h1,h2,h3⟩:=h;unfold putAt;by_cases e:p.1=k
  ·rw[Yr e,Yr (h1.symm.trans e)];exact⟨h1,h2,ry⟩
  ·rw[Yq e,Yq (fun z=>e (h1.trans z))];exact⟨h1,h2,h3⟩
def KT.put {H:Hp}{kvs:List (List Key×V)}{xs:List (List Key×Addr×Value)} (r:KT H kvs xs) (k:List Key) {b:Addr}{y:V}{u:Value} (hb:H b=some (.tup (k.map kV))) (ry:RelV y u) :
  KT H (putK kvs k y) (storedH xs k b u):=by
 have e:(kvs.any fun kv=>decide (kv.1=k))=(atKey xs k).isSome:=by
  rw[Tw,(r.val k).isSome_eq,Option.isSome_map]
 unfold putK storedH;rw[e];by_cases q:(atKey xs k).isSome=true
 ·rw[Yr q,Yr q];exact r.repl k ry
 ·rw[Yq q,Yq q];exact Paired.snoc r ⟨rfl,hb,ry⟩
def KT.keeps {H H':Hp}{kvs:List (List Key×V)}{xs:List (List Key×Addr×Value)} (r:KT H kvs xs) (ht:∀b ys,H b=some (.tup ys)->H' b=some (.tup ys)):KT H' kvs xs:=
 Paired.mapP r fun _ _ z=>⟨z.1,ht _ _ z.2.1,z.2.2⟩
section
variable {P:Program}{w:World}{H:Hp}{h:Heap}{a:Addr}
def AU {u:HO} (ok:HOk P w H h) (e:Rd H a u):ObjOk P w H h a u:=e.ok ok
def NL {kvs:List (Key×V)} (ok:HOk P w H h) (e:Rd H a (.dK kvs)):kvs.length<=sizeLine/\(a==sysModules)=false/\∃vs,KV kvs vs/\h.DictOf (Xj P w) a vs:=
 show ObjOk P w H h a (.dK kvs) from AU ok e
def Ly {kvs:List (Key×V)} (ok:HOk P w H h) (e:H a=some (.dK kvs)):kvs.length<=sizeLine/\(a==sysModules)=false/\∃vs,KV kvs vs/\h.DictOf (Xj P w) a vs:=NL ok (.inl e)
def TB {ks:List Key} (ok:HOk P w H h) (e:H a=some (.tup (ks.map kV))):(tupleKind (Xj P w)).is h ks a:=by
 obtain⟨_,its,r,o,h1,h2,n,h3⟩:=(show ObjOk P w H h a (.tup (ks.map kV)) from ok a _ e)
 exact⟨o,its.toArray,n,h1,h2,h3,by simpa using AO r⟩
def NJ {kvs:List (List Key×V)} (ok:HOk P w H h) (e:Rd H a (.dT kvs)):kvs.length<=sizeLine/\(a==sysModules)=false/\
  ∃xs,KT H kvs xs/\h.DictOfH (tupleKind (Xj P w)) a xs:=by
 obtain⟨z,y,xs,r,o,es,ep,h1,h2,h3,h4,h5⟩:=(show ObjOk P w H h a (.dT kvs) from AU ok e)
 refine⟨z,y,xs,r,o,es,ep,h1,h2,h3,h4,fun x hx=>?_,h5⟩
 have all:∀{l:List (List Key×V)} {m:List (List Key×Addr×Value)},KT H l m->∀x∈m,(tupleKind (Xj P w)).is h x.1 x.2.1:=by
  intro l m q
  induction q with
  | nil=>intro x hx;exact nomatch hx
  | @cons p q ps qs hq t ih=>
   intro x hx;rcases Y5.mp hx with e|hx
   ·subst e;exact TB ok (by rw[←hq.1];exact hq.2.1)
   ·exact ih x hx
 exact all r x hx
def NS {kvs:List (List Key×V)} (ok:HOk P w H h) (e:H a=some (.dT kvs)):kvs.length<=sizeLine/\(a==sysModules)=false/\
  ∃xs,KT H kvs xs/\h.DictOfH (tupleKind (Xj P w)) a xs:=NJ ok (.inl e)
end
def DGet (H:Hp) (a:Addr) (y:V) (r:Option V):Prop:=
 (∃kvs k,Rd H a (.dK kvs)/\y=kV k/\r=valV kvs k)\/∃kvs k b,Rd H a (.dT kvs)/\y=.ref b/\H b=some (.tup (k.map kV))/\r=valV kvs k
def DPut (H:Hp) (a:Addr) (y v:V) (H':Hp):Prop:=
 (∃kvs k,H a=some (.dK kvs)/\y=kV k/\kvs.length<sizeLine/\H'=upd H a (.dK (putK kvs k v)))\/
 ∃kvs k b,H a=some (.dT kvs)/\y=.ref b/\H b=some (.tup (k.map kV))/\kvs.length<sizeLine/\H'=upd H a (.dT (putK kvs k v))
def DGet.k {H:Hp}{a:Addr}{kvs:List (Key×V)}{k:Key} (e:H a=some (.dK kvs)):DGet H a (kV k) (valV kvs k):=.inl ⟨kvs,k,.inl e,rfl,rfl⟩
def DGet.t {H:Hp}{a b:Addr}{kvs:List (List Key×V)}{k:List Key} (e:H a=some (.dT kvs)) (eb:H b=some (.tup (k.map kV))):DGet H a (.ref b) (valV kvs k):=.inr ⟨kvs,k,b,.inl e,rfl,eb,rfl⟩
def DPut.k {H:Hp}{a:Addr}{kvs:List (Key×V)}{k:Key}{v:V} (e:H a=some (.dK kvs)) (hl:kvs.length<sizeLine):DPut H a (kV k) v (upd H a (.dK (putK kvs k v))):=.inl ⟨kvs,k,e,rfl,hl,rfl⟩
def DPut.t {H:Hp}{a b:Addr}{kvs:List (List Key×V)}{k:List Key}{v:V} (e:H a=some (.dT kvs)) (eb:H b=some (.tup (k.map kV))) (hl:kvs.length<sizeLine) :
  DPut H a (.ref b) v (upd H a (.dT (putK kvs k v))):=.inr ⟨kvs,k,b,e,rfl,eb,hl,rfl⟩
section
variable {X:Cx}{pins:List (Addr×Obj)}{σ:St}{H:Hp}{s:Shared}{a:Addr}{y v:V}{u r:Value}{o:Option V}{A:Around}{E:Value->Shared->Prop}
def Inv.big (I:Inv X pins σ H s):sysModules<s.heap.objs.size:=by
 have h:mainGlobals<s.heap.objs.size:=(I.mod.glob.keeps I.bk).lt;exact Qt (by decide) h
def Zcg {Q:Value->Shared->Prop} (hu:A.units+1<cLine) (I:Inv X pins σ H s) (g:DGet H a y (some v)) (ry:RelV y u) (h:∀w' s',Inv X pins σ H s'->RelV v w'->Q w' s') :
  wpAny (model X.prog X.w) A (getItem (.ref a) u) Q E s:=by
 rcases g with⟨kvs,k,e,ey,l⟩|⟨kvs,k,b,e,ey,eb,l⟩
 ·subst ey;obtain⟨z,hd,vs,rel,dd⟩:=NL I.hok e;obtain⟨w',hw,rw'⟩:=RelO.some_of (v:=v) (o:=valueAt vs k) (by rw[l];exact rel.val k);exact wpAny_getItem_of (Ny ry) dd.mapOf hw (h w' _ (I.tok _) rw')
 ·subst ey;cases (show u=Value.ref b from ry)
  obtain⟨z,hd,xs,rel,dd⟩:=NJ I.hok e;obtain⟨w',hw,rw'⟩:=RelO.some_of (v:=v) (o:=(atKey xs k).map (·.2)) (by rw[l];exact rel.val k);obtain⟨p,hp,hp2⟩:=Option.map_eq_some_iff.mp hw;refine wpAny_getItem_heap (tupleKind_room_in1 hu) (TB I.hok eb) dd hp ?_;rw[hp2];exact h w' _ (I.tok _) rw'
def Hv {Q:Value->Shared->Prop} (hu:A.units+1<cLine) (I:Inv X pins σ H s) (g:DGet H a y o) (ry:RelV y u) (h:∀s',Inv X pins σ H s'->Q (.bool (!o.isSome)) s') :
  wpAny (model X.prog X.w) A (compareOp .NotIn u (.ref a)) Q E s:=by
 rcases g with⟨kvs,k,e,ey,l⟩|⟨kvs,k,b,e,ey,eb,l⟩
 ·subst ey;obtain⟨z,hd,vs,rel,dd⟩:=NL I.hok e;refine wpAny_notIn_of (Ny ry) hd dd.mapOf ?_;rw[←(rel.val k).isSome_eq,←l];exact h _ (I.tok _)
 ·subst ey;cases (show u=Value.ref b from ry)
  obtain⟨z,hd,xs,rel,dd⟩:=NJ I.hok e;refine wpAny_notIn_heap (tupleKind_room_in1 hu) (TB I.hok eb) hd dd ?_;have q:=(rel.val k).isSome_eq;rw[Option.isSome_map] at q;rw[←q,←l];exact h _ (I.tok _)
def Sj {h':Heap}{t':Nat}{ob:HO} (I:Inv X pins σ H s) (mu:Mut (H a)) (hs:Heap.SameBut a s.heap h') (he:∃q,h'.get? a=some q) (new:ObjOk X.prog X.w (upd H a ob) h' a ob) :
  Inv X pins σ (upd H a ob) { s with heap:=h',toks:=t' }:=
 I.write (x:=a) (e:=a) mu (.inl rfl) (fun b q hb z=>(hs.2 b hb).trans z) he new
def LG {P:Program}{w:World}{H':Hp}{h':Heap}{kvs:List (Key×V)}{vs:List (Key×Value)} (z:kvs.length<=sizeLine) (hd:(a==sysModules)=false) (rel:KV kvs vs) (dd:h'.DictOf (Xj P w) a vs) :
  ObjOk P w H' h' a (.dK kvs):=⟨z,hd,vs,rel,dd⟩
def OW {H':Hp}{Q:Unit->Shared->Prop} (hu:A.units+1<cLine) (I:Inv X pins σ H s) (g:DPut H a y v H') (ry:RelV y u) (rv:RelV v r) (h:∀s',Inv X pins σ H' s'->Q () s') :
  wpAny (model X.prog X.w) A (setItem (.ref a) u r) Q E s:=by
 rcases g with⟨kvs,k,e,ey,l,eH⟩|⟨kvs,k,b,e,ey,eb,l,eH⟩
 ·subst ey eH;obtain⟨z,hd,vs,rel,dd⟩:=Ly I.hok e;have hz:vs.length<=sizeLine:=by rw[←rel.length];exact z
  have hl:(putK kvs k v).length<=sizeLine:=by have:=NP kvs k v;omega
  refine wpAny_setItem_pairs (hsz:=hz) (Ny ry) dd fun h' dd' hs=>h _ ?_;have he:∃q,h'.get? a=some q:=let ⟨q,_,_,hq,_⟩:=dd';⟨q,hq⟩;exact Sj I (by rw[e];exact True.intro) hs he (LG hl hd (rel.put k rv) dd')
 ·subst ey eH;cases (show u=Value.ref b from ry)
  obtain⟨z,hd,xs,rel,dd⟩:=NS I.hok e;have hz:xs.length<=sizeLine:=by rw[←Paired.length rel];exact z
  have hl:(putK kvs k v).length<=sizeLine:=by have:=NP kvs k v;omega
  refine wpAny_setItem_heap (hsz:=hz) (tupleKind_room_in1 hu) (TB I.hok eb) dd fun h' dd' hs=>h _ ?_;obtain⟨q,es,ep,hq,h2,h3,h4,_,h5⟩:=dd';refine Sj I (by rw[e];exact True.intro) hs ⟨q,hq⟩ ⟨hl,hd,_,(rel.put k eb rv).keeps fun c ys ec=>?_,q,es,ep,hq,h2,h3,h4,h5⟩;rw[JW (DA ec e (fun z=>nomatch z))];exact ec
end
def NoSl (i:Expr):Prop:=∀ov iv,subscripted i false ov iv=operate [ov,iv] (getItem ov iv)
def LY {prog:Program}{w:World}{A:Around}{E:Value->Shared->Prop}{s:Shared}{env:Env}{value slice:Expr}{pos:Pos}{T id:String}{Q:Value->Shared->Prop}
  (hl:typeLookup (.type T) "__getitem__"=pure (some (.builtin id))) (hs:NoSl slice)
  (h:wpAny (model prog w) A (eval value env) (fun o s₁=>wpAny (model prog w) A (eval slice env) (fun i s₂=>s₂.TypeIs o T/\wpAny (model prog w) A (getItem o i) Q E s₂) E s₁) E s) :
  wpAny (model prog w) A (eval (.Subscript value slice pos) env) Q E s:=by
 refine Subscript_ (Wp h (fun o s₁ h₁=>Wp h₁ (fun i s₂ h₂=>?_) fun _ _ x=>x) fun _ _ x=>x);obtain⟨hT,h₂⟩:=h₂;unfold subscriptTail;refine Yp ?_;rw[getitemInPython_of_ne hT.not_modules];refine Yp (wpAny_specialOf hT hl ?_)
 have fin:wpAny (model prog w) A (subscripted slice false o i) (fun r s₃=>wpAny (model prog w) A (letTemporaryGo value o r >>= fun _=>pure r) Q E s₃) E s₂:=by
  rw[hs o i];exact wpAny_operating (Wp h₂ (fun r s₃ h₃=>Yp (wpAny_letTemporaryGo (Yt h₃))) fun _ _ x=>x)
 first
  | exact Yt (Yp fin)
  | exact Yp (Yt (Yp fin))
  | exact Yp fin
def Hc {X:Cx}{pins:List (Addr×Obj)}{σ:St}{H:Hp}{s:Shared}{a:Addr}{y:V}{o:Option V} (I:Inv X pins σ H s) (g:DGet H a y o):s.TypeIs (.ref a) "dict":=by
 rcases g with⟨kvs,k,e,_,_⟩|⟨kvs,k,b,e,_,_,_⟩
 ·obtain⟨_,_,vs,_,dd⟩:=NL I.hok e;exact dd.typeIs
 ·obtain⟨_,_,xs,_,dd⟩:=NJ I.hok e;exact dd.typeIs
def GR (td ty:TE):TE:=fun σ H Q=>td σ H fun x H1=>ty σ H1 fun y H2=>∃a v,x=.ref a/\DGet H2 a y (some v)/\Q v H2
def Dk (ty td:TE):TE:=fun σ H Q=>ty σ H fun y H1=>td σ H1 fun x H2=>∃a o,x=.ref a/\DGet H2 a y o/\Q (.bl (!o.isSome)) H2
def D3 (td ty tv:TE):TS:=fun D σ H=>tv σ H fun v H1=>td σ H1 fun x H2=>ty σ H2 fun y H3=>∃a H4,x=.ref a/\DPut H3 a y v H4/\D.nx σ H4
section
variable {X:Cx}{o i e value:Expr}{pos pos' tpos:Pos}{td ty tv:TE}
def Tz (hu:X.A.units+1<cLine) (ho:PE X o td) (hi:PE X i ty) (hs:NoSl i):PE X (.Subscript o i pos) (GR td ty):=by
 intro pins s σ H Q I h;refine LY PySem.F.slot_dict_getitem.lookup hs (thn (ho pins s σ H _ I h) fun u s1 ⟨x,H1,I1,rx,q1⟩=>thn (hi pins s1 σ H1 _ I1 q1) fun iv s2 ⟨y,H2,I2,ry,a,v,ex,g,q2⟩=>?_);subst ex;obtain rfl:u=Value.ref a:=rx;exact⟨Hc I2 g,Zcg hu I2 g ry fun w' s3 I3 rw'=>⟨v,H2,I3,rw',q2⟩⟩
def Lc (hu:X.A.units+1<cLine) (hi:PE X i ty) (ho:PE X o td):PC X .NotIn i o (Dk ty td):=by
 intro pins s σ H Q I h;refine thn (hi pins s σ H _ I h) fun iv s1 ⟨y,H1,I1,ry,q1⟩=>thn (ho pins s1 σ H1 _ I1 q1) fun u s2 ⟨x,H2,I2,rx,a,ov,ex,g,q2⟩=>?_;subst ex;obtain rfl:u=Value.ref a:=rx;exact Hv hu I2 g ry fun s3 I3=>⟨.bl (!ov.isSome),H2,I3,rfl,q2⟩
def Fs (hu:X.A.units+1<cLine) (ho:PE X o td) (hi:PE X i ty) (hv:PE X value tv) (hs:swapsWith value (some (.Subscript o i pos')) pos.line X.env=pure false) :
  PS X (.Assign [.Subscript o i pos'] value pos) (D3 td ty tv):=by
 intro pins s σ H D I h;refine wpAny_Assign_Subscript (thn (hv pins s σ H _ I h) fun r s1 ⟨v,H1,I1,rv,q1⟩=>thn (ho pins s1 σ H1 _ I1 q1) fun u s2 ⟨x,H2,I2,rx,q2⟩=>thn (hi pins s2 σ H2 _ I2 q2) fun iv s3 ⟨y,H3,I3,ry,a,H4,ex,g,q3⟩=>?_) hs;subst ex;obtain rfl:u=Value.ref a:=rx;exact OW hu I3 g ry rv fun s4 I4=>⟨σ,H4,I4,q3⟩
end
def Md {P:Program}{w:World}{H:Hp} (h:Heap) (hb:sysModules<h.objs.size):ObjOk P w H (h.push { cls:=.type "dict",data:=.dict #[] }) h.objs.size (.dK []):=
 ⟨Wy _,WA.mpr (Ne.symm (YL hb)),[],.nil,Heap.DictOf.new h⟩
def Gd {P:Program}{w:World}{H:Hp} (h:Heap) (hb:sysModules<h.objs.size):ObjOk P w H (h.push { cls:=.type "dict",data:=.dict #[] }) h.objs.size (.dT []):=
 ⟨Wy _,WA.mpr (Ne.symm (YL hb)),[],.nil,_,#[],0,Y6 _ rfl,⟨rfl,rfl,rfl⟩,rfl,rfl,Qc⟩
def DF:TE:=fun _ H Q=>∀p,H p=none->Q (.ref p) (upd H p (.dK []))
def CK:TE:=fun _ H Q=>∀p,H p=none->Q (.ref p) (upd H p (.dT []))
section
variable {X:Cx}{pos:Pos}
def Ol:PE X (.Dict [] [] pos) DF:=fun pins s σ H Q I h=>
 wpAny_Dict_empty ⟨.ref s.heap.objs.size,_,I.laid (a:=s.heap.objs.size) (o:=.dK []) (t':=s.toks) (fun _ _ q=>Yu _ q) (Yx _) (Md s.heap I.big),rfl,h _ (I.hok.fresh (Yx _))⟩
def Ru:PE X (.Dict [] [] pos) CK:=fun pins s σ H Q I h=>
 wpAny_Dict_empty ⟨.ref s.heap.objs.size,_,I.laid (a:=s.heap.objs.size) (o:=.dT []) (t':=s.toks) (fun _ _ q=>Yu _ q) (Yx _) (Gd s.heap I.big),rfl,h _ (I.hok.fresh (Yx _))⟩
end
def Cg:List (TE×TE)->St->Hp->(List (V×V)->Hp->Prop)->Prop
 | [],_,H,Q=>Q [] H
 | (tk,tv)::r,σ,H,Q=>tk σ H fun x H1=>tv σ H1 fun y H2=>Cg r σ H2 fun ps H3=>Q ((x,y)::ps) H3
abbrev VV:List (V×V)->List (Value×Value)->Prop:=Paired fun p q=>RelV p.1 q.1/\RelV p.2 q.2
def PPs (X:Cx) (pos:Pos) (keys:List (Option Expr)) (values:List Expr) (trs:List (TE×TE)):Prop:=
 ∀(pins:List (Addr×Obj)) (s:Shared) (σ:St) (H:Hp) (Q:List (V×V)->Hp->Prop),Inv X pins σ H s->Cg trs σ H Q->
  wpAny (model X.prog X.w) X.A (evalPairs (pairTrees keys values X.env pos)) (fun vs s'=>∃ps H',Inv X pins σ H' s'/\VV ps vs/\Q ps H') X.xe s
def Hj {X:Cx}{pos:Pos}:PPs X pos [] [] []:=fun pins s σ H Q I h=>pairTrees_nil_walk ⟨[],H,I,.nil,h⟩
def RI {X:Cx}{pos:Pos}{k v:Expr}{ks:List (Option Expr)}{vs:List Expr}{tk tv:TE}{trs:List (TE×TE)} (hk:PE X k tk) (hv:PE X v tv) (hr:PPs X pos ks vs trs) :
  PPs X pos (some k::ks) (v::vs) ((tk,tv)::trs):=fun pins s σ H Q I h=>
 pairTrees_cons_walk (thn (hk pins s σ H _ I h) fun u s1 ⟨x,H1,I1,rx,q1⟩=>thn (hv pins s1 σ H1 _ I1 q1) fun w2 s2 ⟨y,H2,I2,ry,q2⟩=>
  thn (hr pins s2 σ H2 _ I2 q2) fun ws s3 ⟨ps,H3,I3,rel,q3⟩=>⟨(x,y)::ps,H3,I3,.cons ⟨rx,ry⟩ rel,q3⟩)
end L2
set_option genInjectivity false
set_option genSizeOfSpec false
namespace Own
open PySem PySem.Spec PyProof.Rows L2
structure Def (K:Za) (mg:Str->Option Value) (x:Str) (st:Stmt) (ps:List Str):Prop where
 ex:∃f fd,Fun K x x st f fd/\mg x=some (.ref f)/\Binds K fd ps []
structure Callee (P:Program) (w:World) (K:Za) (mg:Str->Option Value) (base:Heap) (CX:CXT) (k:Nat) (x:Str) (ps:List Str) (sp:Sp):Prop where
 ex:∃f fd,FnOk P w K mg base CX k f fd ps sp/\mg x=some (.ref f)/\PySem.W.keepIn K (.ref f)=true/\(∃o:Obj,K.lookup f=some o/\o.data=.func fd)/\Binds K fd ps []
section
variable {P:Program}{w:World}{K:Za}{mg:Str->Option Value}{base:Heap}
def Callee.at {CX:CXT}{x:Str}{st:Stmt}{f:Addr}{fd:FuncData}{k:Nat}{ps:List Str}{sp:Sp} (C:Callee P w K mg base CX k x ps sp) (hm:mg x=some (.ref f)) (F:Fun K x x st f fd) (_:Def K mg x st ps):FnOk P w K mg base CX k f fd ps sp:=by
 obtain⟨f',fd',Fo,hm',_,hl,_⟩:=C.ex;rw[hm] at hm';cases hm'
 obtain⟨oc,od,kV,doc,pm,an,cdv,ct,osl,_,lk,_⟩:=F.ex;obtain⟨o',lk',hd'⟩:=hl;rw[lk] at lk';cases lk'
 cases hd'
 exact Fo
def Def.ok {x:Str}{st:Stmt}{N ps:List Str}{k:Nat}{sp:Sp} (D:Def K mg x st ps) (S:FnScope N ps (J5 st)) (len:∀vs H Q E,sp vs H Q E->vs.length=ps.length)
  (hbody:∀(f:Addr) (cdv:Value) (A:Around) (outer:List Env) (s:Shared) (H:Hp) (vs:List V) (Q:VK) (E:XK),Room k (A.deeper (envOfC x (J5 st) s.heap.objs.size f cdv))->sp vs H Q E->
   ∃t,PSs (cxOf CX0 P w K mg base N x (J5 st) f cdv A outer s H E).nox (UH st) t/\t { nx:=fun _ H'=>Q .non H',rt:=Q } (start N vs) H):Callee P w K mg base CX0 (k+1) x ps sp:=by
 obtain⟨f,fd,F,hm,hb⟩:=D.ex;refine⟨f,fd,F.ok S len fun cdv A outer s H vs Q E hr h=>hbody f cdv A outer s H vs Q E hr h,hm,F.kp,?_,hb⟩;obtain⟨oc,od,kV,doc,pm,an,cdv,ct,osl,_,lk,_⟩:=F.ex;exact⟨_,lk,rfl⟩
end
section
variable {X:Cx}{CX:CXT}{k:Nat}{ps:List Str}{sp:Sp}{E:XK}{x:Str}{p pos:Pos}{e:Expr}{es:List Expr}{t:TA}
def UW (C:Callee X.prog X.w X.K X.mg X.base CX k x ps sp) (hr:Room k X.A) (hx:Xx CX X E) (ha:PA X (e::es) t) (hg:Gl X x:=by rfl)
  (hdb:(x==("__debug__" : Str))=false:=by decide) (he:starEach (e::es) X.env=(false,eval e X.env)::starEach es X.env:=by rfl) (hpl:(backTo pos (starEach es X.env)).any (·.1)=false:=by rfl) :
  PE X (.Call (.Name x p) (e::es) [] pos) (K6 sp [] E t):=by
 obtain⟨f,fd,F,hm,hk,_,hb⟩:=C.ex;exact RG F hr hg hm hk hb .nil hx ha hdb he hpl
def Zdn:UF X (.builtin "isinstance") (fun xs H Q=>∃x n t b,xs=[x,.ty n]/\TyOf X.K H x t/\PySem.W.kitOne X.K t (.type n)=some b/\Q (.bl b) H):=by
 intro pins s σ H xs us Q I rv h;obtain⟨x,n,t,b,rfl,ty,e,q⟩:=h;cases rv with
 | cons r rr=>
  cases rr with
  | cons r' rr'=>
   cases rr'
   obtain rfl:_=Value.type n:=r';exact Ow I r ty e fun tk=>⟨.bl b,H,I.tok tk,rfl,q⟩
def Zal:IxR X (fun x y H Q=>rIxL X.K x y H Q\/rIxT X.K x y H Q):=ix_list.or GZ
end
def Gq (t u:TS):TS:=fun D σ H=>∃J:L2.St->Hp->Prop,t { D with nx:=J } σ H/\∀σ' H',J σ' H'->u D σ' H'
def Ke {X:Cx}{st:Stmt}{rest:List Stmt}{t u:TS} (h1:PS X st t) (h2:PSs X rest u):PSs X (st::rest) (Gq t u):=by
 intro pins s σ H D I h;obtain⟨J,h,k⟩:=h;refine wpAny_execs_cons (thn (h1 pins s σ H { D with nx:=J } I h) fun f s1 q=>?_)
 cases f with
 | next=>
  obtain⟨σ',H',I',q⟩:=q;exact h2 pins s1 σ' H' D I' (k σ' H' q)
 | ret v=>exact q
 | brk=>exact q
 | cont=>exact q
def LN (K:Za) (n:String):PySem.W.kitOne K (.type n) (.type n)=some true:=by
 unfold PySem.W.kitOne;rw[Yr (by simp)]
def Kx {α β:Type}{f:α->β}{xs:List α}{i:Int}{v:α} (h:atI xs i=some v):atI (xs.map f) i=some (f v):=by
 unfold atI at h ⊢;rw[Yn];cases e:ixN xs.length i with
 | none=>rw[e] at h;cases h
 | some j=>
  rw[e] at h;have h':xs[j]?=some v:=h;show(xs.map f)[j]?=some (f v);rw[Yz,h'];rfl
def TH {α:Type}{xs:List α}{i:Int}{v:α} (h0:0<=i) (h:xs[i.toNat]?=some v):atI xs i=some v:=by
 have e:((i.toNat:Nat):Int)=i:=by omega
 have:=Ta h
 rwa[e] at this
def UB {H:Hp}{a:Addr}{o:HO} (h:H a=none):Same H (upd H a o):=fun b u e=>by rw[JW (Xs e h)];exact e
def Same.upd {H H':Hp}{a:Addr}{o:HO} (S:Same H H') (h:H a=none):Same H (upd H' a o):=fun b u e=>by rw[JW (Xs e h)];exact S b u e
def Same.new {H H':Hp}{a:Addr}{o:HO} (S:Same H H') (h:H' a=none):Same H (L2.upd H' a o):=Own.Same.upd S (S.free h)
def MZ {env:Env} (names:List (Str×NameKind)) (hall:∀x∈names,x.2=.free->∃c,env.cells.lookup x.1=some c):∀cs0:List (Str×Addr),(∀x c,cs0.lookup x=some c->env.cells.lookup x=some c)->
  ∃cl:List (Str×Addr),(forIn names cs0 (fun(x:Str×NameKind) (cs:List (Str×Addr))=>if (x.2 == .free)=true then(do let c ←cellOf env x.1;pure (ForInStep.yield ((x.1,c)::cs))) else pure (ForInStep.yield cs)):Sem (List (Str×Addr)))=pure cl/\
   (∀x c,cl.lookup x=some c->env.cells.lookup x=some c)/\(∀x,(∃c,cs0.lookup x=some c)->∃c,cl.lookup x=some c)/\∀x∈names,x.2=.free->∃c,cl.lookup x.1=some c:=by
 induction names with
 | nil=>
  intro cs0 h0;exact⟨cs0,rfl,h0,fun _ h=>h,fun x hx=>by cases hx⟩
 | cons y r ih=>
  intro cs0 h0;have ih':=ih fun x hx=>hall x (YF _ hx);obtain⟨n,k⟩:=y;by_cases hk:k=.free
  ·subst hk;obtain⟨c,hc⟩:=hall (n,.free) YK rfl
   have h1:∀x d,List.lookup x ((n,c)::cs0)=some d->env.cells.lookup x=some d:=fun x d e=>by
    rw[Wt] at e;by_cases hx:x=n
    ·subst hx;simp at e;subst e;exact hc
    ·have:(x==n)=false:=by simpa using hx
     rw[this] at e;exact h0 x d e
   obtain⟨cl,e,p1,p2,p3⟩:=ih' ((n,c)::cs0) h1;refine⟨cl,?_,p1,fun x hx=>p2 x ?_,fun x hx hf=>?_⟩
   ·rw[QU];show((if (NameKind.free==NameKind.free)=true then(do let c ←cellOf env n;pure (ForInStep.yield ((n,c)::cs0))) else pure (ForInStep.yield cs0)) >>= _)=_
    rw[Yr (show(NameKind.free==NameKind.free)=true by decide)];have ec:cellOf env n=pure c:=by unfold cellOf;rw[hc]
    rw[ec];exact e
   ·rw[Wt];cases (x==n)
    ·exact hx
    ·exact⟨c,rfl⟩
   ·rcases Y5.mp hx with rfl|hx
    ·exact p2 n ⟨c,by simp[Wt]⟩
    ·exact p3 x hx hf
  ·obtain⟨cl,e,p1,p2,p3⟩:=ih' cs0 h0;refine⟨cl,?_,p1,p2,fun x hx hf=>?_⟩
   ·rw[QU];have hb:(k==NameKind.free)=false:=by simpa using hk
    show((if (k==NameKind.free)=true then(do let c ←cellOf env n;pure (ForInStep.yield ((n,c)::cs0))) else pure (ForInStep.yield cs0)) >>= _)=_
    rw[Yq (by rw[hb];decide)];exact e
   ·rcases Y5.mp hx with rfl|hx
    ·exact absurd hf hk
    ·exact p3 x hx hf
def Zc1 {env:Env}{sc:Scope} (hall:∀x∈sc.names,x.2=.free->∃c,env.cells.lookup x.1=some c) :
  ∃cl:List (Str×Addr),closureFor sc env=pure cl/\(∀x c,cl.lookup x=some c->env.cells.lookup x=some c)/\∀x∈sc.names,x.2=.free->∃c,cl.lookup x.1=some c:=by
 obtain⟨cl,e,p1,_,p3⟩:=MZ sc.names hall [] (fun x c h=>by cases h);refine⟨cl,?_,p1,p3⟩;unfold closureFor;show((forIn sc.names ([]:List (Str×Addr)) (fun(x:Str×NameKind) (cs:List (Str×Addr))=>if (x.2 == .free)=true then(do let c ←cellOf env x.1;pure (ForInStep.yield ((x.1,c)::cs))) else pure (ForInStep.yield cs)):Sem (List (Str×Addr))) >>= fun cs=>pure cs)=pure cl
 rw[e];rfl
def UP (X:Cx) (N':List Str) (sc:Scope) (cl:List (Str×Addr)) (C:Addr) (s₃:Shared) (H₃:Hp) (ex:List Addr):Cx:=
 { X with N:=N',s₀:=s₃,H₀:=H₃,env:=compEnvC sc cl C X.env,outer:=X.stack,ex:=ex,fn:=fun _=>false,pn:=[],xe:=fun _ _=>False }
structure CompOk (X:Cx) (N':List Str) (φ:List (Option Nat)) (sc:Scope):Prop where
 kind:sc.kind=.function
 okind:X.env.scope.kind=.function
 nocell:∀y∈sc.names,y.2≠.cell
 names:∀y∈sc.names,y.2=.local->sc.names.lookup y.1=some .local
 frees:∀y∈sc.names,y.2=.free->X.env.scope.names.lookup y.1=some .cell
 len:φ.length=N'.length
 pick:∀(i:Nat) (x:Str) (j:Nat),N'[i]?=some x->φ[i]?=some (some j)->X.N[j]?=some x/\sc.names.lookup x=some .free
def atStart (φ:List (Option Nat)) (σ:L2.St):L2.St:=φ.map fun o=>o.bind fun j=>(σ[j]?).join
def Sub (σ σ':L2.St):Prop:=σ'.length=σ.length/\∀(i:Nat) (v:V),σ[i]?=some (some v)->σ'[i]?=some (some v)
def Sub.refl {σ:L2.St}:Sub σ σ:=⟨rfl,fun _ _ h=>h⟩
def Sub.skip {σ σ':L2.St}{x:Option V} (h:Sub σ σ'):Sub (none::σ) (x::σ'):=by
 refine⟨by simp[h.1],fun i v e=>?_⟩;cases i with
 | zero=>simp at e
 | succ i=>simp at e ⊢;exact h.2 i v e
def Aq {env:Env} (hk:env.scope.kind=.function):∀{names:List (Str×NameKind)}{x:Str},names.lookup x=some .free->env.scope.names.lookup x=some .cell->
  (names.map fun(n,k)=>if (k==NameKind.free&&env.scope.kind == .function&&env.kindOf n==some .cell) then(n,NameKind.cell) else(n,k)).lookup x=some .cell
 | [],_,h,_=>by simp at h
 | (n,k)::r,x,h,hc=>by
  have ih:=@Aq env hk r x;show List.lookup x ((if (k==NameKind.free&&env.scope.kind == .function&&env.kindOf n==some .cell)=true then(n,NameKind.cell) else(n,k))::_)=_;cases hx:x==n with
  | true=>
   simp only[Wt,hx] at h;cases h
   have e:x=n:=by simpa using hx
   subst e;have hkk:env.kindOf x=some .cell:=hc;rw[hk,hkk];simp[Wt]
  | false=>
   simp only[Wt,hx] at h;by_cases hcc:(k==NameKind.free&&env.scope.kind == .function&&env.kindOf n==some .cell)=true
   ·rw[Yr hcc];simp only[Wt,hx];exact ih h hc
   ·rw[Yq hcc];simp only[Wt,hx];exact ih h hc
def FC {env:Env}:∀{names:List (Str×NameKind)}{x:Str}{q:NameKind},
  (names.map fun(n,k)=>if (k==NameKind.free&&env.scope.kind == .function&&env.kindOf n==some .cell) then(n,NameKind.cell) else(n,k)).lookup x=some q->∃k,(x,k)∈names/\(q=k\/k=.free)
 | [],_,_,h=>by simp at h
 | (n,k)::r,x,q,h=>by
  have ih:=@FC env r x q;have h':List.lookup x ((if (k==NameKind.free&&env.scope.kind == .function&&env.kindOf n==some .cell)=true then(n,NameKind.cell) else(n,k))::(r.map fun(n,k)=>if (k==NameKind.free&&env.scope.kind == .function&&env.kindOf n==some .cell) then(n,NameKind.cell) else(n,k)))=some q:=h;cases hx:x==n with
  | true=>
   have e:x=n:=by simpa using hx
   subst e;by_cases hcc:(k==NameKind.free&&env.scope.kind == .function&&env.kindOf x==some .cell)=true
   ·refine⟨k,YK,.inr ?_⟩
    have:=(Wm _ _▸(Wm _ _▸hcc).1).1
    simpa using this
   ·rw[Yq hcc] at h';simp[Wt] at h';exact⟨k,YK,.inl h'.symm⟩
  | false=>
   have h2:List.lookup x (r.map fun(n,k)=>if (k==NameKind.free&&env.scope.kind == .function&&env.kindOf n==some .cell) then(n,NameKind.cell) else(n,k))=some q:=by
    by_cases hcc:(k==NameKind.free&&env.scope.kind == .function&&env.kindOf n==some .cell)=true
    ·rw[Yr hcc] at h';simp only[Wt,hx] at h';exact h'
    ·rw[Yq hcc] at h';simp only[Wt,hx] at h';exact h'
   obtain⟨k',hm,hq⟩:=ih h2;exact⟨k',YF _ hm,hq⟩
def ME {prog:Program}{w:World}{A:Around}{R:Result->Shared->Prop}{s:Shared}{elt target iter:Expr}{ifs:List Expr}{scope:Scope}{pos:Pos}{it acc:Value}{env:Env} (I:Nat->Shared->Prop)
  (turn:∀n s,I n s->wpAny (model prog w) A (pyNext it) (fun r s₁=>match r with
   | none=>R (.ok .next) s₁
   | some v=>wpAny (model prog w) A (letOwnedTupleGo target it v) (fun _ s₁'=>wpAny (model prog w) A (assign target env v) (fun _ s₂=>
     wpAny (model prog w) A (forIn ifs true fun c r=>if r=true then do let ok ←isTrue c env (eval c env);pure (ForInStep.yield ok) else pure (ForInStep.yield r)) (fun ok s₃=>
      if ok=true then wpAny (model prog w) A (eval elt env) (fun x s₄=>
       wpAny (model prog w) A (call (.builtin "list.append") [acc,x]) (fun _ s₅=>∃m,m<n/\I m s₅) (fun _ _=>False) s₄) (fun _ _=>False) s₃
      else ∃m,m<n/\I m s₃) (fun _ _=>False) s₂) (fun _ _=>False) s₁') (fun _ _=>False) s₁) (fun _ _=>False) s)
  (n:Nat) (h:I n s) :
  codeAny (model prog w) A (.compLoop (.ListComp elt [⟨target,iter,ifs,0⟩] scope pos) 0 it acc env) R s:=by
 refine codeAny_loop rfl I (fun n s hI=>?_) n h;show wpAny _ A ((compTurn (.ListComp elt [⟨target,iter,ifs,0⟩] scope pos) 0 it acc env).onRaise (fun x=>do noteFrame x env;theTreesLotGoes x)) _ _ s
 refine wpAny_noted ?_;rw[compTurn_list];refine Yp (wpAny_standAt (Yp (Wp (turn n s hI) (fun r s₁ h₁=>?_) fun _ _ h'=>h'.elim)));cases r with
 | none=>exact Yt h₁
 | some v=>
  refine Yp (Wp h₁ (fun _ s₁' h₁'=>?_) fun _ _ h'=>h'.elim);refine Yp (Wp h₁' (fun _ s₂ h₂=>Yp (Wp h₂ (fun ok s₃ h₃=>?_) fun _ _ h'=>h'.elim)) fun _ _ h'=>h'.elim);cases ok with
  | false=>exact Yt ⟨rfl,h₃⟩
  | true=>
   exact Yp (Yp (Wp h₃ (fun x s₄ h₄=>Yp (Wp h₄ (fun _ s₅ h₅=>Yt (Yt ⟨rfl,h₅⟩)) fun _ _ h'=>h'.elim)) fun _ _ h'=>h'.elim))
def PIfs (X:Cx) (ifs:List Expr) (t:TT):Prop:=
 ∀(pins:List (Addr×Obj)) (s:Shared) (σ:L2.St) (H:Hp) (Q:Bool->Hp->Prop),Inv X pins σ H s->t σ H Q->
  wpAny (model X.prog X.w) X.A (forIn ifs true fun c r=>if r=true then do let ok ←isTrue c X.env (eval c X.env);pure (ForInStep.yield ok) else pure (ForInStep.yield r)) (TP X pins σ Q) X.xe s
def A2:TT:=fun _ H Q=>Q true H
def Xp {X:Cx}:PIfs X [] A2:=fun _ _ _ H _ I h=>Yt ⟨H,I,h⟩
def Xr {X:Cx}{c:Expr}{t:TT} (hc:PT X c t):PIfs X [c] t:=by
 intro pins s σ H Q I h;rw[QU];refine Yp ?_;rw[Yr rfl];exact Yp (thn (hc pins s σ H Q I h) fun b s1 q=>Yt (Yt q))
def NO (φ:List (Option Nat)) (wi:TI) (g:TG) (tc:TT) (te:TE):TE:=fun σ H Q=>wi σ H fun J H1=>∀D,H1 D=none->∃W:Nat->Nat->List V->Hp->Prop,(∃m,W 0 m [] (upd H1 D (.lst [])))/\
 ∀i m ys H2,W i m ys H2->(J.stop i H2/\Q (.ref D) H2)\/(J.go i H2/\∀x H3,J.yld i H2 x H3->g x (atStart φ σ) H3 fun σ2 H4=>Sub (atStart φ σ) σ2/\tc σ2 H4 fun b H5=>
  if b=true then te σ2 H5 fun y H6=>H6 D=some (.lst ys)/\ys.length<sizeLine/\∃m',m'<m/\W (i+1) m' (ys++[y]) (upd H6 D (.lst (ys++[y]))) else ∃m',m'<m/\W (i+1) m' ys H5)
def Inv.weak {X:Cx}{pins:List (Addr×Obj)}{σ σ':L2.St}{H:Hp}{s:Shared} (I:Inv X pins σ' H s) (S:Sub σ σ'):Inv X pins σ H s:=
 ⟨I.ok,I.os,I.bare,I.base,let ⟨m,hn,hl⟩:=I.loc;⟨m,hn,fun i x v h1 h2 h3=>hl i x v h1 (S.2 i v h2) h3⟩,I.cell,I.free,I.freeC,I.pin,I.hok,by rw[←S.1];exact I.len⟩
def Ea {φ:List (Option Nat)}{σ:L2.St}{i:Nat}{v:V} (h:(atStart φ σ)[i]?=some (some v)):∃j,φ[i]?=some (some j)/\σ[j]?=some (some v):=by
 unfold atStart at h;rw[Yz] at h;cases e:φ[i]? with
 | none=>rw[e] at h;cases h
 | some o=>
  rw[e] at h;cases o with
  | none=>simp at h
  | some j=>
   refine⟨j,rfl,?_⟩;simp at h;cases e2:σ[j]? with
   | none=>rw[e2] at h;simp at h
   | some w=>rw[e2] at h;simp at h;rw[h]
def CompEnd (X:Cx) (pins:List (Addr×Obj)) (σ:L2.St) (Q:VK) (use:Option (Value->Sem Unit)) (QQ:Value->Shared->Prop):Prop:=
 ∀(D C:Addr) (H5:Hp) (s6:Shared),Q (.ref D) H5->Inv X pins σ H5 s6->(∃m,s6.heap.Ns C m)->H5 C=none->C≠X.env.locals->X.s₀.heap.objs.size<=C->(∀x c,X.env.cells.lookup x=some c->c≠C)->(∀p∈X.pn++pins,p.1≠C)->C∉X.fs->
  compPost (model X.prog X.w) X.A X.xe use QQ (.ref D) C (.ok .next) s6
def CC {X:Cx}{N':List Str}{φ:List (Option Nat)}{sc:Scope}{elt iter tg:Expr}{ifs:List Expr}{pos pos':Pos}{wi:TI}{g:TG}{tc:TT}{te:TE}{use:Option (Value->Sem Unit)}{QQ:Value->Shared->Prop} (hcalm:X.calm=true) (S:CompOk X N' φ sc) (hi:PI X tg iter wi)
  (hin:∀cl C s₃ H₃ ex,PG (UP X N' sc cl C s₃ H₃ ex) tg g/\PIfs (UP X N' sc cl C s₃ H₃ ex) ifs tc/\PE (UP X N' sc cl C s₃ H₃ ex) elt te) (hs:∀x,foldedSetIterable iter X.env x=pure x)
  {pins:List (Addr×Obj)} {s:Shared} {σ:L2.St} {H:Hp} {Q:VK} (I:Inv X pins σ H s) (h:NO φ wi g tc te σ H Q) (fin:CompEnd X pins σ Q use QQ) :
  wpAny (model X.prog X.w) X.A (comprehension (.ListComp elt [⟨tg,iter,ifs,0⟩] sc pos) sc X.env pos' (newList []) false (eval iter X.env) use) QQ X.xe s:=by
 obtain⟨cl,hcl,p1,p3⟩:=Zc1 (env:=X.env) (sc:=sc) fun x hx hf=>I.ok.has x.1 (.inl (S.frees x hx hf));refine wpAny_comprehension_free (use:=use) rfl hs hcl S.kind S.names ?_;refine thn (hi pins s σ H _ I h) fun v s1 h1=>thn h1 fun itv s2 h2=>?_;obtain⟨it,fp,tn,J,H2,e,I2,T,st2,f2,hR⟩:=h2;subst e;refine Wl ?_;have hf:H2 s2.heap.objs.size=none:=I2.hok.fresh (Yx _);obtain⟨W,⟨m0,w0⟩,turn⟩:=hR s2.heap.objs.size hf;generalize eD:s2.heap.objs.size=D at *
 have I3:Inv X pins σ (upd H2 D (.lst [])) { s2 with heap:=s2.heap.push { cls:=.type "list",dict:=none,data:=.seq ([]:List Value).toArray } }:=
  I2.laid (t':=s2.toks) (fun b u e=>Yu _ e) (WG eD) ⟨Wy _,[],0,.nil,by rw[←eD];exact Y6 _ rfl⟩
 have st3:tn 0 (s2.heap.push { cls:=.type "list",dict:=none,data:=.seq ([]:List Value).toArray }):=T.keep _ _ _ st2 fun b _ o e=>Yu _ e
 have hfpD:∀b∈fp,b≠D:=fun b hb z=>by
  obtain⟨o,ho,_⟩:=T.obj _ _ st2 b hb
  have:=Y3 ho
  rw[z,←eD] at this;exact W5 _ this
 have f3:∀b∈fp,FpOk X pins (upd H2 D (.lst [])) b:=fun b hb=>⟨by rw[JW (hfpD b hb)];exact(f2 b hb).1,(f2 b hb).2⟩;generalize es3:({ s2 with heap:=s2.heap.push { cls:=.type "list",dict:=none,data:=.seq ([]:List Value).toArray } }:Shared)=s3 at *
 have st3':tn 0 s3.heap:=by rw[←es3];exact st3
 generalize eH3:upd H2 D (.lst [])=H3 at *;refine wpAny_newFunctionEnv S.nocell (by intro y hy;simp at hy) (fun h₁ hns₁ hsb₁=>?_) S.kind;have hh3:s3.heap=s2.heap.push { cls:=.type "list",dict:=none,data:=.seq ([]:List Value).toArray }:=by rw[←es3]
 rw[hh3] at hns₁ hsb₁;rw[←hh3] at hns₁ hsb₁;have old:∀b o,s3.heap.get? b=some o->h₁.get? b=some o:=fun b o e=>hsb₁.extBut b o (YL (Y3 e)) (Yu _ e)
 have hC0:s3.heap.get? s3.heap.objs.size=none:=by
  cases e:s3.heap.get? s3.heap.objs.size with
  | none=>rfl
  | some o=>exact absurd (Y3 e) (W5 _)
 generalize eC:s3.heap.objs.size=C at *;have hH3C:H3 C=none:=I3.hok.fresh (WG eC)
 have OK:(UP X N' sc cl C s3 H3 fp).Ok:=by
  refine⟨I.ok.mod,?_,I.ok.glob,I.ok.blt,WG eC,fun x y c h1 h2=>I.ok.inj x y c (p1 x c h1) (p1 y c h2),?_,(fun x c hx=>by cases hx),I.ok.hd,I.ok.frames,.inl rfl,?_,I3.bs,Y7 I.ok.bsz I3.sz,?_,?_,I3.stack,I3.stkFree⟩
  ·exact S.kind
  ·intro x hx;have hx':(∃k,(x,k)∈sc.names/\(NameKind.cell=k\/k=.free))\/∃k,(x,k)∈sc.names/\(NameKind.free=k\/k=.free):=hx.imp FC FC
   have hfr:(x,NameKind.free)∈sc.names:=by
    rcases hx' with⟨k,hm,rfl|rfl⟩|⟨k,hm,rfl|rfl⟩
    ·exact absurd rfl (S.nocell _ hm)
    ·exact hm
    ·exact hm
    ·exact hm
   exact p3 _ hfr rfl
  ·intro b hb;refine⟨fun z=>?_,fun x c hx=>(f3 b hb).2.2.2.2.1 x c (p1 x c hx)⟩;obtain⟨o,ho,_⟩:=T.obj _ _ st3' b hb;have z':b=C:=z;rw[z',hC0] at ho;cases ho
  ·intro b o hb hx;obtain⟨_,_,_,q,_,_⟩:=f3 b hx;rcases q with q|q
   ·exact I.ok.noex b o hb q
   ·have:=YW (Y3 hb) (Y7 I.ok.bsz q)
    exact W5 _ this
  ·intro b hb hz;rcases Y5.mp (I.stkSub b hz) with q|q
   ·exact(f3 b hb).2.1 q
   ·exact(f3 b hb).2.2.1 q
 have hlen0:(atStart φ σ).length=N'.length:=by unfold atStart;rw[Yn];exact S.len
 have I4:Inv (UP X N' sc cl C s3 H3 fp) [] (atStart φ σ) H3 { s3 with heap:=h₁,toks:=s3.toks+([]:List (Str×Value)).length }:=by
  refine⟨OK,rfl,I3.bare,Un.kept old,⟨_,hns₁,fun i x v h1 h2 h3=>?_⟩,fun x c hx=>?_,hH3C,fun x c hx=>I3.freeC x c (p1 x c hx),fun p hp=>?_,I3.hok.kept old,hlen0⟩
  ·obtain⟨j,hj,hv⟩:=Ea h2;obtain⟨hN,hfr⟩:=S.pick i x j h1 hj;obtain⟨m,_,hl⟩:=I3.loc;have hm:(x,NameKind.free)∈sc.names:=WL hfr;have hcell:=S.frees _ hm rfl;obtain⟨u,ru,lk⟩:=hl j x v hN hv (.inr (.inl hcell));refine⟨u,ru,.inr ⟨.inl (Aq S.okind hfr hcell),?_⟩⟩;obtain⟨c,hc⟩:=p3 _ hm rfl;rcases lk with⟨hk,_⟩|⟨_,c',hc',hcl'⟩
   ·have hk':X.env.scope.names.lookup x=some .local:=hk;rw[hcell] at hk';cases hk'
   ·have e:=p1 _ _ hc;rw[hc'] at e;cases e
    obtain⟨o,ho,hd⟩:=hcl';exact⟨_,hc,o,old _ o ho,hd⟩
  ·obtain⟨v,hv⟩:=I3.cell x c (p1 x c hx);obtain⟨o,ho,hd⟩:=hv;exact⟨v,o,old _ o ho,hd⟩
  ·exact absurd hp (by simp[UP])
 have st4:tn 0 h₁:=T.keep _ _ _ st3' fun b _ o e=>old b o e
 have stat:∀{H':Hp},(∀b∈fp,H' b=none)->∀b∈fp,FpOk (UP X N' sc cl C s3 H3 fp) [] H' b:=fun hn b hb=>
  ⟨hn b hb,(OK.exf b hb).1,OK.exfs b hb,.inl hb,(OK.exf b hb).2,fun p hp=>absurd hp (by simp[UP])⟩
 obtain⟨hPG,hPI,hPE⟩:=hin cl C s3 H3 fp
 have loop:codeAny (model X.prog X.w) X.A (.compLoop (.ListComp elt [⟨tg,iter,ifs,0⟩] sc pos) 0 (.ref it) (.ref D) (compEnvC sc cl C X.env)) (compPost (model X.prog X.w) X.A X.xe use QQ (.ref D) C) { s3 with heap:=h₁,toks:=s3.toks+([]:List (Str×Value)).length }:=by
  refine ME (fun n s'=>∃i ys σ' H',Inv (UP X N' sc cl C s3 H3 fp) [] σ' H' s'/\Sub (atStart φ σ) σ'/\tn i s'.heap/\(∀b∈fp,H' b=none)/\W i n ys H') ?_ m0 ⟨0,[],_,_,I4,Sub.refl,st4,fun b hb=>(f3 b hb).1,w0⟩;rintro n s5 ⟨i,ys,σ5,H5,I5,sub5,st5,fr5,w5⟩;have I5':=Own.Inv.weak I5 sub5;rcases turn i n ys H5 w5 with⟨stop,qn⟩|⟨go,step⟩
  ·refine thn (T.done (UP X N' sc cl C s3 H3 fp) rfl rfl rfl hcalm i [] s5 _ H5 _ I5' (stat fr5) st5 stop) fun r s6 ⟨hr,I6⟩=>?_;subst hr;obtain⟨m,hn,_⟩:=I6.loc;obtain⟨hh,gg,dd,tt,oo⟩:=s6;obtain rfl:oo=s3.os:=I6.os;have R:Inv X pins σ H5 { s3 with heap:=hh,gens:=gg,drawn:=dd,toks:=tt }:=I3.call (ch:=fp) (h':=hh) (g':=gg) (d':=dd) (t':=tt) I6.base I6.hok I6.bare fun b hb=>⟨(f3 b hb).2.2.2.1,(f3 b hb).2.1,(f3 b hb).2.2.2.2.1,(f3 b hb).2.2.2.2.2⟩
   have hC3:s3.heap.objs.size<=C:=WG eC;obtain⟨q0,q1,q2,q3,q4,q5⟩:=I3.fpOk (b:=C) (H':=H3) hC3 hH3C;refine fin D C H5 _ qn R ⟨m,hn⟩ I6.free q1 (Y7 I3.sz hC3) q4 q5 q2
  ·refine thn (T.item (UP X N' sc cl C s3 H3 fp) rfl rfl rfl hcalm i [] s5 _ H5 _ I5' (stat fr5) st5 go) fun r s6 ⟨u,hr,h6⟩=>?_;subst hr;refine thn h6 fun _ s7 ⟨x,H7,I7,r7,y7,st7,fr7⟩=>?_;have I7':=I7.pinned (stat fr7) (T.obj _ _ st7);refine thn (hPG _ s7 _ H7 x u _ I7' r7 (step x H7 y7)) fun _ s8 ⟨σ8,H8,I8,sub8,q8⟩=>?_;refine thn (hPI _ s8 σ8 H8 _ I8 q8) fun ok s9 ⟨H9,I9,q9⟩=>?_
   have again:∀{s10:Shared} {H10:Hp} {ys':List V} {m':Nat},Inv (UP X N' sc cl C s3 H3 fp) ([]++T1 fp s7.heap) σ8 H10 s10->W (i+1) m' ys' H10->∃i ys σ' H',Inv (UP X N' sc cl C s3 H3 fp) [] σ' H' s10/\Sub (atStart φ σ) σ'/\tn i s10.heap/\(∀b∈fp,H' b=none)/\W i m' ys H':=fun {s10 H10 ys' m'} J10 w10=>by
    refine⟨i+1,ys',σ8,H10,J10.unpinned,sub8,T.keep _ _ _ st7 fun b hb o e=>(J10.pin (b,o) (YR _ (YR _ (TU hb e)))).1,fun b hb=>?_,w10⟩;obtain⟨o,e,d⟩:=T.obj _ _ st7 b hb;exact(J10.pin (b,o) (YR _ (YR _ (TU hb e)))).2.1
   cases ok with
   | false=>
    obtain⟨m',hm,w'⟩:=q9;exact⟨m',hm,again I9 w'⟩
   | true=>
    refine thn (hPE _ s9 σ8 H9 _ I9 q9) fun xv s10 ⟨y,H10,I10,r10,hD,hl,m',hm,w'⟩=>?_;refine thn (XZ _ s10 σ8 H10 (.ref D) [y] (.ref D) [xv] (fun _ H11=>H11=upd H10 D (.lst (ys++[y]))) I10 rfl (.cons r10 .nil) ⟨D,ys,y,rfl,rfl,hD,hl,rfl⟩) fun _ s11 ⟨_,H11,I11,_,e11⟩=>?_;subst e11;exact⟨m',hm,again I11 w'⟩
 refine codeAny_compStart_list loop (T.self _ 0 _ _ _ st4 loop)
def UQ {X:Cx}{N':List Str}{φ:List (Option Nat)}{sc:Scope}{elt iter tg:Expr}{ifs:List Expr}{pos:Pos}{wi:TI}{g:TG}{tc:TT}{te:TE} (hcalm:X.calm=true) (S:CompOk X N' φ sc) (hi:PI X tg iter wi)
  (hin:∀cl C s₃ H₃ ex,PG (UP X N' sc cl C s₃ H₃ ex) tg g/\PIfs (UP X N' sc cl C s₃ H₃ ex) ifs tc/\PE (UP X N' sc cl C s₃ H₃ ex) elt te)
  (hs:∀x,foldedSetIterable iter X.env x=pure x:=by intro _;rfl):PE X (.ListComp elt [⟨tg,iter,ifs,0⟩] sc pos) (NO φ wi g tc te):=by
 intro pins s σ H Q I h;rw[eval_ListComp];refine CC (use:=none) hcalm S hi hin hs I h fun D C H5 s6 q R hm c0 c1 c2 c3 c4 c5=>?_;obtain⟨m,hn⟩:=hm;exact⟨m,hn,fun h' sb=>⟨.ref D,H5,R.turned (it:=C) (t':=s6.toks) (fun b o hb e=>sb.extBut b o hb e) c0 c1 (.inr c2) c3 c4,rfl,q⟩⟩
def K9 {X:Cx}{N':List Str}{φ:List (Option Nat)}{sc:Scope}{elt iter tg:Expr}{ifs:List Expr}{pos spos py:Pos}{wi:TI}{g:TG}{tc:TT}{te:TE}{i:Nat}{y:Str} (hN:X.N.Nodup) (hy:X.N[i]?=some y) (hl:X.env.scope.names.lookup y=some .local)
  (hcalm:X.calm=true) (S:CompOk X N' φ sc) (hi:PI X tg iter wi)
  (hin:∀cl C s₃ H₃ ex,PG (UP X N' sc cl C s₃ H₃ ex) tg g/\PIfs (UP X N' sc cl C s₃ H₃ ex) ifs tc/\PE (UP X N' sc cl C s₃ H₃ ex) elt te)
  (hs:∀x,foldedSetIterable iter X.env x=pure x:=by intro _;rfl) (hsw:swapsWith (.ListComp elt [⟨tg,iter,ifs,0⟩] sc pos) (some (.Name y py)) spos.line X.env=pure true:=by rfl) :
  PS X (.Assign [.Name y py] (.ListComp elt [⟨tg,iter,ifs,0⟩] sc pos) spos) (tAsg (NO φ wi g tc te) (P3 i)):=by
 intro pins s σ H D0 I h;rw[exec_Assign_Name_used _ _ _ _ hsw];refine Yp (wpAny_standAt (Yp ?_));show wpAny _ X.A (do let _ ←comprehension (.ListComp elt [⟨tg,iter,ifs,0⟩] sc pos) sc X.env _ (newList []) false (eval iter X.env) (some (assign (.Name y py) X.env))) _ _ s
 refine Yp (Wp (CC (use:=some (assign (.Name y py) X.env)) (QQ:=fun _ s'=>SP X pins D0 .next s') hcalm S hi hin hs I h fun D C H5 s6 q R hm c0 c1 c2 c3 c4 c5=>?_) (fun _ s' z=>Yt (Yt z)) fun _ _ e=>e);obtain⟨m,oC,es,ep,hoC,hdC,rC⟩:=hm
 have R2:Inv X (pins++[(C,oC)]) σ H5 s6:=R.pins_of fun p hp=>(YJ.mp hp).elim (fun z=>R.pin p (YR _ z)) fun z=>by
  rw[Y0.mp z];exact⟨hoC,c0,c1,c5,fun v e=>by rw[hdC] at e;cases e⟩
 show wpAny _ X.A (assign (.Name y py) X.env (.ref D)) _ _ _;refine wpAny_assign_Name (Np R2 hN hy (.inl hl) (v:=.ref D) (u:=.ref D) rfl (fun s7 I7=>?_) (.inr hl));have hC7:=(I7.pin (C,oC) (YR _ (YR _ (Y0.mpr rfl)))).1;refine⟨m,⟨oC,es,ep,hC7,hdC,rC⟩,fun h' sb=>?_⟩;have I8:Inv X pins (σ.set i (some (.ref D))) H5 s7:=I7.unpinned;exact⟨_,H5,I8.turned (it:=C) (t':=s7.toks) (fun b o hb e=>sb.extBut b o hb e) c0 c1 (.inr c2) c3 c4,q⟩
def Af (sc osc:Scope) (N N':List Str) (φ:List (Option Nat)):Bool:=
 sc.kind == .function&&osc.kind == .function&&(sc.names.all fun y=>y.2 != .cell&&(y.2 != .local || sc.names.lookup y.1==some .local)&&(y.2 != .free || osc.names.lookup y.1==some .cell)) &&
  φ.length==N'.length&&((N'.zip φ).all fun p=>match p.2 with|none=>true|some j=>N[j]? == some p.1&&sc.names.lookup p.1==some .free)
def CompOk.of {X:Cx}{N':List Str}{φ:List (Option Nat)}{sc:Scope} (h:Af sc X.env.scope X.N N' φ=true):CompOk X N' φ sc:=by
 unfold Af at h;simp only[Wm,beq_iff_eq,Qe,Bool.or_eq_true,bne_iff_ne,ne_eq] at h;obtain⟨⟨⟨⟨h1,h2⟩,h3⟩,h4⟩,h5⟩:=h;refine⟨h1,h2,fun y hy=>(h3 y hy).1.1,fun y hy hl=>?_,fun y hy hf=>?_,h4,fun i x j hi hj=>?_⟩
 ·rcases(h3 y hy).1.2 with z|z
  ·exact absurd hl z
  ·exact z
 ·rcases(h3 y hy).2 with z|z
  ·exact absurd hf z
  ·exact z
 ·have hz:(N'.zip φ)[i]?=some (x,some j):=by rw[List.getElem?_zip_eq_some];exact⟨hi,hj⟩
  have:=h5 _ (YE hz)
  simpa using this
end Own
namespace SetR
open PySem PySem.Spec PyProof.Rows L2
def Ris (xs:Array Nat):Prop:=∀i j,i<j->j<xs.size->xs.getD i 0<xs.getD j 0
def E5 {xs:Array Nat}{i a b:Nat} (h:i<xs.size):xs.getD i a=xs.getD i b:=by simp[Array.getD,h]
def Zab {xs:Array Nat} (R:Ris xs) (j:Nat):∀(fuel lo hi:Nat),hi-lo<=fuel->lo<=hi->hi<=xs.size->(∀k,k<lo->xs.getD k 0<j)->(∀k,hi<=k->k<xs.size->j<=xs.getD k 0)->
  let r:=SetTable.below.go xs j fuel lo hi
  r<=xs.size/\(∀k,k<r->xs.getD k 0<j)/\∀k,r<=k->k<xs.size->j<=xs.getD k 0:=by
 intro fuel
 induction fuel with
 | zero=>
  intro lo hi h1 h2 h3 h4 h5;have e:lo=hi:=by omega
  subst e;exact⟨h3,h4,h5⟩
 | succ fuel ih=>
  intro lo hi h1 h2 h3 h4 h5;show(let r:=(if lo<hi then(if xs.getD ((lo+hi) / 2) j<j then SetTable.below.go xs j fuel ((lo+hi) / 2+1) hi else SetTable.below.go xs j fuel lo ((lo+hi) / 2)) else lo);r<=xs.size/\(∀k,k<r->xs.getD k 0<j)/\∀k,r<=k->k<xs.size->j<=xs.getD k 0);by_cases hl:lo<hi
  ·rw[Yr hl];have hm:(lo+hi) / 2<xs.size:=by omega
   by_cases hc:xs.getD ((lo+hi) / 2) j<j
   ·rw[Yr hc];refine ih _ _ (by omega) (by omega) h3 (fun k hk=>?_) h5;rw[E5 (b:=0) hm] at hc;by_cases e:k=(lo+hi) / 2
    ·rw[e];exact hc
    ·exact Qt (R k _ (by omega) hm) hc
   ·rw[Yq hc];refine ih _ _ (by omega) (by omega) (by omega) h4 (fun k hk hk2=>?_);rw[E5 (b:=0) hm] at hc;by_cases e:k=(lo+hi) / 2
    ·rw[e];omega
    ·have:=R _ k (show(lo+hi) / 2<k by omega) hk2
     omega
  ·rw[Yq hl];have e:lo=hi:=by omega
   subst e;exact⟨h3,h4,h5⟩
def Gh {xs:Array Nat} (R:Ris xs) (j:Nat):SetTable.below xs j<=xs.size/\(∀k,k<SetTable.below xs j->xs.getD k 0<j)/\∀k,SetTable.below xs j<=k->k<xs.size->j<=xs.getD k 0:=
 Zab R j xs.size 0 xs.size (by omega) (by omega) (by omega) (fun k hk=>by omega) (fun k h1 h2=>by omega)
def OZ {xs:Array Nat} (R:Ris xs) {i:Nat} (hi:i<=xs.size) {slot:Nat} (h1:∀k,k<i->xs.getD k 0<slot) (h2:∀k,i<=k->k<xs.size->slot<=xs.getD k 0):SetTable.below xs slot=i:=by
 obtain⟨a,b,c⟩:=Gh R slot;rcases Nat.lt_trichotomy (SetTable.below xs slot) i with h|h|h
 ·have:=c _ (Yx _) (by omega)
  have:=h1 _ h
  omega
 ·exact h
 ·have:=b i h
  have:=h2 i (Yx _) (by omega)
  omega
def Rise (xs:Array Nat):Prop:=xs.toList.Pairwise (· < ·)
def Rise.ris {xs:Array Nat} (h:Rise xs):Ris xs:=by
 intro i j hij hj;have hi:i<xs.size:=by omega
 have:=(List.pairwise_iff_getElem.mp h) i j (by simpa using hi) (by simpa using hj) hij
 simpa [Array.getD,hi,hj] using this
def Rw {xs:Array Nat}{j:Nat} (h:Rise xs) (hn:xs[SetTable.below xs j]?≠some j):Rise (SetTable.insertAt xs (SetTable.below xs j) j):=by
 obtain⟨a,b,c⟩:=Gh h.ris j;generalize SetTable.below xs j=p at *;unfold Rise;rw[SetTable.toList_insertAt];refine QV.mpr ⟨h.sublist (QA _ _),WN.mpr ⟨fun y hy=>?_,h.sublist (List.drop_sublist _ _)⟩,fun x hx y hy=>?_⟩
 ·obtain⟨k,hk,e⟩:=List.mem_drop_iff_getElem.mp hy
  have hk':p+k<xs.size:=by
   simp only[Wb] at hk;omega
  have h1:=c (p+k) (by omega) hk';have e':xs.getD (p+k) 0=y:=by simpa [Array.getD,hk'] using e
  rw[e'] at h1;rcases Nat.lt_or_ge j y with h2|h2
  ·exact h2
  ·have ey:y=j:=by omega
   exfalso;rcases Nat.eq_zero_or_pos k with rfl|hk0
   ·apply hn;rw[W1 (by omega)]
    have:xs[p]=y:=by simpa using e
    rw[this,ey]
   ·have h3:=h.ris p (p+k) (by omega) hk';have h4:=c p (Yx _) (by omega);omega
 ·have hx':x<j:=by
   obtain⟨k,hk,e⟩:=List.mem_take_iff_getElem.mp hx;have hk1:k<p:=by omega
   have hk2:k<xs.size:=by omega
   have:=b k hk1
   have e':xs.getD k 0=x:=by simpa [Array.getD,hk2] using e
   omega
  rcases Y5.mp hy with rfl|hy
  ·exact hx'
  ·obtain⟨k,hk,e⟩:=List.mem_drop_iff_getElem.mp hy
   have hk':p+k<xs.size:=by
    simp only[Wb] at hk;omega
   have h1:=c (p+k) (by omega) hk';have e':xs.getD (p+k) 0=y:=by simpa [Array.getD,hk'] using e
   omega
structure Tb (b:Bool) (t:SetTable):Prop where
 led:t.led=b
 dum:t.dummies=#[]
 ris:Rise t.place
def Cu (j:Nat):SetTable.has #[] j=false:=by
 unfold SetTable.has;simp
def Tb.fresh (b:Bool):Tb b (.fresh 0 0 b):=⟨rfl,rfl,List.Pairwise.nil⟩
def Od (n:Nat):Rise (Array.range n):=by
 unfold Rise;rw[Array.toList_range];exact List.pairwise_lt_range
def Tb.stand {b:Bool}{t:SetTable} (h:Tb b t) (n:Nat):Tb b (t.standIn n):=⟨h.led,rfl,Od n⟩
def Tb.orStand {b:Bool}{t:SetTable} (h:Tb b t) (n:Nat):Tb b (t.orStandIn n):=by
 unfold SetTable.orStandIn;split
 ·exact h
 ·exact h.stand n
def Tb.plainOff {b:Bool}{t:SetTable} (h:Tb b t):Tb b { t with plain:=false }:=⟨h.led,h.dum,h.ris⟩
def Tb.put {b:Bool}{t:SetTable} (h:Tb b t) {j:Nat} (hn:t.place[SetTable.below t.place j]?≠some j):Tb b (t.put j).1:=by
 refine⟨h.led,?_,Rw h.ris hn⟩;show(if SetTable.has t.dummies j=true then _ else t.dummies)=#[];rw[h.dum,Cu];rfl
def Iz {b:Bool}{t:SetTable} (h:Tb b t) (f:Nat->Int) (z:Int):∀(fuel:Nat) (p:SetTable.Probe) (j:Nat) (d:Option Nat),p.dummy=none->SetTable.probe.go t f z fuel p=some (.empty j d)->d=none/\t.place[SetTable.below t.place j]?≠some j:=by
 intro fuel
 induction fuel with
 | zero=>intro p j d _ e;cases e
 | succ fuel ih=>
  intro p j d hp e;unfold SetTable.probe.go at e
  have hadv:∀q:SetTable.Probe,q.dummy=none->(t.advance q).dummy=none:=fun q hq=>by
   unfold SetTable.advance;split
   ·exact hq
   ·exact hq
  cases es:t.slot p.j with
  | empty=>
   rw[es] at e;have e':=Y2 e;injection e' with e1 e2;subst e1;refine⟨e2.symm.trans hp,fun hz=>?_⟩;unfold SetTable.slot at es
   dsimp only at es
   rw[hz] at es;simp at es
  | dummy=>
   exfalso;unfold SetTable.slot at es
   dsimp only at es
   split at es
   ·cases es
   ·rw[h.dum,Cu] at es;simp at es
  | live i=>
   rw[es] at e
   dsimp only at e
   split at e
   ·cases e
   ·exact ih _ j d (hadv p hp) e
def Tb.layNew {b:Bool}{t:SetTable} (h:Tb b t) (es:Array (Int×Value)) (z:Int) (x:Value):Tb b (PySem.layNew t es z x).2.1:=by
 unfold PySem.layNew;split
 ·rename_i slot wasDummy e
  have hn:t.place[SetTable.below t.place slot]?≠some slot:=by
   unfold SetTable.freeSlot SetTable.probe at e;split at e
   ·rename_i j dummy e';obtain⟨h1,h2⟩:=Iz h _ _ _ _ _ _ rfl e';subst h1
    have:=Y2 e
    have hj:j=slot:=YS Prod.fst this;rw[←hj];exact h2
   ·cases e
  exact(h.put hn).orStand _
 ·exact h.stand _
def OB (n:Nat) (f:Nat->Option Nat):((List.range n).filterMap fun j=>(f j).map (j,·)).Pairwise (fun a b=>a.1<b.1):=by
 refine List.Pairwise.filterMap _ ?_ List.pairwise_lt_range;intro a a' haa b hb b' hb';cases e:f a with
 | none=>rw[e] at hb;cases hb
 | some v=>
  cases e':f a' with
  | none=>rw[e'] at hb';cases hb'
  | some v'=>
   rw[e] at hb;rw[e'] at hb';cases hb
   cases hb'
   exact haa
def Tb.relayAll {b:Bool}{t:SetTable} (h:Tb b t) (es:Array (Int×Value)) (n:Nat):Tb b (PySem.relayAll t es n).2.1:=by
 unfold PySem.relayAll;split
 ·rename_i t' order e
  dsimp only
  split
  ·unfold SetTable.relaid SetTable.laid at e;cases e2:SetTable.layClean (SetTable.sizeAbove n-1) (es.map (·.1)) with
   | none=>rw[e2] at e;cases e
   | some owner=>
    rw[e2] at e;have e':=YS Prod.fst (Y2 e);subst e';refine⟨h.led,rfl,?_⟩;show(List.map (fun x:Nat×Nat=>x.fst) ((List.range (SetTable.sizeAbove n-1+1)).filterMap fun j=>(owner.getD j none).map (j,·))).toArray.toList.Pairwise (· < ·);rw[List.toList_toArray,List.pairwise_map];exact OB _ _
  ·exact h.stand _
 ·exact h.stand _
def keyOf (e:Int×Value):Int:=match e.2 with
 | .int k _=>k
 | _=>0
def Ent (e:Int×Value):Prop:=∃(k:Int) (t:Tok),e=(hashInt k,.int k t)
section
variable (prog:Program) (w:World)
def Xt (w:World):Bool:=w.params.followText "set-order"
structure SetAt (h:Heap) (a:Addr) (js:List Int) (es:Array (Int×Value)) (ep:Nat) (t:SetTable):Prop where
 obj:∃o,h.get? a=some o/\o.ExactSet/\o.data=.set es ep t
 ent:∀e∈es.toList,Ent e
 per:(es.toList.map keyOf).Perm js
 nod:js.Nodup
 few:es.size<scanBound
 fit:t.fits es.size=true
 tab:Tb (!Xt w) t
def SetB (h:Heap) (a:Addr) (js:List Int):Prop:=∃es ep t,SetAt w h a js es ep t
end
section
variable {prog:Program}{w:World}{A:Around}{E:Value->Shared->Prop}{s:Shared}
def Ent.elems {l:List (Int×Value)} (h:∀e∈l,Ent e):ElemsOf (intKind prog w) l:=fun e he=>by
 obtain⟨k,t,rfl⟩:=h e he;exact⟨⟨k,intKind_is _ _ _ _,rfl⟩,rfl⟩
def Ci {e:Int×Value} (h:Ent e) (k:Int):(intKind prog w).is k e.2=decide (k=keyOf e):=by
 obtain⟨k',t,rfl⟩:=h;show Value.isInt k (.int k' t)=decide (k=k');by_cases e:k=k'
 ·subst e;simp[Value.isInt]
 ·rw[YB e];simp[Value.isInt];exact fun z=>e z.symm
def SetB.len {h:Heap}{a:Addr}{js:List Int}{es:Array (Int×Value)}{ep:Nat}{t:SetTable} (S:SetAt w h a js es ep t):es.size=js.length:=by
 have:=S.per.length_eq
 simpa using this
def SetB.at {h h':Heap}{a:Addr}{js:List Int} (S:SetB w h a js) (k:∀o,h.get? a=some o->h'.get? a=some o):SetB w h' a js:=by
 obtain⟨es,ep,t,⟨o,ho,r⟩,b,c,d,e,f,g⟩:=S;exact⟨es,ep,t,⟨o,k o ho,r⟩,b,c,d,e,f,g⟩
def SetAt.store {h:Heap}{a:Addr}{js js':List Int}{es es':Array (Int×Value)}{ep:Nat}{t t':SetTable} (S:SetAt w h a js es ep t) (h1:∀e∈es'.toList,Ent e) (h2:(es'.toList.map keyOf).Perm js') (h3:js'.Nodup) (h4:es'.size<scanBound)
  (h5:t'.fits es'.size=true) (h6:Tb (!Xt w) t'):SetAt w (h.update a (Obj.putSet es' t')) a js' es' (ep+1) t':=by
 obtain⟨o,ho,hx,hd⟩:=S.obj;refine⟨⟨{ o with data:=.set es' (ep+1) t' },?_,hx,rfl⟩,h1,h2,h3,h4,h5,h6⟩
 have q:=Wn (Obj.putSet es' t') ho (by rw[putSet_of es' t' hd];rfl);rwa[putSet_of es' t' hd] at q
def EK {g:Bool->Sem Unit} (hg:∀(b:Bool) (s':Shared) (R':Unit->Shared->Prop),R' () s'->wpAny (model prog w) A (g b) R' E s') {a:Addr}{js js':List Int}{es es':Array (Int×Value)}{ep:Nat}{t t':SetTable} (S:SetAt w s.heap a js es ep t)
  (h1:∀e∈es'.toList,Ent e) (h2:(es'.toList.map keyOf).Perm js') (h3:js'.Nodup) (h4:es'.size<scanBound) (h5:t'.fits es'.size=true) (h6:Tb (!Xt w) t') {d:Bool} {R:Option Bool->Shared->Prop}
  (fin:∀h',Heap.SameBut a s.heap h'->SetB w h' a js'->R (some true) { s with heap:=h' }) :
  wpAny (model prog w) A (do
    storeSet a es' t'
    if (!d&&t'.tooFull)=true then do
      g (relayAll t' es' (SetTable.grown es'.size)).2.2
      storeSet a (relayAll t' es' (SetTable.grown es'.size)).1 (relayAll t' es' (SetTable.grown es'.size)).2.1
      pure (some true)
     else pure (some true)) R E s:=by
 obtain⟨o,ho,hx,hd⟩:=S.obj;have S1:=S.store h1 h2 h3 h4 h5 h6;obtain⟨o1,ho1,hx1,hd1⟩:=S1.obj;have B1:=Wu s.heap a (Obj.putSet es' t');refine Yp (wpAny_storeSet_of ho hd ?_ (QB h4));split
 ·have pp:=relayAll_perm t' es' (SetTable.grown es'.size);have ff:=relayAll_fits t' es' (SetTable.grown es'.size);have tt:=h6.relayAll es' (SetTable.grown es'.size);generalize relayAll t' es' (SetTable.grown es'.size)=y at pp ff tt ⊢;obtain⟨es2,t2,g2⟩:=y
  dsimp only at pp ff tt ⊢
  have z:es2.size=es'.size:=by rw[←Wb,pp.length_eq,Wb]
  refine Yp (hg _ _ _ (Yp (wpAny_storeSet_of ho1 hd1 ?_ (QB (by rw[z];exact h4)))));exact Yt (fin _ (B1.trans (Wu _ a _)) ⟨_,_,_,S1.store (fun e he=>h1 e (pp.mem_iff.mp he)) ((pp.map keyOf).trans h2) h3 (by rw[z];exact h4) ff tt⟩)
 ·exact Yt (fin _ B1 ⟨_,_,_,S1⟩)
def addJ (js:List Int) (k:Int):List Int:=if k∈js then js else js++[k]
def HY {a:Addr}{js:List Int}{k:Int}{tk:Tok}{R:Bool->Shared->Prop} (S:SetB w s.heap a js) (room:js.length+1<scanBound) (fin:∀(r:Bool) h',Heap.SameBut a s.heap h'->SetB w h' a (addJ js k)->R r { s with heap:=h' }) :
  wpAny (model prog w) A (setAddHashed a (.int k tk) (hashInt k)) R E s:=by
 obtain⟨es,ep,t,S⟩:=S;obtain⟨o,ho,hx,hd⟩:=S.obj;have el:=Ent.elems (prog:=prog) (w:=w) S.ent;have hz:es.size=js.length:=SetB.len S;unfold setAddHashed setAddHashedIn;refine Qz (Yp (WV ho hd S.fit ?_))
 dsimp only
 rw[byScan_of (x:=.int k tk) rfl S.few el];simp only[↓reduceIte];unfold setAddByScan;refine Yp (Yp (wpAny_rule (Yp (wpAny_setScan_of (knd:=intKind prog w) (k:=k) (intKind_is _ _ _ _) ho hd S.fit el ?_))));have mem:∀z:Int,z∈js↔∃e∈es.toList,keyOf e=z:=fun z=>by rw[←S.per.mem_iff,YT]
 cases q:List.findIdx? (fun e=>(intKind prog w).is k e.2) es.toList with
 | some j=>
  dsimp only
  obtain⟨hj,pj,_⟩:=List.findIdx?_eq_some_iff_getElem.mp q
  have hk:k∈js:=by
   rw[Ci (S.ent _ (YH hj))] at pj;exact(mem k).mpr ⟨_,YH hj,(Yv pj).symm⟩
  refine Yt (Yt ?_);have f:=fin false s.heap (Heap.SameBut.refl a s.heap);unfold addJ at f;rw[Yr hk] at f;exact f ⟨_,_,_,S⟩
 | none=>
  dsimp only
  have hk:¬k∈js:=fun hz=>by
   obtain⟨e,he,hke⟩:=(mem k).mp hz
   have:=List.findIdx?_eq_none_iff.mp q e he
   rw[Ci (S.ent e he),Ys hke.symm] at this;cases this
  have P:=layNew_perm t es (hashInt k) (.int k tk);have F:=layNew_fits t es (hashInt k) (.int k tk);have T:=S.tab.layNew es (hashInt k) (.int k tk);change wpAny (model prog w) A (match layNew t es (hashInt k) (.int k tk) with|(es,t,wasDummy,gave)=>_) _ _ _
  generalize layNew t es (hashInt k) (.int k tk)=y at P F T ⊢;obtain⟨es1,t1,d1,g1⟩:=y
  dsimp only at P F T ⊢
  rw[Array.toList_push] at P
  have e1:∀e∈es1.toList,Ent e:=fun e he=>by
   rcases YJ.mp (P.mem_iff.mp he) with he|he
   ·exact S.ent e he
   ·rw[Y0.mp he];exact⟨k,tk,rfl⟩
  have e2:(es1.toList.map keyOf).Perm (js++[k]):=by
   refine(P.map keyOf).trans ?_;rw[YD];exact S.per.append_right _
  have e3:(js++[k]).Nodup:=W8.mpr ⟨S.nod,by simp,fun x hx y hy=>by rw[Y0.mp hy];rintro rfl;exact hk hx⟩
  have e4:es1.size<scanBound:=by
   rw[←Wb,P.length_eq,Yy,Wb,hz];exact room
  have fin':∀h',Heap.SameBut a s.heap h'->SetB w h' a (js++[k])->R true { s with heap:=h' }:=fun h' sb q'=>by
   have f:=fin true h' sb;unfold addJ at f;rw[Yq hk] at f;exact f q'
  have gw:∀(b:Bool) {s':Shared} {R':Unit->Shared->Prop},R' () s'->wpAny (model prog w) A (match b with|true=>rule "set.scan.the-table-gave-way" | false=>pure ()) R' E s':=fun b s' R' r'=>by cases b<;>first|exact Yt r'|exact wpAny_rule r'
  refine Yp (gw _ ?_);split
  ·refine Yp ?_;rw[hashByValue_scannable 8 (x:=.int k tk) rfl];refine Yt (EK (fun b s' R' r'=>gw b r') S e1 e2 e3 e4 ?_ ?_ fun h' sb q'=>Yt (fin' h' sb q'))
   ·split
    ·exact F
    ·exact SetTable.fits_plain_off F
   ·split
    ·exact T
    ·exact T.plainOff
  ·refine Yp (Yt ?_);simp only[↓reduceIte];exact EK (fun b s' R' r'=>gw b r') S e1 e2 e3 e4 F T fun h' sb q'=>Yt (fin' h' sb q')
def RH {R:Result->Shared->Prop}{I:Addr}{fp wr:List Addr}{P:Nat->Value->Prop}{St:Nat->Heap->Prop}{ns:List Int} (W:Walks prog w A.in1 I fp wr ns.length P St) (S:Addr) (hS:S∉fp)
  (hv:∀i v,P i v->∃t,v=.int (ns.getD i 0) t) (room:ns.length+1<scanBound):∀(k i:Nat) (s:Shared) (js:List Int),ns.length-i=k->i<=ns.length->St i s.heap->SetB w s.heap S js->js.length<=i->
   (∀h' tk,(∀b o,b∉S::wr->s.heap.get? b=some o->h'.get? b=some o)->SetB w h' S ((ns.drop i).foldl addJ js)->R (.ok (.ret .none)) { s with heap:=h',toks:=tk })->
   codeAny (model prog w) A (.builtin "set.update.loop" ⟨[.ref S,.ref I],[]⟩) R s:=by
 have hSw:S∉wr:=fun z=>hS (W.sub _ z);intro k
 induction k with
 | zero=>
  intro i s js hk hi st B hj fin;have ei:i=ns.length:=by omega
  refine Qk Q4 ?_;rw[WY WO _];show wpAny _ A.in1 (pyNext (.ref I) >>= _) _ _ s;refine Yp (W.done s _ _ (ei▸st) fun h' tk keep=>?_);show wpAny _ A.in1 (ret Value.none) _ _ _;refine Yt (fin h' tk (fun b o hb e=>keep b o (fun z=>hb (YF _ z)) e) ?_);rw[ei,List.drop_length];exact B.at fun o e=>keep S o hSw e
 | succ k ih=>
  intro i s js hk hi st B hj fin;have hlt:i<ns.length:=by omega
  refine Qk Q4 ?_;rw[WY WO _];show wpAny _ A.in1 (pyNext (.ref I) >>= _) _ _ s;refine Yp (W.item i s _ _ hlt st fun v h1 tk1 pv st1 keep1=>?_);obtain⟨t,rfl⟩:=hv i v pv;have B1:SetB w h1 S js:=B.at fun o e=>keep1 S o hSw e;show wpAny _ A.in1 (holding [Value.int (ns.getD i 0) t] (setAdd S (.int (ns.getD i 0) t)) >>= _) _ _ _;unfold setAdd;refine Yp (Qz (Qz (Yp ((intKind prog w).pyHash (k:=ns.getD i 0) (intKind_is _ _ _ _) ?_))));refine HY (k:=ns.getD i 0) B1 (by omega) fun r h2 sb B2=>?_
  have el:(addJ js (ns.getD i 0)).length<=i+1:=by
   unfold addJ;split
   ·omega
   ·simp;omega
  refine Yt ⟨QH WO _,ih (i+1) _ _ (by omega) hlt (W.frame _ h1 _ st1 fun b hb o e=>?_) B2 el fun h' tk keep B'=>?_⟩
  ·rw[sb.2 b (fun z:b=S=>hS (by rw[←z];exact hb))];exact e
  ·refine fin h' tk (fun b o hb e=>keep b o hb ?_) ?_
   ·rw[sb.2 b (fun z:b=S=>hb (by rw[z];exact YK))];exact keep1 b o (fun z=>hb (YF _ z)) e
   ·have e1:ns.drop i=ns.getD i 0::ns.drop (i+1):=by
     rw[WZ hlt,Y1,Yo hlt];rfl
    rw[e1];exact B'
def GU (a:Value) {Q:Value->Shared->Prop} (fin:Q (.ref s.heap.objs.size) { s with heap:=s.heap.push { cls:=.type "set",dict:=none,data:=.set #[] 0 (.fresh 0 0 (!Xt w)) } }) :
  codeAny (model prog w) A (.call (.builtin "set.__new__") ⟨[.type "set",a],[]⟩) (wants Q E) s:=by
 refine codeAny_of_tree (show wpAny _ A.in1 (do checkBuiltinCall "set.__new__" ⟨[.type "set",a],[]⟩;again (.builtin "set.__new__" ⟨[.type "set",a],[]⟩)) _ _ s from ?_)
 refine Yp (wpAny_of_eq (F.newCall_set_1 a) (Yt ⟨QH F.plain_set_new _,Qk F.entry_set_new ?_⟩));have und:=WY (A:=A) F.plain_set_new ⟨[.type "set",a],[]⟩;rw[und];unfold Builtin.«set.__new__» Builtin.Frozenset.newClass;have q1:=sub_set_self;obtain⟨hh,gg,dd,tt,oo⟩:=s
 dsimp only
 wp_walk
 refine wpAny_askSetting (Yt (show wpAny _ _ _ _ _ _ from ?_))
 dsimp only
 simp only[newObj];exact Yp (wpAny_alloc (Yt (Yt fin)))
set_option maxHeartbeats 4000000 in
def GX {l:Addr}{its:Array Value}{ns:List Int}{Q:Value->Shared->Prop} (hh:A.handled=none) (hl:s.heap.IsList l its) (hi:IntsAre its.toList ns) (room:ns.length+1<scanBound)
  (fin:∀(h':Heap) (tk:Nat),SetB w h' s.heap.objs.size (ns.foldl addJ [])->(∀b o,b<s.heap.objs.size->s.heap.get? b=some o->h'.get? b=some o)->Q (.ref s.heap.objs.size) { s with heap:=h',toks:=tk }) :
  wpAny (model prog w) A (call (.type "set") [.ref l]) Q E s:=by
 have hn:its.size=ns.length:=by have:=IntsAre.length hi;simpa using this
 obtain⟨mroC,mroT,mro⟩:=F.called_set.mro;have made:=F.called_set.made;have subs:=F.called_set.sub;refine wpAny_call (codeAny_of_tree (show wpAny _ _ (callAny (.type "set") _) _ _ _ from ?_))
 refine Yt ⟨Code.quiet_builtin _ (by decide +kernel),Qk F.entry_type_call ?_⟩;have wt:=Around.under_plain (A:=A) (weight_type_call_type "set" [.ref l] []) rfl;rw[wt];have nt:=F.called_set.notType;have cc:=F.called_set.canCreate;have tc:=F.typeCall_set_1 (.ref l)
 repeat (any_goals (first|assumption|wp_step))
 refine Qs (GU (.ref l) (E:=E) (Q:=fun obj s1=>obj=.ref s.heap.objs.size/\s1={ s with heap:=s.heap.push { cls:=.type "set",dict:=none,data:=.set #[] 0 (.fresh 0 0 (!Xt w)) } }) ⟨rfl,rfl⟩) fun r s1 hr=>?_
 cases r with
 | error e=>exact hr
 | ok fl=>
  cases fl with
  | next=>exact hr.elim
  | brk=>exact hr.elim
  | cont=>exact hr.elim
  | ret obj=>
   obtain⟨rfl,rfl⟩:=hr;generalize eH:s.heap.push { cls:=.type "set",dict:=none,data:=.set #[] 0 (.fresh 0 0 (!Xt w)) }=H1;have g1:H1.get? s.heap.objs.size=some { cls:=.type "set",dict:=none,data:=.set #[] 0 (.fresh 0 0 (!Xt w)) }:=by rw[←eH];exact Y6 _ rfl
   have hT:Shared.TypeIs { s with heap:=H1 } (.ref s.heap.objs.size) "set":=⟨_,g1,rfl⟩
   have ini:=F.called_set.init.lookup;have inb:=F.called_set.init.bind (.ref s.heap.objs.size)
   repeat (any_goals (first|assumption|wp_step))
   refine Qs (codeAny_call_builtin (R:=wants (fun r s2=>r=.none/\∃h' tk,s2={ s with heap:=h',toks:=tk }/\SetB w h' s.heap.objs.size (ns.foldl addJ [])/\(∀b o,b<s.heap.objs.size->s.heap.get? b=some o->h'.get? b=some o)) E)
    F.called_set.init.plain F.entry_set_init (check_set_init_1 hT ?_)) fun r2 s2 hr2=>?_
   ·obtain⟨ob,hob,hcl,nl,hdl⟩:=hl;obtain⟨c1,d1,dt1,sl1⟩:=ob;simp only at hcl hdl;subst hcl;subst hdl;have hob1:H1.get? l=some { cls:=.type "list",dict:=d1,data:=.seq its nl,slots:=sl1 }:=by rw[←eH];exact Yu _ hob
    have sz1:H1.objs.size=s.heap.objs.size+1:=by rw[←eH,Qb]
    have no1:=F.sub_list_set;have no2:=F.sub_list_frozenset;have no3:(Value.type "list" == Value.type "dict")=false:=by decide
    have L1:H1.IsList l its:=⟨_,hob1,rfl,nl,rfl⟩;unfold Builtin.«set.__init__» noKeywords Builtin.Frozenset.updateFrom;generalize eP:pyIter=PI
    wp_walk
    subst eP;refine wpAny_pyIter_list L1 (Yp (wpAny_runValue ?_));have lt1:l<s.heap.objs.size:=Y3 hob;have hd3:A.in1.in1.in1.handled=none:=by simp[hh]
    have ne1:l≠H1.objs.size:=by rw[sz1];exact YL (WW lt1)
    have no4:s.heap.objs.size∉[H1.objs.size,l]:=by
     rw[sz1];simp only[Y5,QK,or_false,not_or];exact⟨YL (Qd _),Vm lt1⟩
    have W0:=Walks.list (prog:=prog) (w:=w) hd3 H1.objs.size l ne1 its;rw[hn] at W0;refine RH (ns:=ns) W0 s.heap.objs.size no4 (fun i v hv=>IntsAre.int_at hi i v (by rw[Ww];exact hv)) room (ns.length-0) 0 _ [] rfl (Wy _) ⟨⟨_,Y6 _ rfl,rfl,rfl⟩,L1.push _⟩ ?_ (Wy _) fun h' tk keep B=>?_
    ·exact⟨#[],0,_,⟨_,Yu _ g1,⟨rfl,rfl,rfl⟩,rfl⟩,fun e he=>by simp at he,by simp,Qc,by show(0:Nat)<4096;decide,rfl,Tb.fresh _⟩
    ·show wpAny _ _ _ _ _ _;refine Yt (show wpAny _ _ (ret Value.none) _ _ _ from Yt ⟨rfl,h',tk,rfl,B,fun b o hb e=>?_⟩)
     refine keep b o ?_ (Yu _ (by rw[←eH];exact Yu _ e));rw[sz1];simp only[Y5,QK,or_false,not_or];exact⟨YL hb,YL (WW hb)⟩
   ·cases r2 with
    | error e=>exact hr2
    | ok f2=>
     cases f2 with
     | next=>exact hr2.elim
     | brk=>exact hr2.elim
     | cont=>exact hr2.elim
     | ret r=>
      obtain⟨rfl,h',tk,rfl,B,keep⟩:=hr2
      repeat (any_goals (first|assumption|wp_step))
      exact fin _ _ B keep
end
def si_slot:Slot "set_iterator" "__next__" "set_iterator.__next__":=
 Slot.of (owner:="set_iterator") (n:="__next__") (by rw[typeLookup_type,builtinLookup_eq_fast];kernel_rfl) (by decide +kernel) (by decide +kernel) (by decide +kernel)
  (by first|exact Or.inl (by decide +kernel)|exact Or.inr (by decide +kernel)) (by rw[isSubtype_type];kernel_rfl)
def Mn:entryFor table "set_iterator.__next__"=some Builtin.«set_iterator.__next__»:=entryFor_of_tree (by kernel_rfl)
def ON (a:Value):argsOk "set_iterator.__next__" ⟨[a],[]⟩:=by unfold argsOk;kernel_rfl
def Of:entryFor table "set.__iter__"=some Builtin.«frozenset.__iter__»:=entryFor_alias (id':="frozenset.__iter__") (by kernel_rfl) rfl (by decide +kernel) (by kernel_rfl)
def AG:Slot "set_iterator" "__iter__" "set_iterator.__iter__":=
 Slot.of (owner:="set_iterator") (n:="__iter__") (by rw[typeLookup_type,builtinLookup_eq_fast];kernel_rfl) (by decide +kernel) (by decide +kernel) (by decide +kernel)
  (by first|exact Or.inl (by decide +kernel)|exact Or.inr (by decide +kernel)) (by rw[isSubtype_type];kernel_rfl)
def RK:entryFor table "set_iterator.__iter__"=some Builtin.«dict_keyiterator.__iter__»:=entryFor_alias (id':="dict_keyiterator.__iter__") (by kernel_rfl) rfl (by decide +kernel) (by kernel_rfl)
def Ha (a:Value):argsOk "set_iterator.__iter__" ⟨[a],[]⟩:=by unfold argsOk;kernel_rfl
def SI (h:Heap) (I a:Addr) (first:Value) (i n ep:Nat):Prop:=∃o,h.get? I=some o/\o.cls=.type "set_iterator"/\o.data=.fields #[first,.int i 0,.ref a,.int n 0,.int ep 0]
section
variable {prog:Program}{w:World}{A:Around}{E:Value->Shared->Prop}{s:Shared}{I a:Addr}{first:Value}{i n ep:Nat}{js:List Int}{es:Array (Int×Value)}{t:SetTable}
def SI.typ (h:SI s.heap I a first i n ep):s.TypeIs (.ref I) "set_iterator":=let ⟨o,ho,hc,_⟩:=h;⟨o,ho,hc⟩
def SI.at {h h':Heap} (x:SI h I a first i n ep) (k:∀o,h.get? I=some o->h'.get? I=some o):SI h' I a first i n ep:=let ⟨o,ho,r⟩:=x;⟨o,k o ho,r⟩
def Ph (first:Value) (a I:Addr) (i ep:Int):Sem PySem.Fin:=
 match first with
 | Value.int slot _=>do
  match ←setNext a slot.toNat i.toNat ep.toNat with
  | some (x,next)=>
   setField (.ref I) 0 (rawInt next)
   setField (.ref I) 1 (rawInt (i+1))
   ret x
  | none=>
   setField (.ref I) 2 .none
   raiseNew (←newExc (.type "StopIteration") [])
 | _=>do
  let some places ←seqItems? first|unsupported "internal:set_iterator"
  match places[i.toNat]? with
  | some (.int place _)=>
   let x ←setNextDrawn a place.toNat ep.toNat
   setField (.ref I) 1 (rawInt (i+1))
   ret x
  | some _=>unsupported "internal:set_iterator"
  | none=>
   setField (.ref I) 0 (rawInt 0)
   setField (.ref I) 2 .none
   raiseNew (←newExc (.type "StopIteration") [])
def NA {Q:Option Value->Shared->Prop} (hit:SI s.heap I a first i es.size ep) (S:SetAt w s.heap a js es ep t)
  (body:wpAny (model prog w) A.in1 (Ph first a I i ep) (fun fin s'=>∃v,fin=.done (.ret v)/\Q (some v) s')
   (fun e s'=>wpAny (model prog w) A (isInstance e (.type "StopIteration")) (fun b s''=>b=true/\Q none s'') E s') s) :
  wpAny (model prog w) A (pyNext (.ref I)) Q E s:=by
 obtain⟨o,ho,hc,hd⟩:=id hit;obtain⟨ob,hob,hx,hdd⟩:=S.obj;unfold pyNext;refine Yp (wpAny_attempt (Q9 (name:=Str.ofString "__next__") hit.typ si_slot (WM si_slot hit.typ Mn ?_ (ON _))));unfold Builtin.«set_iterator.__next__»;refine Yp (Yt (Yp (wpAny_fieldsOf ho hd ?_)));show wpAny _ _ (setEntries a >>= fun x=>if ((x.size:Int) != (es.size:Int))=true then _ else Ph first a I i ep) _ _ s
 refine Yp (wpAny_setEntries_of hob hdd S.fit ?_);rw[Yq (by simp)];refine Wp body (fun fin s' h=>?_) fun e s' h=>?_
 ·obtain⟨v,e,q⟩:=h;exact⟨v,e,Yt q⟩
 ·refine Yp (Wp h (fun b s'' h2=>?_) fun _ _ z=>z);obtain⟨rfl,q⟩:=h2;exact Yt q
def DV {Q:Option Value->Shared->Prop}{o:Obj}{vs:Array Value} (hh:A.handled=none) (ho:s.heap.get? I=some o) (hd:o.data=.fields vs) (h2:2<vs.size) (fin:∀h',Heap.ExtBut I s.heap h'->Q none { s with heap:=h' }) {R:PySem.Fin->Shared->Prop} :
  wpAny (model prog w) A.in1 (do setField (.ref I) 2 .none;raiseNew (←newExc (.type "StopIteration") [])) R (fun e s'=>wpAny (model prog w) A (isInstance e (.type "StopIteration")) (fun b s''=>b=true/\Q none s'') E s') s:=by
 refine Yp (WD ho hd h2 (Yp ?_));simp only[newExc,newTuple];refine Yp (Wl ?_ (by size_fits));refine Yp (m:=firstArgMember _ _) (wpAny_of_eq (a:=Value.none) (by first|rfl|(simp only[firstArgMember];rfl)) (Wl ?_ (by size_fits)))
 simp only[raiseNew];refine Yp (wpAny_handled ?_);have e1:A.in1.handled=none:=hh;rw[e1];refine Yp (Yt (wpAny_throw ?_));refine wpAny_isInstance (T:="StopIteration") (b:=true) ⟨_,Y6 _ rfl,rfl⟩ isSubtype_stop ?_;exact⟨rfl,fin _ (((Wu ..).extBut.push _).push _)⟩
def SI.step1 {o:Obj}{x:Value} (ho:s.heap.get? I=some o) (hc:o.cls=.type "set_iterator") (hd:o.data=.fields #[first,.int i 0,.ref a,.int n 0,.int ep 0]) :
  SI (s.heap.update I (Obj.mapFields (·.setIfInBounds 1 (rawInt ((i:Int)+1))))) I a first (i+1) n ep:=
 ⟨_,Wn _ ho (WE (Wq hd _)),(QC ..).trans hc,by rw[Wq hd];simp[rawInt]⟩
def N9 {Q:Bool->Shared->Prop} (h:Q (Xt w) s):wpAny (model prog w) A setsByText Q E s:=by
 unfold setsByText;exact Yp (wpAny_askSetting (Yt h))
def RT {Q:Option (Value×Nat)->Shared->Prop}{slot:Nat} (S:SetAt w s.heap a js es ep t) (hb:Xt w=true) (h:Q (((pickOrder (w.params.setOrder a ep) es)[i]?).map fun e=>(e.2,slot)) s) :
  wpAny (model prog w) A (setNext a slot i ep) Q E s:=by
 obtain⟨ob,hob,hx,hdd⟩:=S.obj;unfold setNext;refine Yp (WV hob hdd S.fit (Yp (N9 ?_)));rw[hb,Yr rfl]
 dsimp only
 rw[Yq (by simp)];refine Yp ?_;unfold setWalk;refine Yp (WV hob hdd S.fit (Yp (N9 ?_)));rw[hb,Yr rfl];exact Yp (wpAny_askSetting (Yt (Yt h)))
def MK {Q:Option (Value×Nat)->Shared->Prop}{slot:Nat} (S:SetAt w s.heap a js es ep t) (hb:Xt w=false) (hp:(!t.plain&&decide (es.size>1))=false)
  (h:Q (match es[SetTable.below t.place slot]?,t.place[SetTable.below t.place slot]? with|some (_,x),some j=>some (x,j+1)|_,_=>none) s):wpAny (model prog w) A (setNext a slot i ep) Q E s:=by
 obtain⟨ob,hob,hx,hdd⟩:=S.obj;unfold setNext;refine Yp (WV hob hdd S.fit (Yp (N9 ?_)));rw[hb,Yq (by decide)]
 dsimp only
 show wpAny _ _ (if (!t.plain&&decide (es.size>1))=true then _ else _) _ _ _;rw[hp,Yq (by decide)];refine Yp (?_:wpAny _ _ (if (!t.led && !es.isEmpty)=true then unsupported "set:maker-not-led" else pure ()) _ _ _);have hl:t.led=true:=by rw[S.tab.led,hb];rfl
 rw[hl,Yq (by simp)];exact Yt (Yt h)
def Za6 {Q:Value->Shared->Prop}{p:Nat}{e:Int×Value} (S:SetAt w s.heap a js es ep t) (he:es[p]?=some e) (h:Q e.2 s):wpAny (model prog w) A (setNextDrawn a p ep) Q E s:=by
 obtain⟨ob,hob,hx,hdd⟩:=S.obj;unfold setNextDrawn;refine Yp (WV hob hdd S.fit ?_)
 dsimp only
 rw[Yq (by simp),he];exact Yt h
def Ic {Q:Nat->Shared->Prop}{src:Source}{m:Nat} (hm:m≠0) (h:∀k d,k<m->Q k { s with drawn:=d }):wpAny (model prog w) A (choose src m) Q E s:=by
 intro Γ p hΓ;unfold choose;rw[Sem.wp_choose];exact⟨hm,h _ _ (Nat.mod_lt _ (Nat.pos_of_ne_zero hm))⟩
def Fe {α:Type}:∀(xs:List α) (k:Nat) (h:k<xs.length),(xs[k]::xs.eraseIdx k).Perm xs
 | x::r,0,_=>List.Perm.refl _
 | x::r,k+1,h=>by
  have hk:k<r.length:=by simpa using h
  have ih:=Fe r k hk;show(r[k]::x::r.eraseIdx k).Perm (x::r);exact(List.Perm.swap _ _ _).trans (List.Perm.cons _ ih)
def IV {α:Type}:∀(m:Nat) (xs:List α) (s:Shared) {Q:List α->Shared->Prop},xs.length=m->(∀ys d,ys.Perm xs->Q ys { s with drawn:=d })->wpAny (model prog w) A (drawOrder m xs) Q E s:=by
 intro m
 induction m with
 | zero=>
  intro xs s Q hl h;have e:xs=[]:=W7.mp hl;subst e;exact Yt (h [] s.drawn (List.Perm.refl _))
 | succ m ih=>
  intro xs s Q hl h;cases xs with
  | nil=>simp at hl
  | cons x r=>
   unfold drawOrder;refine Yp (Ic (by simp) fun k d hk=>?_);rw[Yo hk];refine Yp (ih _ _ (by rw[List.length_eraseIdx_of_lt hk];simpa using hl) fun ys d2 hp=>Yt ?_);exact h _ d2 ((List.Perm.cons _ hp).trans (Fe _ _ hk))
def SetAt.keep {h h':Heap} (S:SetAt w h a js es ep t) (k:∀o,h.get? a=some o->h'.get? a=some o):SetAt w h' a js es ep t:=by
 obtain⟨⟨o,ho,r⟩,b,c,d,e,f,g⟩:=S;exact⟨⟨o,k o ho,r⟩,b,c,d,e,f,g⟩
def Gw {Q:Value->Shared->Prop} (hit:SI s.heap I a first i n ep) (h:Q (.ref I) s):wpAny (model prog w) A (pyIter (.ref I)) Q E s:=by
 refine wpAny_pyIter_slot hit.typ AG (WM AG hit.typ RK ?_ (Ha _));show wpAny _ _ (ret (.ref I)) _ _ s;exact Yt ⟨_,rfl, "set_iterator",_,hit.typ,si_slot.lookup,h⟩
def CT (hh:A.handled=none) (I a:Addr) (hne:a≠I) (vs:List Value) (hl:vs.length=es.size) (sl:Nat->Nat)
  (nx:∀(A:Around) (E:Value->Shared->Prop) (s:Shared) (i:Nat) (Q:Option (Value×Nat)->Shared->Prop),i<=es.size->SetAt w s.heap a js es ep t->Q ((vs[i]?).map fun v=>(v,sl (i+1))) s->wpAny (model prog w) A (setNext a (sl i) i ep) Q E s) :
  Walks prog w A I [I,a] [I] es.size (fun i v=>vs[i]?=some v) (fun i h=>SI h I a (.int (sl i) 0) i es.size ep/\SetAt w h a js es ep t) where
 sub:=fun b hb=>by simp at hb;simp[hb]
 frame:=fun _ _ _ st k=>⟨st.1.at fun o e=>k I (by simp) o e,st.2.keep fun o e=>k a (by simp) o e⟩
 item:=fun i s Q E hi st fin=>by
  obtain⟨o,ho,hc,hd⟩:=id st.1;refine NA st.1 st.2 ?_;unfold Ph
  dsimp only
  rw[YY,YY,YY];refine Yp (nx _ _ s i _ (Q1 hi) st.2 ?_);have hi2:i<vs.length:=by omega
  rw[Yo hi2];show wpAny _ _ (do setField (.ref I) 0 (rawInt (sl (i+1)));setField (.ref I) 1 (rawInt ((i:Int)+1));ret vs[i]) _ _ s
  refine Yp (WD ho hd (by simp) ?_);have g1:=Wn (Obj.mapFields (·.setIfInBounds 0 (rawInt (sl (i+1):Int)))) ho (WE (Wq hd _));have d1:(Obj.mapFields (·.setIfInBounds 0 (rawInt (sl (i+1):Int))) o).data=.fields #[.int (sl (i+1)) 0,.int i 0,.ref a,.int es.size 0,.int ep 0]:=by rw[Wq hd];simp[rawInt]
  refine Yp (WD g1 d1 (by simp) ?_);have sb:=(Wu s.heap I (Obj.mapFields (·.setIfInBounds 0 (rawInt (sl (i+1):Int))))).trans (Wu _ I (Obj.mapFields (·.setIfInBounds 1 (rawInt ((i:Int)+1)))));refine Yt ⟨_,rfl,fin vs[i] _ s.toks (Yo hi2) ⟨?_,st.2.keep fun o e=>sb.extBut a o hne e⟩ fun b o hb e=>sb.extBut b o (fun z=>hb (by simp[z])) e⟩;exact SI.step1 (s:={ s with heap:=_ }) (x:=.none) g1 ((QC ..).trans hc) d1
 done:=fun s Q E st fin=>by
  obtain⟨o,ho,hc,hd⟩:=id st.1;refine NA st.1 st.2 ?_;unfold Ph
  dsimp only
  rw[YY,YY,YY];refine Yp (nx _ _ s es.size _ (Yx _) st.2 ?_);rw[WS (by omega)];exact DV hh ho hd (by simp) fun h' eb=>fin h' s.toks fun b o hb e=>eb b o (fun z=>hb (by simp[z])) e
 self:=fun _ _ _ _ st fin=>Gw st.1 fin
def ML (hh:A.handled=none) (I a T:Addr) (hne:a≠I) (hT:T≠I) (ps:List Nat) (hl:ps.length=es.size) (hps:∀p∈ps,p<es.size) (vs:List Value) (hvs:vs=ps.map fun p=>((es[p]?).map (·.2)).getD .none) :
  Walks prog w A I [I,a,T] [I] es.size (fun i v=>vs[i]?=some v) (fun i h=>SI h I a (.ref T) i es.size ep/\SetAt w h a js es ep t/\∃o,h.get? T=some o/\∃c,o.data=.seq (ps.map fun(p:Nat)=>rawInt p).toArray c) where
 sub:=fun b hb=>by simp at hb;simp[hb]
 frame:=fun _ _ _ st k=>⟨st.1.at fun o e=>k I (by simp) o e,st.2.1.keep fun o e=>k a (by simp) o e,let ⟨o,ho,c⟩:=st.2.2;⟨o,k T (by simp) o ho,c⟩⟩
 item:=fun i s Q E hi st fin=>by
  obtain⟨o,ho,hc,hd⟩:=id st.1;obtain⟨oT,hoT,c,hdT⟩:=st.2.2;refine NA st.1 st.2.1 ?_;unfold Ph
  dsimp only
  refine Yp (wpAny_seqItems hoT hdT ?_);have hi2:i<ps.length:=by omega
  have e1:(ps.map fun(p:Nat)=>rawInt p).toArray[(i:Int).toNat]?=some (.int ps[i] 0):=by
   rw[YY,List.getElem?_toArray,Yz,Yo hi2];rfl
  have hp:=hps _ (YH hi2)
  dsimp only
  rw[e1]
  dsimp only
  have e2:es[ps[i]]?=some es[ps[i]]:=W1 hp;have e3:vs[i]?=some (es[ps[i]]).2:=by rw[hvs,Yz,Yo hi2];simp[hp]
  rw[YY,YY];refine Yp (Za6 st.2.1 e2 (Yp (WD ho hd (by simp) ?_)));have sb:=Wu s.heap I (Obj.mapFields (·.setIfInBounds 1 (rawInt ((i:Int)+1))));exact Yt ⟨_,rfl,fin _ _ s.toks e3 ⟨SI.step1 (x:=.none) ho hc hd,st.2.1.keep fun o e=>sb.extBut a o hne e,oT,sb.extBut T oT hT hoT,c,hdT⟩ fun b o hb e=>sb.extBut b o (fun z=>hb (by simp[z])) e⟩
 done:=fun s Q E st fin=>by
  obtain⟨o,ho,hc,hd⟩:=id st.1;obtain⟨oT,hoT,c,hdT⟩:=st.2.2;refine NA st.1 st.2.1 ?_;unfold Ph
  dsimp only
  refine Yp (wpAny_seqItems hoT hdT ?_)
  have e1:(ps.map fun(p:Nat)=>rawInt p).toArray[(es.size:Int).toNat]?=none:=by
   rw[YY,List.getElem?_toArray,Yz,WS (by omega)];rfl
  dsimp only
  rw[e1]
  dsimp only
  refine Yp (WD ho hd (by simp) ?_);have g1:=Wn (Obj.mapFields (·.setIfInBounds 0 (rawInt 0))) ho (WE (Wq hd _));have sb:=Wu s.heap I (Obj.mapFields (·.setIfInBounds 0 (rawInt 0)));refine DV (s:={ s with heap:=_ }) hh g1 (Wq hd _) (by simp) fun h' eb=>fin h' s.toks fun b o hb e=>eb b o (fun z=>hb (by simp[z])) (sb.extBut b o (fun z=>hb (by simp[z])) e)
 self:=fun _ _ _ _ st fin=>Gw st.1 fin
def Za1 {α:Type} (nx:Nat->Nat):∀(m k:Nat) (left:List α) (out:Array α),left.length=m->(pickOrder.go nx m k left out).toList.Perm (out.toList++left):=by
 intro m
 induction m with
 | zero=>
  intro k left out hl;have e:left=[]:=W7.mp hl;subst e;show out.toList.Perm (out.toList++[]);rw[We]
 | succ m ih=>
  intro k left out hl;have hlt:nx k % left.length<left.length:=Nat.mod_lt _ (by omega);unfold pickOrder.go;rw[Yo hlt]
  dsimp only
  refine(ih _ _ _ (by rw[List.length_eraseIdx_of_lt hlt];omega)).trans ?_;rw[Array.toList_push,Vi];exact(Fe left _ hlt).append_left _
def D1 {α:Type} (nx:Nat->Nat) (xs:Array α):(pickOrder nx xs).toList.Perm xs.toList:=by
 have:=Za1 nx xs.size 0 xs.toList #[] (by simp)
 simpa [pickOrder] using this
def slotAt (t:SetTable) (i:Nat):Nat:=if i=0 then 0 else t.place.getD (i-1) 0+1
def GM {m:Nat} (h:t.fits m=true):t.place.size=m:=by
 simp only[SetTable.fits,Wm,beq_iff_eq] at h;exact h.1
def MJ (S:SetAt w s.heap a js es ep t) {i:Nat} (hi:i<=es.size):SetTable.below t.place (slotAt t i)=i:=by
 have hz:=GM S.fit;have R:=S.tab.ris.ris;refine OZ R (by omega) (fun k hk=>?_) fun k h1 h2=>?_
 ·unfold slotAt;rw[Yq (by omega)];by_cases e:k=i-1
  ·rw[e];omega
  ·have:=R k (i-1) (by omega) (by omega)
   omega
 ·unfold slotAt;by_cases h0:i=0
  ·rw[Yr h0];omega
  ·rw[Yq h0]
   have:=R (i-1) k (by omega) h2
   omega
def Zbv {Q:Value->Shared->Prop}{A':Around} (hh:A'.handled=none) (S:SetAt w s.heap a js es ep t)
  (fin:∀(I:Addr) (fp:List Addr) (vs:List Value) (St:Nat->Heap->Prop) (h1:Heap) (d1:Drawn),Walks prog w A' I fp [I] es.size (fun i v=>vs[i]?=some v) St->St 0 h1->(∀b∈fp,b=a\/s.heap.get? b=none)->vs.length=es.size->vs.Perm (es.toList.map (·.2))->
   s.heap.get? I=none->(∀b o,s.heap.get? b=some o->h1.get? b=some o)->Q (.ref I) { s with heap:=h1,drawn:=d1 }) :
  wpAny (model prog w) A (pyIter (.ref a)) Q E s:=by
 obtain⟨ob,hob,hx,hdd⟩:=S.obj;have hT:s.TypeIs (.ref a) "set":=⟨ob,hob,hx.1⟩;have ha:a<s.heap.objs.size:=Y3 hob
 have new:∀b,s.heap.objs.size<=b->s.heap.get? b=none:=fun b hb=>by
  cases e:s.heap.get? b with
  | none=>rfl
  | some o=>exact absurd (Y3 e) (QW.mpr hb)
 refine wpAny_pyIter_slot hT F.slot_set_iter (WM F.slot_set_iter hT Of ?_ (F.args_set_iter_1 _));unfold Builtin.«frozenset.__iter__»;show wpAny _ _ (Builtin.Frozenset.sizeOf a >>= _) _ _ s;unfold Builtin.Frozenset.sizeOf;refine Yp (Yp (wpAny_setEntries_of hob hdd S.fit (Yt ?_)));refine Yp ?_;unfold setDrawn;refine Yp (WV hob hdd S.fit (Yp (N9 (Yt ?_))))
 dsimp only
 change wpAny _ _ (if (!Xt w&&(!t.plain&&decide (es.size>1)))=true then _ else _) _ _ _;cases hd:(!Xt w&&(!t.plain&&decide (es.size>1))) with
 | false=>
  rw[Yq (by decide)];refine Yp (Yt (Yp (wpAny_setEpoch_of hob hdd S.fit (Yp (Wl (Yt ⟨_,rfl, "set_iterator",_,⟨_,Y6 _ rfl,rfl⟩,si_slot.lookup,?_⟩))))));have hne:a≠s.heap.objs.size:=YL ha;have S1:SetAt w (s.heap.push { cls:=.type "set_iterator",data:=.fields [rawInt 0,rawInt 0,.ref a,rawInt es.size,rawInt ep].toArray }) a js es ep t:=S.keep fun o e=>Yu _ e
  have lt:∀b∈[s.heap.objs.size,a],b=a\/s.heap.get? b=none:=fun b hb=>by
   rcases Y5.mp hb with rfl|hb
   ·exact .inr (new _ (Yx _))
   ·exact .inl (Y0.mp hb)
  cases hb:Xt w with
  | true=>
   have hl:((pickOrder (w.params.setOrder a ep) es).toList.map (·.2)).length=es.size:=by
    rw[Yn,(D1 _ _).length_eq];simp
   refine fin _ _ _ _ _ s.drawn (CT (t:=t) (js:=js) (ep:=ep) hh s.heap.objs.size a hne ((pickOrder (w.params.setOrder a ep) es).toList.map (·.2)) hl (fun _=>0) fun A E s i Q hi S' q=>RT S' hb ?_) ⟨⟨_,Y6 _ rfl,rfl,rfl⟩,S1⟩ lt hl ((D1 _ _).map _) (new _ (Yx _)) fun b o e=>Yu _ e;rw[Yz] at q;rw[←Ww];cases e:(pickOrder (w.params.setOrder a ep) es).toList[i]? with
   | none=>rw[e] at q;exact q
   | some x=>rw[e] at q;exact q
  | false=>
   have hp:(!t.plain&&decide (es.size>1))=false:=by rw[hb] at hd;simpa using hd
   refine fin _ _ _ _ _ s.drawn (CT (t:=t) (js:=js) (ep:=ep) hh s.heap.objs.size a hne (es.toList.map (·.2)) (by simp) (slotAt t) fun A E s i Q hi S' q=>MK S' hb hp ?_) ⟨⟨_,Y6 _ rfl,rfl,rfl⟩,S1⟩ lt (by simp) (List.Perm.refl _) (new _ (Yx _)) fun b o e=>Yu _ e;rw[MJ S' hi];have hz:=GM S'.fit;rw[Yz] at q;by_cases hlt:i<es.size
   ·have e1:es[i]?=some es[i]:=W1 hlt;have e2:t.place[i]?=some t.place[i]:=W1 (by omega);have e3:es.toList[i]?=some es[i]:=by rw[Ww];exact e1
    rw[e3] at q;rw[e1,e2]
    have e4:slotAt t (i+1)=t.place[i]+1:=by
     unfold slotAt;rw[Yq (by omega)]
     have:i<t.place.size:=by omega
     simp[Array.getD,this]
    have q':Q (some (es[i].2,slotAt t (i+1))) s:=q;rw[e4] at q';exact q'
   ·have e1:es[i]?=none:=QG (by omega);have e3:es.toList[i]?=none:=by rw[Ww];exact e1
    rw[e3] at q;rw[e1];exact q
 | true=>
  rw[Yr rfl];refine Yp (IV _ _ s (by simp) fun ps d hp=>?_);have hl:ps.length=es.size:=by rw[hp.length_eq];simp
  have hps:∀p∈ps,p<es.size:=fun p hm=>List.mem_range.mp (hp.mem_iff.mp hm);refine Yp (Wl ?_ (by show(ps.map fun(i:Nat)=>rawInt i).toArray.size<=sizeLine;rw[Y8,Yn,hl];exact QB S.few));have hob1:=Yu { cls:=.type "tuple",data:=.seq (ps.map fun(i:Nat)=>rawInt i).toArray } hob;refine Yp (wpAny_setEpoch_of hob1 hdd S.fit (Yp (Wl (Yt ⟨_,rfl, "set_iterator",_,⟨_,Y6 _ rfl,rfl⟩,si_slot.lookup,?_⟩))));have zT:(s.heap.push { cls:=.type "tuple",data:=.seq (ps.map fun(i:Nat)=>rawInt i).toArray }).objs.size=s.heap.objs.size+1:=Qb ..
  have eq1:(List.range es.size).map (fun p=>((es[p]?).map (·.2)).getD Value.none)=es.toList.map (·.2):=by
   apply Vj;intro k;by_cases hk:k<es.size
   ·simp[hk]
   ·have:es.size<=k:=by omega
    simp[this]
  refine fin _ _ _ _ _ d (ML (t:=t) (js:=js) (ep:=ep) hh _ a s.heap.objs.size ?_ ?_ ps hl hps _ rfl) ⟨⟨_,Y6 _ rfl,rfl,rfl⟩,S.keep fun o e=>Yu _ (Yu _ e),_,Yu _ (Y6 _ rfl),0,rfl⟩ (fun b hb=>?_) (by rw[Yn];exact hl) ?_ (new _ ?_) fun b o e=>Yu _ (Yu _ e)
  ·show a≠_;rw[zT];exact YL (WW ha)
  ·show s.heap.objs.size≠_;rw[zT];exact YL (Qd _)
  ·rcases Y5.mp hb with rfl|hb
   ·refine .inr (new _ ?_);show s.heap.objs.size<=_;rw[zT];exact QE _
   ·rcases Y5.mp hb with rfl|hb
    ·exact .inl rfl
    ·rw[Y0.mp hb];exact .inr (new _ (Yx _))
  ·rw[←eq1];exact hp.map _
  ·show s.heap.objs.size<=_;rw[zT];exact QE _
def Zed {Q:Bool->Shared->Prop} (hT:s.TypeIs (.ref a) "set") (h:Q false s):wpAny (model prog w) A (Builtin.List.listLengthHint (.ref a)) Q E s:=by
 unfold Builtin.List.listLengthHint;refine Yp (wpAny_specialOf hT F.slot_set_len.lookup ?_);generalize eid:("set.__len__" : String)=z
 wp_delta
 have sp:splitId z=some ("set","__len__"):=by subst eid;decide +kernel
 rw[sp];subst eid;refine Yp (wpAny_isInstance (T:="set") (b:=true) hT (by rw[isSubtype_type];kernel_rfl) (wpAny_ite_split (fun z=>absurd z (by decide)) fun _=>?_));exact wpAny_ite_split (fun _=>Yp (wpAny_typeOf hT (Yt h))) fun z=>absurd (by decide +kernel) z
def RP {R:Result->Shared->Prop} (hh:A.handled=none) (S:SetAt w s.heap a js es ep t) (D:Addr) (c:Nat) (res:Value) (hD:s.heap.get? D=some { cls:=.type "list",data:=.seq #[] c }) (hne:D≠a)
  (fin:∀(h':Heap) (tk:Nat) (d:Drawn) (vs:List Value) (c':Nat),vs.Perm (es.toList.map (·.2))->h'.get? D=some { cls:=.type "list",dict:=none,data:=.seq vs.toArray c',slots:=#[] }->(∀b o,b≠D->s.heap.get? b=some o->h'.get? b=some o)->R (.ok (.ret res)) { s with heap:=h',toks:=tk,drawn:=d }) :
  wpAny (model prog w) A.in1 (Builtin.List.listExtendWith (.ref D) (.ref a) res) (fun f s'=>match f with | .done f=>R (.ok f) s' | .again c'=>c'.quiet=true/\codeAny (model prog w) A c' R s') (fun e s'=>R (.error e) s') s:=by
 obtain⟨ob,hob,hx,hdd⟩:=S.obj;have hT:s.TypeIs (.ref a) "set":=⟨ob,hob,hx.1⟩;unfold Builtin.List.listExtendWith;refine Yp (wpAny_typeOf (T:="set") hT ?_);have n1:Builtin.List.listSameRef (.ref D) (.ref a)=false:=by simp[Builtin.List.listSameRef,hne]
 have n2:(Value.type "set" == Value.type "list")=false:=by decide
 have n3:(Value.type "set" == Value.type "tuple")=false:=by decide
 simp only[n1,n2,n3,Bool.or_false,Q5,QJ];refine Yp (Zbv (A':=A.in1) hh S fun I fp vs St h1 d1 W st0 flt hl hp hI keep=>?_);have hDI:D≠I:=fun z=>by rw[←z,hD] at hI;cases hI
 have loop:∀(h:Heap) (tk c1:Nat),St 0 h->(∀b o,b≠D->s.heap.get? b=some o->h.get? b=some o)->h.get? D=some { cls:=.type "list",data:=.seq #[] c1 }->D∉fp->
   codeAny (model prog w) A (.builtin "list.extend.loop" ⟨[.ref D,.ref I,res],[]⟩) R { s with heap:=h,toks:=tk,drawn:=d1 }:=fun h tk c1 st hk hD1 hDf=>by
  refine codeAny_extend_loopS W.toS (QB S.few) D hDf res es.size 0 _ #[] c1 rfl (Wy _) st hD1 (ItemsOf.nil _) fun s' acc c' hm hD' hacc=>?_
  have ev:acc.toList=vs:=by
   apply Vj;intro k;by_cases hk2:k<acc.size
   ·have e1:acc[k]?=some acc[k]:=W1 hk2;rw[Ww,e1];exact(hacc.2 k _ e1).symm
   ·rw[Ww,QG (by omega),WS (by have:=hacc.1;omega)]
  have e2:acc=vs.toArray:=by rw[←ev]
  rw[e2] at hD';rw[Moved.eq_with hm];refine fin s'.heap s'.toks d1 vs c' hp hD' fun b o hb e=>hm.heap b o (fun hmem=>?_) (hk b o hb e);rcases Y5.mp hmem with z|z
  ·exact hb z
  ·rw[Y0.mp z,hI] at e;cases e
 have hDf:D∉fp:=fun hm=>by
  rcases flt D hm with z|z
  ·exact hne z
  ·rw[hD] at z;cases z
 have hT1:Shared.TypeIs { s with heap:=h1,drawn:=d1 } (.ref a) "set":=⟨ob,keep _ _ hob,hx.1⟩
 refine Yp (Qz (Zed hT1 ?_));have hD1:=keep _ _ hD;refine wpAny_ite_split (fun _=>?_) fun _=>Yt ⟨QH F.plain_extend_loop _,loop _ _ c st0 (fun b o _ e=>keep b o e) hD1 hDf⟩;refine Yp (wpAny_rule (Yp (?_:wpAny _ _ (updateSeq D (·.push .none) >>= fun _=>updateSeq D (·.pop)) _ _ _)));refine Yp (wpAny_updateSeq hD1 rfl ?_);have hD2:=Wn (Obj.mapSeq (·.push Value.none)) hD1 rfl;refine wpAny_updateSeq (hz:=by seq_fits) hD2 rfl ?_;have hD3:=Wn (Obj.mapSeq (·.pop)) hD2 rfl
 have oth:∀b o,b≠D->h1.get? b=some o->((h1.update D (Obj.mapSeq (·.push Value.none))).update D (Obj.mapSeq (·.pop))).get? b=some o:=fun b o hb e=>
  (Ws _ _ (Ne.symm hb)).trans ((Ws _ _ (Ne.symm hb)).trans e)
 exact Yt ⟨QH F.plain_extend_loop _,loop _ _ _ (W.frame 0 _ _ st0 fun b hb o e=>oth b o (fun z=>hDf (z▸hb)) e) (fun b o hb e=>oth b o hb (keep b o e)) hD3 hDf⟩
def Ml {R:List Value->Shared->Prop} (hh:A.handled=none) (S:SetAt w s.heap a js es ep t)
  (fin:∀(h':Heap) (tk:Nat) (d:Drawn) (vs:List Value),vs.Perm (es.toList.map (·.2))->(∀b o,s.heap.get? b=some o->h'.get? b=some o)->s.heap.objs.size<h'.objs.size->R vs { s with heap:=h',toks:=tk,drawn:=d }) :
  wpAny (model prog w) A (collect (.ref a)) R E s:=by
 obtain⟨ob,hob,hx,hdd⟩:=S.obj;have hne:s.heap.objs.size≠a:=Vm (Y3 hob);unfold collect;refine Yp (wpAny_runValue (Qk entry_proto_collect' ?_));have u1:=WY (A:=A) PySem.F.plain_proto_collect ⟨[.ref a],[]⟩;rw[u1];refine(show wpAny _ A.in1 (newList [] >>= fun l=>again (.builtin "list.__iadd__" ⟨[l,.ref a],[]⟩)) _ _ s from Yp (Wl (Yt ⟨QH PySem.F.plain_list_iadd _,Qk entry_list_iadd' ?_⟩)))
 have u2:=WY (A:=A) PySem.F.plain_list_iadd ⟨[.ref s.heap.objs.size,.ref a],[]⟩;rw[u2];have g1:(s.heap.push { cls:=.type "list",data:=.seq ([]:List Value).toArray }).get? s.heap.objs.size=some { cls:=.type "list",data:=.seq #[] }:=Y6 _ rfl;show wpAny _ A.in1 (Builtin.List.listExtendWith (.ref s.heap.objs.size) (.ref a) (.ref s.heap.objs.size)) _ _ _
 have key:=RP (prog:=prog) (A:=A) (s:={ s with heap:=s.heap.push { cls:=.type "list",data:=.seq ([]:List Value).toArray } })
  (R:=fun q s'=>∃h' tk d vs c',q=.ok (.ret (.ref s.heap.objs.size))/\s'={ s with heap:=h',toks:=tk,drawn:=d }/\vs.Perm (es.toList.map (·.2))/\(∀b o,s.heap.get? b=some o->h'.get? b=some o)/\
   h'.get? s.heap.objs.size=some { cls:=.type "list",dict:=none,data:=.seq vs.toArray c',slots:=#[] }) hh (S.keep fun o e=>Yu _ e) s.heap.objs.size 0 (.ref s.heap.objs.size) g1 hne
  fun h' tk d vs c' hp hD hk=>⟨h',tk,d,vs,c',rfl,rfl,hp,fun b o e=>hk b o (YL (Y3 e)) (Yu _ e),hD⟩
 refine Wp key (fun f s' x=>?_) fun e s' x=>?_
 ·cases f with
  | done f=>
   obtain⟨h',tk,d,vs,c',e,rfl,hp,hk,hD⟩:=x;cases e
   refine(show wpAny _ A (load s.heap.objs.size >>= _) _ _ _ from Yp (wpAny_load hD (Yt ?_)))
   exact fin h' tk d vs hp hk (Y3 hD)
  | again c1=>
   refine⟨x.1,Qs x.2 fun q s2 y=>?_⟩;obtain⟨h',tk,d,vs,c',rfl,rfl,hp,hk,hD⟩:=y;refine(show wpAny _ A (load s.heap.objs.size >>= _) _ _ _ from Yp (wpAny_load hD (Yt ?_)))
   exact fin h' tk d vs hp hk (Y3 hD)
 ·obtain⟨_,_,_,_,_,e',_⟩:=x;cases e'
def DL:∀{l:List (Int×Value)},(∀e∈l,Ent e)->IntsAre (l.map (·.2)) (l.map keyOf)
 | [],_=>.nil
 | e::r,h=>by
  obtain⟨k,t,rfl⟩:=h e YK;exact .cons k t (DL fun x hx=>h x (YF _ hx))
def Ln {vs us:List Value} (p:vs.Perm us):∀{ns:List Int},IntsAre us ns->∃ms,IntsAre vs ms/\ms.Perm ns:=by
 induction p with
 | nil=>intro ns h;cases h;exact⟨[],.nil,List.Perm.refl _⟩
 | cons x _ ih=>
  intro ns h;cases h with
  | cons n t r=>
   obtain⟨ms,h1,h2⟩:=ih r;exact⟨n::ms,.cons n t h1,List.Perm.cons _ h2⟩
 | swap x y l=>
  intro ns h;cases h with
  | cons n t r=>
   cases r with
   | cons n' t' r'=>exact⟨n'::n::_,.cons n' t' (.cons n t r'),List.Perm.swap _ _ _⟩
 | trans _ _ ih1 ih2=>
  intro ns h;obtain⟨ms,h1,h2⟩:=ih2 h;obtain⟨ks,h3,h4⟩:=ih1 h1;exact⟨ks,h3,h4.trans h2⟩
def M8 {Q:Value->Shared->Prop} (hh:A.handled=none) (B:SetB w s.heap a js) (h64:js.length<64)
  (fin:∀(l:Addr) (h':Heap) (tk:Nat) (d:Drawn) (out:List Value) (ns:List Int) (e:Nat),IntsAre out ns->ns.Perm js->ns.Pairwise (·<=·)->s.heap.get? l=none->s.heap.objs.size<=l->h'.get? l=some { cls:=.type "list",data:=.seq out.toArray e }->
   (∀b o,s.heap.get? b=some o->h'.get? b=some o)->Q (.ref l) { s with heap:=h',toks:=tk,drawn:=d }) :
  wpAny (model prog w) A (call (.builtin "sorted") [.ref a]) Q E s:=by
 obtain⟨es,ep,t,S⟩:=B;refine Calls.call_function_entry kind_sorted plain_sorted entry_sorted (args_sorted1 _) ?_;unfold Builtin.«sorted»;refine Yp (m:=checkCount "sorted" 1 1 _) (Yt (Yp (Ml (A:=A.in1) hh S fun h1 tk d vs hp keep big=>?_)));obtain⟨ms,hI,hms⟩:=Ln hp (DL S.ent);have hms2:ms.Perm js:=hms.trans S.per;have hl:vs.length<64:=by rw[IntsAre.length hI,hms2.length_eq];exact h64
 refine Yp (wpAny_newList ?_ (by have:(64:Nat)<=sizeLine:=(by decide);omega));have g1:(h1.push (seqObj "list" vs.toArray 0)).get? h1.objs.size=some (seqObj "list" vs.toArray 0):=Y6 _ rfl;refine Yp (Qz (WM slot_list_sort ⟨_,g1,rfl⟩ entry_list_sort (list_sort_tree g1 hI hl fun out ns a1 a2 a3=>⟨_,rfl,?_⟩) (args_list_sort _)));obtain⟨e,he⟩:=sortedHeap_at (out:=out) g1;have hsz:s.heap.objs.size<=h1.objs.size:=Q1 big;refine Yt ⟨_,rfl,fin h1.objs.size _ tk d out.toList ns e a1 (a2.trans hms2) a3 ?_ hsz (by simpa [seqObj] using he) fun b o q=>?_⟩
 ·cases q:s.heap.get? h1.objs.size with
  | none=>rfl
  | some o=>exact absurd (Y3 (keep _ _ q)) (W5 _)
 ·have hlt:=Y3 (keep b o q);rw[sortedHeap_old (YL hlt) (by rw[size_push'];exact WW hlt)];exact Yu _ (keep b o q)
end
end SetR
namespace Own
open PySem PySem.Spec PyProof.Rows L2
def SetH (w:World) (l:Addr) (js:List Int):HO:=.ext fun h=>SetR.SetB w h l js
section
variable {X:Cx}
def Zan {P:Program}{w:World}{H:Hp}{h:Heap}{l:Addr}{js:List Int} (B:SetR.SetB w h l js):ObjOk P w H h l (SetH w l js):=by
 refine⟨B,?_,fun h1 h2 B1 k=>B1.at k⟩;obtain⟨es,ep,t,S⟩:=B;obtain⟨o,ho,_⟩:=S.obj;exact⟨o,ho⟩
def Zcu (hc:X.calm=true):UF X (.type "set") (fun xs H Q=>∃(p:Addr) (ns:List Int),xs=[.ref p]/\SqL X.K H p (ns.map V.int)/\ns.length+1<4096/\∀l,H l=none->Q (.ref l) (upd H l (SetH X.w l (ns.foldl SetR.addJ [])))):=by
 intro pins s σ H xs us Q I rv h;obtain⟨p,ns,rfl,hS,hz,q⟩:=h;obtain⟨u,rfl,ru⟩:=rv.one;obtain rfl:u=Value.ref p:=ru;obtain⟨its,r,pl,_⟩:=I.list hS;refine SetR.GX (I.ok.hd hc) pl.isList (by simpa using NK r) hz fun h' tk B keep=>?_;have hf:H s.heap.objs.size=none:=I.hok.fresh (Yx _);exact⟨.ref s.heap.objs.size,upd H s.heap.objs.size (SetH X.w s.heap.objs.size _),I.laid (t':=tk) (fun b o e=>keep b o (Y3 e) e) (Yx _) (Zan B),rfl,q _ hf⟩
def EL (hc:X.calm=true):UF X (.builtin "sorted") (fun xs H Q=>∃(p:Addr) (js:List Int),xs=[.ref p]/\js.length<64/\(SqL X.K H p (js.map V.int)\/H p=some (SetH X.w p js))/\
  ∀(l:Addr) (ns:List Int),H l=none->ns.Perm js->ns.Pairwise (·<=·)->Q (.ref l) (upd H l (.lst (ns.map V.int)))):=by
 intro pins s σ H xs us Q I rv h;obtain⟨p,js,rfl,hz,hS,q⟩:=h;obtain⟨u,rfl,ru⟩:=rv.one;obtain rfl:u=Value.ref p:=ru
 have big:∀{ns:List Int},ns.Perm js->(ns.map V.int).length<=sizeLine:=fun hp=>by
  rw[Yn,hp.length_eq]
  have:(64:Nat)<=sizeLine:=by decide
  omega
 rcases hS with hS|hS
 ·obtain⟨its,r,pl,_⟩:=I.list hS;have hI:IntsAre its js:=by simpa using NK r
  refine sorted_ints pl.isList hI (by rw[IntsAre.length hI];exact hz) fun out ns a1 a2 a3=>?_;obtain⟨e,he⟩:=sortedAll_at s.heap its out;have hf:H (s.heap.objs.size+1)=none:=I.hok.fresh (QE _);refine⟨.ref (s.heap.objs.size+1),upd H (s.heap.objs.size+1) (.lst (ns.map V.int)),I.laid (t':=s.toks) (fun b o e=>sortedAll_old e) (QE _) ⟨big a2,out.toList,e,N3 a1,?_⟩,rfl,q _ ns hf a2 a3⟩;simpa [seqObj] using he
 ·have B:SetR.SetB X.w s.heap p js:=(show ObjOk X.prog X.w H s.heap p (SetH X.w p js) from I.hok p _ hS).1
  refine SetR.M8 (I.ok.hd hc) B hz fun l h' tk d out ns e a1 a2 a3 nl hl he keep=>?_;have hf:H l=none:=I.hok.fresh hl;refine⟨.ref l,upd H l (.lst (ns.map V.int)),?_,rfl,q l ns hf a2 a3⟩;have ok:HOk X.prog X.w (upd H l (.lst (ns.map V.int))) h':=I.hok.laid keep hl ⟨big a2,out,e,N3 a1,he⟩;exact I.call (ch:=[]) (h':=h') (g':=s.gens) (d':=d) (t':=tk) (Un.laid keep hl hf) ok I.bare (fun b z=>absurd z (by simp))
end
section
variable {X:Cx}{K:Za}
def Es (hK:X.K=K:=by rfl):IxR X (fun x y H Q=>rIxL K x y H Q\/rIxT K x y H Q):=by subst hK;exact Zal
def OI (hK:X.K=K:=by rfl):UF X (.builtin "len") (fun xs H Q=>∃x n,xs=[x]/\LenV K x H n/\Q (.int n) H):=by subst hK;exact Zao
def Oc (hK:X.K=K:=by rfl):OpR X (compareOp .In) (rIn K false):=by subst hK;exact Zeg
def IQ (hK:X.K=K:=by rfl):OpR X (compareOp .NotIn) (rIn K true):=by subst hK;exact Zbm
def T4 {pos:Pos}{es:List Expr}{k:Nat}{t:TGs}{n:Nat} (hc:X.calm=true) (h:PGs X es t) (hK:X.K=K:=by rfl)
  (hn:(assignEach es X.env).length=n:=by rfl) (hst:(assignEach es X.env).findIdx? (·.1)=none:=by rfl):PG X (.Tuple es k pos) (gTup K n t):=by subst hK;exact RA hc h hn hst
end
section
variable {α:Type}{R:Hp->V->α->Prop}{φ:List (Option Nat)}{g:TG}{tc:TT}{te:TE}{σ:L2.St}{H1:Hp}{F:Hp->Prop}{D:Addr}
def IM {K:Za}{a:Addr}{xs:List V}{ds:List α} (f:α->Option V) (hS:SqL K H1 a xs) (hd:xs.length=ds.length) (hD:H1 D=none) (hz:ds.length<=sizeLine)
  (turn:∀(i:Nat) (x:V) (d:α) (H2:Hp),xs[i]?=some x->ds[i]?=some d->Same H1 H2->∀k:Option V->Hp->Prop,k (f d) H2->g x (atStart φ σ) H2 fun σ2 H4=>Sub (atStart φ σ) σ2/\tc σ2 H4 fun b H5=>if b=true then te σ2 H5 fun y H6=>k (some y) H6 else k none H5)
  (done:F (upd H1 D (.lst (ds.filterMap f)))) :
  ∃W:Nat->Nat->List V->Hp->Prop,(∃m,W 0 m [] (upd H1 D (.lst [])))/\
   ∀i m ys H2,W i m ys H2->((Itl K a).stop i H2/\F H2)\/((Itl K a).go i H2/\∀x H3,(Itl K a).yld i H2 x H3->g x (atStart φ σ) H3 fun σ2 H4=>Sub (atStart φ σ) σ2/\tc σ2 H4 fun b H5=>
    if b=true then te σ2 H5 fun y H6=>H6 D=some (.lst ys)/\ys.length<sizeLine/\∃m',m'<m/\W (i+1) m' (ys++[y]) (upd H6 D (.lst (ys++[y]))) else ∃m',m'<m/\W (i+1) m' ys H5):=by
 refine⟨fun i m ys H2=>m=ds.length-i/\i<=ds.length/\ys=(ds.take i).filterMap f/\H2=upd H1 D (.lst ys),⟨ds.length,by simp,Wy _,by simp,rfl⟩,?_⟩;rintro i m ys H2 ⟨rfl,hi,rfl,rfl⟩;have S2:Same H1 (upd H1 D (.lst ((ds.take i).filterMap f))):=UB hD;by_cases hlt:i<ds.length
 ·refine .inr ⟨⟨xs,xs[i]'(by omega),S2.seq hS,by simp[hd,hlt]⟩,fun x H3 y=>?_⟩;obtain⟨e,y⟩:=y;subst e;have hx:=y xs (S2.seq hS);have ed:ds[i]?=some ds[i]:=Yo hlt
  refine turn i x ds[i] _ hx ed S2 (fun o H'=>match o with
   | some y=>H' D=some (.lst ((ds.take i).filterMap f))/\((ds.take i).filterMap f).length<sizeLine/\∃m',m'<ds.length-i/\(m'=ds.length-(i+1)/\i+1<=ds.length/\(ds.take i).filterMap f++[y]=(ds.take (i+1)).filterMap f/\upd H' D (.lst ((ds.take i).filterMap f++[y]))=upd H1 D (.lst ((ds.take i).filterMap f++[y])))
   | none=>∃m',m'<ds.length-i/\(m'=ds.length-(i+1)/\i+1<=ds.length/\(ds.take i).filterMap f=(ds.take (i+1)).filterMap f/\H'=upd H1 D (.lst ((ds.take i).filterMap f)))) ?_
  have et:ds.take (i+1)=ds.take i++[ds[i]]:=Wf hlt;cases ef:f ds[i] with
  | some y=>
   refine⟨Uj,?_,ds.length-(i+1),by omega,rfl,hlt,?_,O2⟩
   ·have h1:=Q6 f (ds.take i);rw[Wr] at h1;omega
   ·rw[et,Qu];simp[ef]
  | none=>
   refine⟨ds.length-(i+1),by omega,rfl,hlt,?_,rfl⟩;rw[et,Qu];simp[ef]
 ·have e:i=ds.length:=by omega
  subst e;refine .inl ⟨⟨xs,S2.seq hS,by omega⟩,?_⟩;rw[Qf];exact done
end
def eqL (xs ys:List V):Bool:=decide (xs.length=ys.length)&&(List.range xs.length).all fun j=>eqV (xs.getD j .non) (ys.getD j .non)
def rEqL (K:Za) (neg:Bool):R2:=fun x y H Q=>∃(p q:Addr) (xs ys:List V),x=.ref p/\y=.ref q/\SqL K H p xs/\SqL K H q ys/\xs.all Xe=true/\ys.all Xe=true/\Q (.bl (if neg then !eqL xs ys else eqL xs ys)) H
section
variable {X:Cx}
def Sk {A:Around}{s:Shared}{xs ys:List V}{us ws:List Value} (r1:Vals xs us) (r2:Vals ys ws) (f1:xs.all Xe=true) (f2:ys.all Xe=true) (j:Nat) (h1:j<us.toArray.size) (h2:j<ws.toArray.size) :
  SeqAt.EqAt A s us.toArray[j] ws.toArray[j] (eqV (xs.getD j .non) (ys.getD j .non)):=by
 have l1:=r1.length;have l2:=r2.length;have g1:j<us.length:=by simpa using h1
 have g2:j<ws.length:=by simpa using h2
 have k1:xs[j]?=some (xs[j]'(by omega)):=Yo _;have k2:ys[j]?=some (ys[j]'(by omega)):=Yo _;obtain⟨u,eu,ru⟩:=r1.get k1;obtain⟨w,ew,rw'⟩:=r2.get k2
 have e1:us.toArray[j]=u:=by
  have:us[j]?=some us[j]:=Yo g1
  rw[this] at eu;simpa using Y2 eu
 have e2:ws.toArray[j]=w:=by
  have:ws[j]?=some ws[j]:=Yo g2
  rw[this] at ew;simpa using Y2 ew
 have d1:xs.getD j .non=xs[j]'(by omega):=by rw[Y1,k1];rfl
 have d2:ys.getD j .non=ys[j]'(by omega):=by rw[Y1,k2];rfl
 rw[e1,e2,d1,d2];exact EX ru rw' (Qe.mp f1 _ (YH _)) (Qe.mp f2 _ (YH _))
def Mx (hu:X.A.units<cLine):OpR X (compareOp .Eq) (rEqL X.K false):=by
 intro pins s σ H x y v u Q I rx ry h;obtain⟨p,q,xs,ys,rfl,rfl,hp,hq,f1,f2,k⟩:=h;obtain rfl:v=Value.ref p:=rx;obtain rfl:u=Value.ref q:=ry;obtain⟨us,r1,p1,_⟩:=I.list hp;obtain⟨ws,r2,p2,_⟩:=I.list hq;have l1:=r1.length;have l2:=r2.length;have k':Q (.bl (eqL xs ys)) H:=k;by_cases e:xs.length=ys.length
 ·refine SeqAt.eq_listAt p1.isList p2.isList (by simp;omega) hu (fun j h1 h2=>Sk r1 r2 f1 f2 j h1 h2) ⟨.bl (eqL xs ys),H,I,?_,k'⟩;show _=Value.bool (eqL xs ys);unfold eqL;rw[Ys e,Qi,Y8,←l1]
 ·refine SeqAt.eq_list_lengthsAt p1.isList p2.isList (by simp;omega) hu ⟨.bl (eqL xs ys),H,I,?_,k'⟩;show _=Value.bool (eqL xs ys);unfold eqL;rw[YB e];rfl
def Zeh (hu:X.A.units<cLine):OpR X (compareOp .NotEq) (rEqL X.K true):=by
 intro pins s σ H x y v u Q I rx ry h;obtain⟨p,q,xs,ys,rfl,rfl,hp,hq,f1,f2,k⟩:=h;obtain rfl:v=Value.ref p:=rx;obtain rfl:u=Value.ref q:=ry;obtain⟨us,r1,p1,_⟩:=I.list hp;obtain⟨ws,r2,p2,_⟩:=I.list hq;have l1:=r1.length;have l2:=r2.length;have k':Q (.bl (!eqL xs ys)) H:=k;by_cases e:xs.length=ys.length
 ·refine SeqAt.RcNeAt.lists p1.isList p2.isList (by simp;omega) hu (fun j h1 h2=>Sk r1 r2 f1 f2 j h1 h2) _ _ _ _ ⟨.bl (!eqL xs ys),H,I,?_,k'⟩;show _=Value.bool (!eqL xs ys);unfold eqL;rw[Ys e,Qi,Y8,←l1]
 ·refine SeqAt.RcNeAt.lists_lengths p1.isList p2.isList (by simp;omega) hu _ _ _ _ ⟨.bl (!eqL xs ys),H,I,?_,k'⟩;show _=Value.bool (!eqL xs ys);unfold eqL;rw[YB e];rfl
def Fk {xs:List Int}{us:List Value} (r:Vals (xs.map V.int) us) (z:Int):∀(j:Nat) (h1:j<us.length) (h2:j<xs.length),Value.isInt z us[j]=(xs[j]==z):=by
 intro j h1 h2;obtain⟨u,eu,t,rfl⟩:=r.get (x:=V.int xs[j]) (i:=j) (by rw[Yz,Yo h2];rfl);rw[Yo h1] at eu;rw[Y2 eu];simp[Value.isInt]
def Hi {xs:List Int}{us:List Value} (r:Vals (xs.map V.int) us) (z:Int) (t:Tok):∀y,y∈us.toArray->MeetsSeq.EqGives y (.int z t) (Value.isInt z y):=by
 intro y hy;obtain⟨j,hj,rfl⟩:=W6.mp (by simpa using hy:y∈us);have l1:=r.length;rw[Yn] at l1;rw[Fk r z j hj (by omega)];obtain⟨u,eu,t',rfl⟩:=r.get (x:=V.int (xs[j]'(by omega))) (i:=j) (by rw[Yz,Yo (show j<xs.length by omega)];rfl);rw[Yo hj] at eu;rw[Y2 eu];exact MeetsSeq.EqGives.int _ _ _ _
def NW (K:Za):V->List V->Hp->VK->Prop:=fun x vs H Q=>∃(l:Addr) (xs:List Int) (z:Int),x=.ref l/\vs=[.int z]/\SqL K H l (xs.map V.int)/\z∈xs/\Q (.int (xs.idxOf z:Nat)) H
def Mz:MtM X "list.index" (NW X.K):=by
 intro pins s σ H x vs v us Q I rx rv h;obtain⟨l,xs,z,rfl,rfl,hS,hz,q⟩:=h;cases rx
 obtain⟨u,rfl,t,rfl⟩:=rv.one;obtain⟨its,r,p1,hsz⟩:=I.list hS;obtain⟨o,n,ho,hc,hdn,hd⟩:=p1;obtain⟨c1,d1,dt1,sl1⟩:=o;simp only at hc hdn hd;subst hc hdn hd;have l1:=r.length;rw[Yn] at l1;have hj:xs.idxOf z<xs.length:=List.idxOf_lt_length_iff.mpr hz;have hb:xs.length<=2 ^ 24:=by rw[Yn] at hsz;exact hsz
 refine call_meets PySem.F.slot_list_index ⟨_,ho,rfl⟩ PySem.F.entry_list_index (PySem.F.args_list_index_2 _ _)
  (SeqAt.list_indexAt l its.toArray n none sl1 (.int z t) (Value.isInt z) (xs.idxOf z) (by simpa [←l1] using hj) (by omega) ?_ ?_) ⟨ho,fun y hy=>(Hi r z t y hy).at _ _,⟨.int (xs.idxOf z:Nat),H,I.tok _,⟨_,rfl⟩,q⟩⟩
 ·have e:=Fk r z (xs.idxOf z) (by omega) hj;show Value.isInt z its[xs.idxOf z]=true;rw[e];simpa using List.getElem_idxOf hj
 ·intro m hm hlt;have hm':m<its.length:=by simpa using hm
  have e:=Fk r z m hm' (by omega);show Value.isInt z its[m]=false;rw[e]
  have:=List.not_of_lt_findIdx (p:=(· == z)) (xs:=xs) (i:=m) hlt
  simpa using this
end
section
variable {X:Cx}{K:Za}
def Zce (hK:X.K=K:=by rfl):MtM X "list.index" (NW K):=by subst hK;exact Mz
def IE {o e:Expr}{es:List Expr}{to:TE}{t:TA}{name:Str}{apos cpos:Pos}{T id:String}{r:V->List V->Hp->VK->Prop} (pa:PlainAttrs T) (slot:Slot T name id) (hty:typeOf (.builtin id)=pure (.type "method_descriptor")) (hm:MtM X id r) (ho:PE X o to) (ha:PA X (e::es) t)
  (hK:X.K=K:=by rfl) (hbase:attributeBase o name X.env (eval o X.env)=eval o X.env:=by rfl)
  (hfew:((backTo cpos (starEach (e::es) X.env)).all (fun x=>!x.1)&&(backToKw cpos (keywordEach [] X.env)).all (fun x=>x.1.isSome)
   && decide ((e::es).length+([]:List Keyword).length+(if ([]:List Keyword).isEmpty then 0 else 1)<30))=true:=by rfl)
  (hline:(apos.endLine==cpos.line)=true:=by rfl) (hs:starEach (e::es) X.env=(false,eval e X.env)::starEach es X.env:=by rfl) (hplain:(backTo cpos (starEach es X.env)).any (·.1)=false:=by rfl) :
  PE X (.Call (.Attribute o name apos) (e::es) [] cpos) (tBM K T r to t):=by
 subst hK;exact XT pa slot hty hm ho ha hbase hfew hline hs hplain
end
def F0 (xs ys:List Int):eqL (xs.map V.int) (ys.map V.int)=decide (xs=ys):=by
 unfold eqL;rw[Yn,Yn];by_cases e:xs=ys
 ·subst e;rw[Ys rfl,Ys rfl,Qi,Qe];intro j hj;have hj':j<xs.length:=by simpa using hj
  rw[Y1,Yz,Yo hj'];show(xs[j]==xs[j])=true;simp
 ·rw[YB e];by_cases hl:xs.length=ys.length
  ·rw[Ys hl,Qi,Qq];intro hall;apply e;apply List.ext_getElem hl;intro j h1 h2
   have:=Qe.mp hall j (by simpa using h1)
   rw[Y1,Yz,Yo h1,Y1,Yz,Yo h2] at this;have h3:(xs[j]==ys[j])=true:=this;simpa using h3
  ·rw[YB hl];rfl
def K7 (xs:List Int):(xs.map V.int).all Xe=true:=by
 rw[List.all_map];exact Qe.mpr fun _ _=>rfl
end Own
namespace M
open PySem PySem.Spec PyProof.Rows L2 Own
def LV {α:Type} (R:Hp->V->α->Prop) (H:Hp) (vs:List V) (xs:List α):Prop:=
 vs.length=xs.length/\∀(i:Nat) (x:α),xs[i]?=some x->∃v,vs[i]?=some v/\R H v x
def LAt {α:Type} (R:Hp->V->α->Prop) (H:Hp) (l:Addr) (xs:List α):Prop:=∃vs,H l=some (.lst vs)/\LV R H vs xs
def Xk (H:Hp) (v:V) (q:Int×Int):Prop:=∃a,v=.ref a/\H a=some (.tup [.int q.1,.int q.2])
section
variable {α:Type}{R:Hp->V->α->Prop}{H H':Hp}{vs:List V}{xs:List α}{l:Addr}
def LV.get {i:Nat}{v:V} (h:LV R H vs xs) (e:vs[i]?=some v):∃x,xs[i]?=some x/\R H v x:=by
 have hi:i<xs.length:=by rw[←h.1];exact(YG.mp e).1
 obtain⟨v',e',r⟩:=h.2 i xs[i] (by simp[hi]);rw[e] at e';cases e';exact⟨_,by simp[hi],r⟩
end
def Menu (m:List Int):Prop:=∃a b c d e:Int,m=[a,b,c,d,e]/\(1<=a/\a<=10)/\(1<=b/\b<=9/\(b=1\/b=3\/b=7\/b=9))/\(0<=c/\c<=9)/\(1<=d/\d<=1000)/\(1<=e/\e+d<=1001)
def Field (ps:List (Int×Int)):Prop:=∀q∈ps,1<=q.1/\q.1<=10/\1<=q.2/\q.2<=1000
def MY (js:List Int) (k z:Int):z∈SetR.addJ js k↔z∈js\/z=k:=by
 unfold SetR.addJ;split
 ·rename_i h;constructor
  ·exact fun x=>.inl x
  ·rintro(x|rfl)
   ·exact x
   ·exact h
 ·simp
def DT:∀(ns js:List Int) (z:Int),z∈ns.foldl SetR.addJ js↔z∈js\/z∈ns
 | [],js,z=>by simp
 | n::r,js,z=>by
  rw[List.foldl_cons,DT r,MY,Y5];constructor
  ·rintro((h|h)|h)
   ·exact .inl h
   ·exact .inr (.inl h)
   ·exact .inr (.inr h)
  ·rintro(h|h|h)
   ·exact .inl (.inl h)
   ·exact .inl (.inr h)
   ·exact .inr h
def Zcp {js:List Int} (k:Int) (h:js.Nodup):(SetR.addJ js k).Nodup:=by
 unfold SetR.addJ;split
 ·exact h
 ·rename_i hk;exact W8.mpr ⟨h,by simp,fun x hx y hy=>by rw[Y0.mp hy];rintro rfl;exact hk hx⟩
def DS:∀(ns:List Int) {js:List Int},js.Nodup->(ns.foldl SetR.addJ js).Nodup
 | [],_,h=>h
 | n::r,js,h=>DS r (Zcp n h)
def G9:∀(ns js:List Int),(ns.foldl SetR.addJ js).length<=js.length+ns.length
 | [],js=>by simp
 | n::r,js=>by
  have h1:=G9 r (SetR.addJ js n)
  have h2:(SetR.addJ js n).length<=js.length+1:=by
   unfold SetR.addJ;split
   ·omega
   ·simp
  rw[List.foldl_cons,YC];omega
def CU {l:List Int} (h:l.Pairwise (·<=·)) (n:l.Nodup):l.Pairwise (· < ·):=by
 have:=h.and n
 exact this.imp fun {a b} h=>by have:=h.1;have:=h.2;omega
def Ay {l₁ l₂:List Int} (h1:l₁.Pairwise (· < ·)) (h2:l₂.Pairwise (· < ·)) (h:∀z,z∈l₁↔z∈l₂):l₁=l₂:=by
 have n1:l₁.Nodup:=h1.imp fun {a b} h=>by omega
 have n2:l₂.Nodup:=h2.imp fun {a b} h=>by omega
 have p:l₁.Perm l₂:=(List.perm_ext_iff_of_nodup n1 n2).mpr h;exact p.eq_of_pairwise (le:=(· < ·)) (fun a b _ _ x y=>by omega) h1 h2
def tenL:List Int:=[1,2,3,4,5,6,7,8,9,10]
def Zbe {z:Int}:z∈tenL↔1<=z/\z<=10:=by
 unfold tenL;constructor
 ·intro h;simp only[Y5,QK,or_false] at h;omega
 ·rintro⟨h1,h2⟩;simp only[Y5,QK,or_false];omega
def JF (ps:List (Int×Int)):List Int:=tenL.filter fun h=>decide (h∈ps.map (·.1))
def KB (ps:List (Int×Int)):(JF ps).Pairwise (· < ·):=List.Pairwise.filter _ (by unfold tenL;decide)
def BM {ps:List (Int×Int)} (hF:Field ps) {z:Int}:z∈JF ps↔z∈ps.map (·.1):=by
 unfold JF;rw[YO,Qr,Zbe];constructor
 ·exact fun h=>h.2
 ·intro h;obtain⟨q,hq,rfl⟩:=YT.mp h
  have:=hF q hq
  exact⟨⟨this.1,this.2.1⟩,h⟩
def KM (ps:List (Int×Int)):(JF ps).length<=10:=by
 have:=Wk (fun h=>decide (h∈ps.map (·.1))) tenL
 exact this
def Oa {ps:List (Int×Int)}{ns:List Int} (hF:Field ps) (p:ns.Perm ((ps.map (·.1)).foldl SetR.addJ [])) (h:ns.Pairwise (·<=·)):ns=JF ps:=by
 have nd:ns.Nodup:=p.symm.nodup (DS _ Qc);refine Ay (CU h nd) (KB ps) fun z=>?_;rw[p.mem_iff,DT,BM hF];simp
def Dc (z:Int) (xs:List Int):inV (.int z) (xs.map V.int)=decide (z∈xs):=by
 unfold inV;rw[List.any_map]
 induction xs with
 | nil=>simp
 | cons x r ih=>
  rw[Qh,ih];show((x==z) || _)=_;by_cases e:x=z
  ·subst e;simp
  ·have:(x==z)=false:=by simpa using e
   rw[this];simp only[Bool.false_or];by_cases h:z∈r
   ·rw[Ys h,Ys (YF _ h)]
   ·rw[YB h,YB];intro hz;rcases Y5.mp hz with hz|hz
    ·exact e hz.symm
    ·exact h hz
def MU:tenL=(List.range 10).map fun(i:Nat)=>(1:Int)+(i:Int):=by decide
def OG {ps:List (Int×Int)}{os ns:List Int} (hp:os.Perm (JF ps)) (h1:ns.Perm os) (h2:ns.Pairwise (·<=·)):ns=JF ps:=by
 have nd:(JF ps).Nodup:=(KB ps).imp fun {a b} h=>by omega
 have p:=h1.trans hp;have nd2:ns.Nodup:=p.symm.nodup nd;exact Ay (CU h2 nd2) (KB ps) fun z=>p.mem_iff
section
variable (ps:List (Int×Int))
def tpM (y:Int):Nat->Int
 | 0=>0
 | j+1=>tpM y j+(if (ps.getD j (0,0)).1=y then(ps.getD j (0,0)).2 else 0)
def pcM (x y:Int):Nat->Int
 | 0=>0
 | k+1=>pcM x y k+(if x≠y/\(ps.getD k (0,0)).1=x then tpM ps y k*(ps.getD k (0,0)).2 else 0)
def ordM (n:Nat):List Int->Int
 | []=>0
 | a::r=>(r.map fun b=>pcM ps a b n).sum+ordM n r
def aftM (n:Nat) (h:Int):List Int->Int
 | []=>0
 | a::r=>if a=h then(r.map fun b=>tpM ps b n).sum else aftM n h r
def rsM (os:List Int) (h:Int):Nat->Int
 | 0=>0
 | j+1=>rsM os h j+(if os.idxOf h<os.idxOf (ps.getD j (0,0)).1 then(ps.getD j (0,0)).2 else 0)
def priM (os:List Int):Nat->Int
 | 0=>0
 | k+1=>priM os k+rsM ps os (ps.getD k (0,0)).1 k*(ps.getD k (0,0)).2
end
def FB {a b:Int}{r:List Int} (h:a≠b):(a::r).idxOf b=r.idxOf b+1:=by
 rw[List.idxOf_cons]
 have:(a==b)=false:=by simpa using h
 rw[this];rfl
def AW (f g:Int->Int) (l:List Int):(l.map fun b=>f b+g b).sum=(l.map f).sum+(l.map g).sum:=by
 induction l with
 | nil=>rfl
 | cons b r ih=>
  simp only[YA,WT];rw[ih];omega
def Tt {f g:Int->Int}{l:List Int} (h:∀b∈l,f b=g b):(l.map f).sum=(l.map g).sum:=by
 rw[List.map_congr_left h]
def Dv (l:List Int):(l.map fun _=>(0:Int)).sum=0:=by
 induction l with
 | nil=>rfl
 | cons b r ih=>simp only[YA,WT,ih];rfl
def OM (f:Int->Int) (w:Int) (l:List Int):(l.map fun b=>f b*w).sum=(l.map f).sum*w:=by
 induction l with
 | nil=>simp
 | cons b r ih=>
  simp only[YA,WT];rw[ih,Int.add_mul]
def MG {l:List Int} (h:Int) (w:Int) (nd:l.Nodup):(l.map fun b=>if h=b then w else 0).sum=if h∈l then w else 0:=by
 induction l with
 | nil=>simp
 | cons b r ih=>
  simp only[YA,WT];have hb:=(YX.mp nd).1;rw[ih (YX.mp nd).2];by_cases e:h=b
  ·subst e;rw[Yr rfl,Yq hb,Yr YK];omega
  ·rw[Yq e];by_cases hm:h∈r
   ·rw[Yr hm,Yr (YF _ hm)];omega
   ·rw[Yq hm,Yq]
    ·omega
    ·intro z;rcases Y5.mp z with z|z
     ·exact e z
     ·exact hm z
section
variable {ps:List (Int×Int)}
def A3 {n:Nat}:∀{os:List Int},(ps.getD n (0,0)).1∉os->ordM ps (n+1) os=ordM ps n os
 | [],_=>rfl
 | a::r,h=>by
  have h1:(ps.getD n (0,0)).1≠a:=fun z=>h (by rw[z];exact YK);have h2:(ps.getD n (0,0)).1∉r:=fun z=>h (YF _ z);simp only[ordM];rw[A3 h2];congr 1;apply Tt;intro b _;simp only[pcM];rw[Yq (fun z=>h1 z.2)];omega
def Dx {n:Nat}:∀{os:List Int},os.Nodup->(ps.getD n (0,0)).1∈os->ordM ps (n+1) os=ordM ps n os+aftM ps n (ps.getD n (0,0)).1 os*(ps.getD n (0,0)).2
 | [],_,h=>by cases h
 | a::r,nd,h=>by
  obtain⟨na,nr⟩:=YX.mp nd;simp only[ordM,aftM];by_cases e:a=(ps.getD n (0,0)).1
  ·rw[Yr e];have hr:(ps.getD n (0,0)).1∉r:=by rw[←e];exact na
   rw[A3 hr,←OM]
   have e2:(r.map fun b=>pcM ps a b (n+1)).sum=(r.map fun b=>pcM ps a b n+tpM ps b n*(ps.getD n (0,0)).2).sum:=by
    apply Tt;intro b hb;simp only[pcM];rw[Yr ⟨fun z=>na (by rw[z];exact hb),e.symm⟩]
   rw[e2,AW];omega
  ·rw[Yq e]
   have hr:(ps.getD n (0,0)).1∈r:=by
    rcases Y5.mp h with z|z
    ·exact absurd z.symm e
    ·exact z
   rw[Dx nr hr]
   have e2:(r.map fun b=>pcM ps a b (n+1)).sum=(r.map fun b=>pcM ps a b n).sum:=by
    apply Tt;intro b _;simp only[pcM];rw[Yq (fun z=>e z.2.symm)];omega
   rw[e2];omega
def DZ {n:Nat}{h:Int}:∀{os:List Int},(ps.getD n (0,0)).1∉os->aftM ps (n+1) h os=aftM ps n h os
 | [],_=>rfl
 | a::r,hn=>by
  have h2:(ps.getD n (0,0)).1∉r:=fun z=>hn (YF _ z);simp only[aftM];rw[DZ h2]
  have e2:(r.map fun b=>tpM ps b (n+1)).sum=(r.map fun b=>tpM ps b n).sum:=by
   apply Tt;intro b hb;simp only[tpM];rw[Yq (fun z=>h2 (by rw[z];exact hb))];omega
  rw[e2]
def CL {n:Nat}{h:Int}:∀{os:List Int},os.Nodup->h∈os->(ps.getD n (0,0)).1∈os->
  aftM ps (n+1) h os=aftM ps n h os+(if os.idxOf h<os.idxOf (ps.getD n (0,0)).1 then(ps.getD n (0,0)).2 else 0)
 | [],_,hh,_=>by cases hh
 | a::r,nd,hh,hm=>by
  obtain⟨na,nr⟩:=YX.mp nd;generalize eg:(ps.getD n (0,0)).1=g at hm ⊢;generalize ew:(ps.getD n (0,0)).2=w at ⊢;simp only[aftM];by_cases e:a=h
  ·subst e;rw[Yr rfl,Yr rfl]
   have e2:(r.map fun b=>tpM ps b (n+1)).sum=(r.map fun b=>tpM ps b n+(if g=b then w else 0)).sum:=by
    apply Tt;intro b _;simp only[tpM];rw[eg,ew]
   rw[e2,AW,MG g w nr];have i0:(a::r).idxOf a=0:=by simp
   rw[i0];by_cases eq:g=a
   ·subst eq;rw[i0,Yq na,Yq (by omega)]
   ·have gr:g∈r:=by
     rcases Y5.mp hm with z|z
     ·exact absurd z eq
     ·exact z
    have:(a::r).idxOf g=r.idxOf g+1:=FB (Ne.symm eq)
    rw[this,Yr gr,Yr (by omega)]
  ·rw[Yq e,Yq e]
   have hr:h∈r:=by
    rcases Y5.mp hh with z|z
    ·exact absurd z.symm e
    ·exact z
   have ih1:(a::r).idxOf h=r.idxOf h+1:=FB e;by_cases eq:g=a
   ·subst eq;have i0:(g::r).idxOf g=0:=by simp
    rw[DZ (by rw[eg];exact na),i0,Yq (by omega)];omega
   ·have gr:g∈r:=by
     rcases Y5.mp hm with z|z
     ·exact absurd z eq
     ·exact z
    have ih2:(a::r).idxOf g=r.idxOf g+1:=FB (Ne.symm eq);rw[CL nr hr (by rw[eg];exact gr),eg,ew,ih1,ih2];congr 1;by_cases hlt:r.idxOf h<r.idxOf g
    ·rw[Yr hlt,Yr (by omega)]
    ·rw[Yq hlt,Yq (by omega)]
def Cj {os:List Int}{h:Int} (nd:os.Nodup) (hh:h∈os):∀(n:Nat),(∀j,j<n->(ps.getD j (0,0)).1∈os)->aftM ps n h os=rsM ps os h n
 | 0,_=>by
  have:∀l:List Int,aftM ps 0 h l=0:=by
   intro l
   induction l with
   | nil=>rfl
   | cons a r ih=>
    simp only[aftM,tpM];rw[Dv,ih];split<;>rfl
  rw[this];rfl
 | n+1,hm=>by
  rw[CL nd hh (hm n (by omega)),Cj nd hh n fun j hj=>hm j (by omega)];rfl
def DK {os:List Int} (nd:os.Nodup):∀(n:Nat),(∀j,j<n->(ps.getD j (0,0)).1∈os)->ordM ps n os=priM ps os n
 | 0,_=>by
  have:∀l:List Int,ordM ps 0 l=0:=by
   intro l
   induction l with
   | nil=>rfl
   | cons a r ih=>
    simp only[ordM,pcM];rw[Dv,ih];rfl
  rw[this];rfl
 | n+1,hm=>by
  rw[Dx nd (hm n (by omega)),DK nd n (fun j hj=>hm j (by omega)),Cj nd (hm n (by omega)) n fun j hj=>hm j (by omega)];rfl
end
end M
namespace ExcR
open PySem PySem.Spec PyProof.Rows L2
structure KeepX (fs ex:List Addr) (h h':Heap):Prop where
 keep:∀b o,h.get? b=some o->b∉fs->b∉ex->h'.get? b=some o
 slot:∀b o,h.get? b=some o->b∉ex->∃sl,h'.get? b=some { o with slots:=sl }
 size:h.objs.size<=h'.objs.size
def KeepX.trans {fs ex:List Addr}{h1 h2 h3:Heap} (a:KeepX fs ex h1 h2) (b:KeepX fs ex h2 h3):KeepX fs ex h1 h3:=
 ⟨fun c o e n m=>b.keep c o (a.keep c o e n m) n m,fun c o e m=>by
  obtain⟨s1,e1⟩:=a.slot c o e m;obtain⟨s2,e2⟩:=b.slot c _ e1 m;exact⟨s2,e2⟩,Y7 a.size b.size⟩
def KeepX.mono {fs fs' ex ex':List Addr}{h1 h2:Heap} (a:KeepX fs ex h1 h2) (hf:∀b∈fs,b∈fs') (hx:∀b∈ex,b∈ex'):KeepX fs' ex' h1 h2:=
 ⟨fun c o e n m=>a.keep c o e (fun z=>n (hf c z)) (fun z=>m (hx c z)),fun c o e m=>a.slot c o e fun z=>m (hx c z),a.size⟩
structure Trc (h:Heap) (e T:Addr) (cls fl:Value):Prop where
 ne:T≠e
 exc:∃oe vs,h.get? e=some oe/\oe.cls=cls/\oe.data=.fields vs/\vs[1]?=some (.ref T)
 ent:∃oT ts,h.get? T=some oT/\oT.data=.fields ts/\ts[3]?=some fl
section
variable {M:Model}{A:Around}{E:Value->Shared->Prop}{s:Shared}{base:Heap}{env:Env}{outer:List Env}{L e:Addr}
def GL {oe:Obj}{vs:Array Value}{head:Value}{hadNext:Bool}{Q:Unit->Shared->Prop} (hfr:A.frames=some (env::outer)) (hl:s.heap.FunFrames base (env::outer)) (hf:env.frame=some L)
  (he:s.heap.get? e=some oe) (hd:oe.data=.fields vs) (hsz:1<vs.size)
  (h:∀h' T,s.heap.objs.size<=T->Trc h' e T oe.cls (rawInt L)->KeepX (frs (env::outer)) [e] s.heap h'->Q () { s with heap:=h' }) :
  wpAny M A (do let a ←frameOf env;let pl ←entryPlaceOf L hadNext;let b ←EntryCells.newEntry head a .none (rawInt L) .none pl;setField (.ref e) 1 b) Q E s:=by
 have hene:e∉frs (env::outer):=fun hm=>by
  obtain⟨_,o,ho,hnf⟩:=hl.mem hm;rw[he] at ho;cases ho
  exact hnf vs hd
 refine Yp (wpAny_frameOf_fun hfr hl hf fun h1 s1=>Yp (wpAny_entryPlaceOf fun pl hpl=>?_));unfold EntryCells.newEntry newFields;refine Yp (Wl ?_ (hpl.sizeOk5 _ _ _ _ _));have he1:h1.get? e=some oe:=(s1.2.1 e hene).trans he;generalize eo:({ cls:=.type "traceback",dict:=none,data:=.fields ([head,.ref L,.none,rawInt L,.none]++(if pl.isEmpty then List.replicate 6 Value.none else pl)).toArray }:Obj)=ot;have he2:=Yu (h:=h1) ot he1;refine WD he2 hd hsz (h _ h1.objs.size (WG s1.1.symm) ?_ ?_)
 ·have ne1:h1.objs.size≠e:=Vm (Y3 he1);have d3:=Wq hd (·.setIfInBounds 1 (Value.ref h1.objs.size));refine⟨ne1,⟨_,_,Wn _ he2 (WE d3),QC _ _,d3,by simp[hsz]⟩,ot,_,?_,by rw[←eo],?_⟩
  ·exact(Ws _ _ (Ne.symm ne1)).trans (Y6 h1 (by rw[←eo];rfl))
  ·first
    | (simp;done)
    | (rcases hpl with rfl|⟨_,_,_,_,_,_,_,rfl⟩<;>simp)
 ·refine⟨fun b o q nb nx=>?_,fun b o q nx=>?_,?_⟩
  ·have hbe:b≠e:=fun z=>nx (by simp[z]);rw[Ws _ _ (Ne.symm hbe)];exact Yu _ ((s1.2.1 b nb).trans q)
  ·have hbe:b≠e:=fun z=>nx (by simp[z]);obtain⟨sl,q1⟩:=s1.2.2 b o q;exact⟨sl,by rw[Ws _ _ (Ne.symm hbe)];exact Yu _ q1⟩
  ·rw[Heap.size_update,Qb,s1.1];exact QE _
def O7 {oe:Obj}{vs:Array Value}{Q:Unit->Shared->Prop} (hfr:A.frames=some (env::outer)) (hl:s.heap.FunFrames base (env::outer)) (hf:env.frame=some L)
  (he:s.heap.get? e=some oe) (hd:oe.data=.fields vs) (h1:vs[1]?=some .none)
  (h:∀h' T,s.heap.objs.size<=T->Trc h' e T oe.cls (rawInt L)->KeepX (frs (env::outer)) [e] s.heap h'->Q () { s with heap:=h' }):wpAny M A (noteFrame (.ref e) env) Q E s:=by
 unfold noteFrame;simp only[hf];refine Yp (Vc he hd h1 ?_);rw[Yq (by decide)];exact GL hfr hl hf he hd (Q0.mp h1).1 h
def E3 {T:Addr}{cls fl:Value}{Q:Unit->Shared->Prop} (x:Trc s.heap e T cls fl) (h:∀h',Trc h' e T cls .none->KeepX [] [T] s.heap h'->Q () { s with heap:=h' }) :
  wpAny M A (setField (.ref T) 3 .none) Q E s:=by
 obtain⟨ne,⟨oe,vs,g1,g2,g3,g4⟩,oT,ts,k1,k2,k3⟩:=x;have hz:=(Q0.mp k3).1;refine WD k1 k2 hz (h _ ?_ ?_)
 ·have d3:=Wq k2 (·.setIfInBounds 3 Value.none);exact⟨ne,⟨oe,vs,(Ws _ _ ne).trans g1,g2,g3,g4⟩,_,_,Wn _ k1 (WE d3),d3,by simp[hz]⟩
 ·have ot:∀b,b≠T->(s.heap.update T (Obj.mapFields (·.setIfInBounds 3 Value.none))).get? b=s.heap.get? b:=fun b hb=>Ws _ _ (Ne.symm hb);exact⟨fun b o q _ nx=>(ot b fun z=>nx (by simp[z])).trans q,fun b o q nx=>⟨o.slots,(ot b fun z=>nx (by simp[z])).trans q⟩,WG (Heap.size_update ..).symm⟩
def Za9 {T:Addr}{cls:Value}{Q:Unit->Shared->Prop} (hfr:A.frames=some (env::outer)) (hl:s.heap.FunFrames base (env::outer)) (hf:env.frame=some L) (x:Trc s.heap e T cls .none)
  (h:∀h' T',s.heap.objs.size<=T'->Trc h' e T' cls (rawInt L)->KeepX (frs (env::outer)) [e,T] s.heap h'->Q () { s with heap:=h' }):wpAny M A (noteFrame (.ref e) env) Q E s:=by
 obtain⟨ne,⟨oe,vs,g1,g2,g3,g4⟩,oT,ts,k1,k2,k3⟩:=id x;unfold noteFrame;simp only[hf];refine Yp (Vc g1 g3 g4 ?_);rw[Yr (show(Value.ref T != Value.none)=true from by simp)]
 refine Yp (Vc k1 k2 k3 ?_);rw[Yq (show ¬((Value.none==rawInt L)=true) from by simp[rawInt])]
 refine Yp (E3 x fun h1 x1 K1=>?_)
 have hTf:T∉frs (env::outer):=fun hm=>by
  obtain⟨_,o,ho,hnf⟩:=hl.mem hm;rw[k1] at ho;cases ho
  exact hnf ts k2
 have hl1:h1.FunFrames base (env::outer):=hl.of_keeps fun b o q hnf=>⟨o,K1.keep b o q (by simp) (fun z=>by
  rw[Y0.mp z,k1] at q;cases q
  exact hnf ts k2),rfl⟩
 obtain⟨_,⟨oe1,vs1,p1,p2,p3,p4⟩,_⟩:=id x1;refine GL (s:={ s with heap:=h1 }) hfr hl1 hf p1 p3 (Q0.mp p4).1 fun h2 T' hT' x2 K2=>h h2 T' (Y7 K1.size hT') (by rw[←p2];exact x2) ?_
 exact(K1.mono (by simp) (by simp)).trans (K2.mono (fun _ z=>z) (by simp))
def CZ {T:Addr}{cls fl:Value}{Q:Unit->Shared->Prop} (x:Trc s.heap e T cls fl) (h:∀h',Trc h' e T cls .none->KeepX [] [T] s.heap h'->Q () { s with heap:=h' }) :
  wpAny M A (setFlight (.ref e) none) Q E s:=by
 obtain⟨ne,⟨oe,vs,g1,g2,g3,g4⟩,_⟩:=id x;unfold setFlight;refine Yp (Vc g1 g3 g4 ?_);rw[Yr (show(Value.ref T != Value.none)=true from by simp)]
 exact E3 x h
def Zcj {oe:Obj}{vs:Array Value}{Q:Unit->Shared->Prop} (hfr:A.frames=some (env::outer)) (hl:s.heap.FunFrames base (env::outer)) (hf:env.frame=some L)
  (he:s.heap.get? e=some oe) (hd:oe.data=.fields vs) (h1:vs[1]?=some .none)
  (h:∀h' T,s.heap.objs.size<=T->Trc h' e T oe.cls .none->KeepX (frs (env::outer)) [e] s.heap h'->Q () { s with heap:=h' }):wpAny M A (leaving env (.ref e)) Q E s:=by
 unfold leaving;refine Yp (O7 hfr hl hf he hd h1 fun h2 T hT x K=>CZ x fun h3 x3 K3=>h h3 T hT x3 ?_);refine⟨fun b o q nb nx=>K3.keep b o (K.keep b o q nb nx) (by simp) (fun z=>?_),fun b o q nx=>?_,Y7 K.size K3.size⟩
 ·rw[Y0.mp z] at q;exact absurd (Y3 q) (QW.mpr hT)
 ·obtain⟨sl,q2⟩:=K.slot b o q nx;exact⟨sl,K3.keep b _ q2 (by simp) (fun z=>by rw[Y0.mp z] at q;exact absurd (Y3 q) (QW.mpr hT))⟩
def Zda {T:Addr}{cls:Value}{Q:Unit->Shared->Prop} (hfr:A.frames=some (env::outer)) (hl:s.heap.FunFrames base (env::outer)) (hf:env.frame=some L) (x:Trc s.heap e T cls .none)
  (h:∀h' T',s.heap.objs.size<=T'->Trc h' e T' cls .none->KeepX (frs (env::outer)) [e,T] s.heap h'->Q () { s with heap:=h' }):wpAny M A (leaving env (.ref e)) Q E s:=by
 unfold leaving;refine Yp (Za9 hfr hl hf x fun h2 T' hT x2 K=>CZ x2 fun h3 x3 K3=>h h3 T' hT x3 ?_);refine⟨fun b o q nb nx=>K3.keep b o (K.keep b o q nb nx) (by simp) (fun z=>?_),fun b o q nx=>?_,Y7 K.size K3.size⟩
 ·rw[Y0.mp z] at q;exact absurd (Y3 q) (QW.mpr hT)
 ·obtain⟨sl,q2⟩:=K.slot b o q nx;exact⟨sl,K3.keep b _ q2 (by simp) (fun z=>by rw[Y0.mp z] at q;exact absurd (Y3 q) (QW.mpr hT))⟩
end
section
variable {P:Program}{w:World}{H H':Hp}{h h':Heap}{a:Addr}{o:HO}{fs ex:List Addr}
def has (x:ObjOk P w H h a o):∃u,h.get? a=some u:=by
 cases o with
 | lst xs=>exact let ⟨_,_,_,_,e⟩:=x;⟨_,e⟩
 | tup xs=>exact let ⟨_,_,_,u,e,_⟩:=x;⟨u,e⟩
 | dK kvs=>exact let ⟨_,_,_,_,u,_,_,e,_⟩:=x;⟨u,e⟩
 | dT kvs=>exact let ⟨_,_,_,_,u,_,_,e,_⟩:=x;⟨u,e⟩
 | set S n=>exact let ⟨u,_,_,_,e,_⟩:=x;⟨u,e⟩
 | ins C dx fs=>exact let ⟨_,_,_,e,_⟩:=x;⟨_,e⟩
 | own y=>exact x
 | xd fs=>exact let ⟨_,⟨u,_,_,e,_⟩,_⟩:=x;⟨u,e⟩
 | rng lo hi=>exact let ⟨_,_,_,e⟩:=x;⟨_,e⟩
 | frz ob u=>exact⟨_,x.1⟩
 | tbl ps=>exact⟨_,x⟩
 | met f y=>exact⟨_,x⟩
 | ext φ=>exact x.2.1
def Zdv (ok:HOk P w H h) (e:h.get? a=none):H a=none:=by
 cases q:H a with
 | none=>rfl
 | some o=>
  obtain⟨u,z⟩:=has (ok a o q);rw[e] at z;cases z
def D9 (ok:HOk P w H h) (k:KeepX fs ex h h') (hf:∀b∈fs,H b=none) (hx:∀b∈ex,H b=none):HOk P w H h':=fun a o e=>by
 refine(ok a o e).stay (fun b u hb q=>?_) (fun _ q=>q) (fun _ _ q=>q)
 have hn:H b≠none:=by
  rcases hb with rfl|hb
  ·rw[e];simp
  ·rw[hb];simp
 exact k.keep b u q (fun z=>hn (hf b z)) fun z=>hn (hx b z)
end
structure XAt (P:Program) (w:World) (outer:List Env) (H H':Hp) (s s':Shared) (a T C:Addr):Prop where
 os:s'.os=s.os
 bare:AllBare s'.gens
 un:Un (frs outer) [] H H' s.heap s'.heap
 hok:HOk P w H' s'.heap
 na:s.heap.get? a=none
 nT:s.heap.get? T=none
 fa:H' a=none
 fT:H' T=none
 tr:Trc s'.heap a T (.ref C) .none
def CXe (P:Program) (w:World):CXT:=fun outer H s E e s'=>∃a T C H',e=.ref a/\XAt P w outer H H' s s' a T C/\E (.ref C) none H'
section
variable {X:Cx}{pins:List (Addr×Obj)}{σ:L2.St}{H H':Hp}{s s':Shared}{a T C:Addr}
def ET {ex:List Addr}{h':Heap} (I:Inv X pins σ H s) (hex:X.ex=[]) (k:KeepX (frs X.stack) ex s.heap h') (hx:∀b∈ex,X.s₀.heap.get? b=none):Un X.fs [] X.H₀ H X.s₀.heap h':=by
 have B:=I.base;rw[hex] at B;have out:∀b o,X.s₀.heap.get? b=some o->b∉ex:=fun b o q z=>by rw[hx b z] at q;cases q
 have nl:∀b o,X.s₀.heap.get? b=some o->b∉X.fs->b∉frs X.stack:=fun b o q nf z=>by
  rcases Y5.mp (I.stkSub b z) with e|e
  ·have h1:=Y3 q;have h2:=I.ok.above;rw[e] at h1;exact absurd h1 (QW.mpr h2)
  ·exact nf e
 refine⟨fun b o q n nf ne=>k.keep b o (B.keep b o q n nf ne) (nl b o q nf) (out b o q),fun b o q n hf ne=>?_,fun b o q n ne=>B.free b o q n ne,fun b o q ne=>?_,B.tups,B.frzs,B.tbls⟩
 ·obtain⟨sl,q1⟩:=B.slot b o q n hf ne;obtain⟨sl2,q2⟩:=k.slot b _ q1 (out b o q);exact⟨sl2,q2⟩
 ·obtain⟨o1,q1⟩:=B.there b o q ne;obtain⟨sl2,q2⟩:=k.slot b _ q1 (out b o q);exact⟨_,q2⟩
def Tg {b:Addr} (I:Inv X pins σ H s) (hex:X.ex=[]) (e:s.heap.get? b=none):X.s₀.heap.get? b=none:=by
 cases q:X.s₀.heap.get? b with
 | none=>rfl
 | some o=>
  obtain⟨u,z⟩:=I.base.there b o q (by rw[hex];simp);rw[e] at z;cases z
variable {E:Value->Shared->Prop}
def RS (I:Inv X pins σ H s) (hex:X.ex=[]) (hst:X.stack=X.env::X.outer) (hfr:X.env.frame=some X.env.locals) (x:XAt X.prog X.w X.stack H H' s s' a T C) :
  wpAny (model X.prog X.w) X.A (leaving X.env (.ref a)) (fun _ s2=>∃T2,XAt X.prog X.w X.outer X.H₀ H' X.s₀ s2 a T2 C) E s':=by
 have J:Inv X pins σ H' s':=I.call' (ch:=[]) x.os x.un x.hok x.bare fun b z=>absurd z (by simp);have hF:=J.stack;have hA:=J.ok.frames;rw[hst] at hF hA;refine Zda hA hF hfr x.tr fun h2 T2 hT2 tr k=>⟨T2,J.os,J.bare,?_,?_,Tg I hex x.na,?_,x.fa,x.hok.fresh hT2,tr⟩
 ·exact ET J hex (by rw[hst];exact k) fun b hb=>by
   rcases Y5.mp hb with rfl|hb
   ·exact Tg I hex x.na
   ·rw[Y0.mp hb];exact Tg I hex x.nT
 ·refine D9 x.hok k (fun b hb=>J.stkFree b (by rw[hst];exact hb)) fun b hb=>?_;rcases Y5.mp hb with rfl|hb
  ·exact x.fa
  ·rw[Y0.mp hb];exact x.fT
 ·exact QO (Y7 J.sz hT2)
def Lb {h':Heap}{oe:Obj}{vs:Array Value} (I:Inv X pins σ H s) (hex:X.ex=[]) (hst:X.stack=X.env::X.outer) (hfr:X.env.frame=some X.env.locals) (keeps:∀b o,s.heap.get? b=some o->h'.get? b=some o)
  (new:s.heap.get? a=none) (he:h'.get? a=some oe) (hc:oe.cls=.ref C) (hd:oe.data=.fields vs) (h1:vs[1]?=some .none) :
  wpAny (model X.prog X.w) X.A (leaving X.env (.ref a)) (fun _ s2=>∃T2,XAt X.prog X.w X.outer X.H₀ H X.s₀ s2 a T2 C) E { s with heap:=h' }:=by
 have J:Inv X pins σ H { s with heap:=h' }:=I.call' (s':={ s with heap:=h' }) (ch:=[]) rfl (Un.kept keeps) (I.hok.kept keeps) I.bare fun b z=>absurd z (by simp)
 have hF:=J.stack;have hA:=J.ok.frames;rw[hst] at hF hA;have fa:=Zdv I.hok new;refine Zcj (s:={ s with heap:=h' }) hA hF hfr he hd h1 fun h2 T2 hT2 tr k=>⟨T2,J.os,J.bare,?_,?_,Tg I hex new,?_,fa,J.hok.fresh hT2,by rw[←hc];exact tr⟩
 ·exact ET J hex (by rw[hst];exact k) fun b hb=>by rw[Y0.mp hb];exact Tg I hex new
 ·exact D9 J.hok k (fun b hb=>J.stkFree b (by rw[hst];exact hb)) fun b hb=>by rw[Y0.mp hb];exact fa
 ·exact QO (Y7 J.sz hT2)
end
structure ErrCls (K:Za) (C:Addr):Prop where
 q:PySem.W.excIn K C [.type "ValueError",.type "Exception",.type "BaseException",.type "object"] "ValueError.__new__"=true
def ErrCls.obj {K:Za}{C:Addr}{h:Heap} (c:ErrCls K C) (k:K.In h):∃bm N nm q bs hdct sn sub ab col dd k0 k1 k2 k3 k5 mN,h.get? C=some (excClassObj nm q C N bs bm hdct sn sub ab col dd k0 k1 k2 k3 k5 "ValueError.__new__")/\h.Ns N mN/\mN "__init__"=none/\
  OwnTail h [.type "ValueError",.type "Exception",.type "BaseException",.type "object"] bm:=by
 have e:=c.q;unfold PySem.W.excIn at e;split at e
 next dd cd sl ho=>
  split at e
  next C1 bm k0 k1 k2 k3 n k5 hm hs=>
   simp only[Wm,beq_iff_eq,Vk] at e;obtain⟨⟨⟨⟨⟨e1,e2⟩,e3⟩,e4⟩,e5⟩,e6⟩:=e;subst e1 e2;have hg:=k _ _ ho;cases cd with
   | mk nm bs mro ns qn hd sn sub ab col del=>
    simp only at hm e3 e5 e6
    have hsl:sl=#[k0,k1,k2,k3,some (.builtin "ValueError.__new__"),k5]:=by
     cases sl with
     | mk l=>simp only at hs;rw[hs]
    rw[hm,e3,hsl] at hg;exact⟨bm,ns,nm,qn,bs,hd,sn,sub,ab,col,dd,k0,k1,k2,k3,k5,_,hg,.of_isNs (PySem.W.isNs_of_in k e5),PySem.W.nsMap_none_of_in k e5 e6,PySem.W.tail_of_in k e4⟩
  next=>cases e
 next=>cases e
abbrev TF:=L2.St->Hp->Str->(Str->Hp->Prop)->Prop
def PF (X:Cx) (es:List Expr) (t:TF):Prop:=
 ∀(pins:List (Addr×Obj)) (s:Shared) (σ:L2.St) (H:Hp) (out:Str) (Q:Str->Hp->Prop),Inv X pins σ H s->t σ H out Q->
  wpAny (model X.prog X.w) X.A (joinParts out (evalEach es X.env)) (fun u s'=>∃x H',Inv X pins σ H' s'/\RelV (.str x) u/\Q x H') X.xe s
section
variable {X:Cx}{e e1 e2:Expr}{es:List Expr}{t:TF}{tv:TE}{pos:Pos}
def fNil:TF:=fun _ H out Q=>out.length<=sizeLine/\Q out H
def fStr (x:Str) (t:TF):TF:=fun σ H out Q=>(out++x).length<=sizeLine/\t σ H (out++x) Q
def fVal (tv:TE) (t:TF):TF:=fun σ H out Q=>tv σ H fun v H1=>(∃i:Int,v=.int i/\i.natAbs.log2<1920/\(out++(Str.ofString (toString i))).length<=sizeLine/\t σ H1 (out++Str.ofString (toString i)) Q)\/
 ∃x:Str,v=.str x/\x.length<=sizeLine/\(out++x).length<=sizeLine/\t σ H1 (out++x) Q
def KZ:PF X [] fNil:=fun pins s σ H out Q I h=>joinParts_nilE (joinParts_nil ⟨out,H,I.tok _,⟨_,rfl⟩,h.2⟩ h.1)
def X5 {x:Str}{j} (h:PF X es t):PF X (.Constant (.str x) j pos::es) (fStr x t):=fun pins s σ H out Q I q=>
 joinParts_consE (joinParts_cons (Calls.Constant_str ⟨q.1,h pins _ σ H _ Q (I.tok _) q.2⟩))
def KC (hv:PE X e tv) (h:PF X es t):PF X (.FormattedValue e (-1) none pos::es) (fVal tv t):=fun pins s σ H out Q I q=>by
 refine joinParts_consE (joinParts_cons (FormattedValue_plain (thn (hv pins s σ H _ I q) fun u s1 ⟨v,H1,I1,r,q1⟩=>?_)));rcases q1 with⟨i,rfl,hs,hz,q2⟩|⟨x,rfl,hx,hz,q2⟩
 ·obtain⟨tk,rfl⟩:=r;exact formatField_int_small hs ⟨hz,h pins _ σ H1 _ Q (I1.tok _) q2⟩
 ·obtain⟨tk,rfl⟩:=r;exact formatField_str (fun t' tk'=>⟨hz,h pins _ σ H1 _ Q (I1.tok _) q2⟩) hx
def tF (t:TF):TE:=fun σ H Q=>t σ H Str.empty fun x H'=>Q (.str x) H'
def pe_f (h:PF X (e1::e2::es) t):PE X (.JoinedStr (e1::e2::es) pos) (tF t):=fun pins s σ H Q I q=>
 JoinedStr_many (thn (h pins s σ H _ _ I q) fun u s1 ⟨x,H1,I1,r,q1⟩=>⟨.str x,H1,I1,r,q1⟩)
end
def Cq (X:Cx) (E:XK):Prop:=∀(pins:List (Addr×Obj)) (σ:L2.St) (H:Hp) (s:Shared) (C a:Addr) (h':Heap) (args:List Value),Inv X pins σ H s->Heap.MadeExcOf s.heap h' a (.ref C) args->E (.ref C) none H->X.xe (.ref a) { s with heap:=h' }
def Dt (C:Addr) (E:XK) (t:TA):TS:=fun _ σ H=>t σ H fun vs H1=>vs.length<=sizeLine/\E (.ref C) none H1
section
variable {X:Cx}{x:Str}{C:Addr}{E:XK}{e:Expr}{es:List Expr}{t:TA}{p cpos pos:Pos}
def Xb (c:ErrCls X.K C) (hm:X.mg x=some (.ref C)) (hR:Cq X E) (hc:X.calm=true) (ha:PA X (e::es) t) (hg:Gl X x:=by rfl) (hdb:(x==("__debug__" : Str))=false:=by decide)
  (he:starEach (e::es) X.env=(false,eval e X.env)::starEach es X.env:=by rfl) (hpl:(backTo cpos (starEach es X.env)).any (·.1)=false:=by rfl):PS X (.Raise (some (.Call (.Name x p) (e::es) [] cpos)) none pos) (Dt C E t):=by
 intro pins s σ H D I h;obtain⟨bm,N,nm,q,bs,hdct,sn,sub,ab,col,dd,k0,k1,k2,k3,k5,mN,hC,hN,hni,hT⟩:=c.obj I.ok.mod.kin
 have hpl':(backTo cpos (starEach (e::es) X.env)).any (·.1)=false:=by
  rw[he];show(false || (backTo cpos (starEach es X.env)).any (·.1))=false;rw[hpl];rfl
 refine wpAny_Raise_call_subU (C:=C) (nm:=nm) (q:=q) (N:=N) (bs:=bs) (bm:=bm) (hdct:=hdct) (sn:=sn) (sub:=sub) (ab:=ab) (col:=col) (dd:=dd) (k0:=k0) (k1:=k1) (k2:=k2) (k3:=k3) (k5:=k5)
  PySem.F.excBase_ValueError (by decide +kernel) PySem.F.excBase_ValueError (hT.hasType (by decide +kernel)) (I.ok.hd hc) hpl' hni (Nw I hg hm ⟨rfl,?_⟩ hdb)
 have hA:=ha cpos pins s σ H _ I h;rw[he] at hA ⊢;refine Calls.evalArgs_plain (thn hA fun us s2 ⟨vs,H2,I2,r2,q1,q2⟩=>⟨rfl,by rw[←r2.length];exact q1,I2.bk _ _ hC,hN.keeps I2.bk,hT.keeps I2.bk,fun h' a hm'=>?_⟩);exact hR pins σ H2 s2 C a h' us I2 hm' q2
end
section
variable {P:Program}{w:World}{K:Za}{mg:Str->Option Value}{base:Heap}{N ps:List Str}{qual x:Str}{scope:Scope}{f:Addr}{cd:Value}{A:Around}{outer:List Env}{s:Shared}{H:Hp}{E:XK}
def UU:Cq (cxOf (CXe P w) P w K mg base N qual scope f cd A outer s H E) E:=by
 intro pins σ H1 s1 C a h' args I m q;obtain⟨t,ht,_,_⟩:=m.there;exact Wp (Lb I rfl rfl rfl m.keeps m.new ht rfl rfl rfl) (fun _ s3 ⟨T2,y⟩=>⟨a,T2,C,H1,rfl,y,q⟩) fun _ _ z=>z
def U1:Xx (CXe P w) (cxOf (CXe P w) P w K mg base N qual scope f cd A outer s H E) E:=by
 rintro pins σ H1 s1 e s2 I ⟨a,T,C,H',rfl,y,q⟩;exact Wp (RS I rfl rfl rfl y) (fun _ s3 ⟨T2,z⟩=>⟨a,T2,C,H',rfl,z,q⟩) fun _ _ z=>z
def Zea:PassesOwn (model P w) (cxOf (CXe P w) P w K mg base N qual scope f cd A outer s H E).A (cxOf (CXe P w) P w K mg base N qual scope f cd A outer s H E).env (cxOf (CXe P w) P w K mg base N qual scope f cd A outer s H E).xe:=PassesOwn.leaving
def Def.okX {st:Stmt}{k:Nat}{sp:Sp} (D:Own.Def K mg x st ps) (S:FnScope N ps (J5 st)) (len:∀vs H Q E,sp vs H Q E->vs.length=ps.length)
  (hbody:∀(f:Addr) (cdv:Value) (A:Around) (outer:List Env) (s:Shared) (H:Hp) (vs:List V) (Q:VK) (E:XK),Room k (A.deeper (envOfC x (J5 st) s.heap.objs.size f cdv))->sp vs H Q E->
   ∃t,PSs (cxOf (CXe P w) P w K mg base N x (J5 st) f cdv A outer s H E) (UH st) t/\t { nx:=fun _ H'=>Q .non H',rt:=Q } (start N vs) H):Own.Callee P w K mg base (CXe P w) (k+1) x ps sp:=by
 obtain⟨f,fd,F,hm,hb⟩:=D.ex;have kp:=F.kp;obtain⟨oc,od,kV,doc,pm,an,cdv,ct,osl,rfl,lk,hcd⟩:=F.ex;exact⟨f,_,Sz lk hcd S len fun A outer s H vs Q E hr hsp=>hbody f cdv A outer s H vs Q E hr hsp,hm,kp,⟨_,lk,rfl⟩,hb⟩
end
end ExcR
namespace ExcR
open PySem PySem.Spec PyProof.Rows L2
open Sem (wp)
structure ErrGet (K:Za) (C:Addr):Prop where
 c:ErrCls K C
 ga:PySem.W.findIn K (.ref C) "__getattribute__"=some (some (.builtin "BaseException.__getattribute__"))
 gt:PySem.W.findIn K (.ref C) "__getattr__"=some none
 cl:PySem.W.findIn K (.ref C) "__class__"=some (some (.builtin "object.__class__"))
 is:(PySem.W.clsIn K C).isSome=true
end ExcR
namespace ExcR
open PySem PySem.Spec PyProof.Rows L2
def ErrH (a C:Addr):HO:=.ext fun h=>∃o,h.get? a=some o/\o.cls=.ref C/\∃vs,o.data=.fields vs
def sufD (i:Nat) (D:Ends):Ends:={ nx:=fun σ H=>D.nx (σ.set i none) H,rt:=D.rt,bk:=fun σ H=>D.bk (σ.set i none) H,ct:=fun σ H=>D.ct (σ.set i none) H }
def hx (K:Za) (C0:Addr) (i:Nat) (ts:TS) (D:Ends):L2.St->XK:=fun σ c _ H=>∃C,c=.ref C/\ErrGet K C/\PySem.W.exmOne K (.ref C) (.ref C0)=some true/\
 ∀a,H a=none->ts (sufD i D) (σ.set i (some (.ref a))) (upd H a (ErrH a C))
def J3 (mg:Str->Option Value) (x:Str):Addr:=match mg x with
 | some (.ref C)=>C
 | _=>0
def FU {mg:Str->Option Value}{x:Str}{C:Addr} (h:mg x=some (.ref C)):J3 mg x=C:=by unfold J3;rw[h]
def Xn {X:Cx}{x:Str}{v:V}{pos:Pos} (h:∃u,X.mg x=some u/\RelV v u) (hg:Gl X x:=by rfl) (hd:(x==("__debug__" : Str))=false:=by decide):PE X (.Name x pos) (tC v):=by
 obtain⟨u,h1,h2⟩:=h;exact RN hg h1 h2 hd
end ExcR
namespace Own
open PySem PySem.Spec PyProof.Rows L2 M
section
variable {X:Cx}{pins:List (Addr×Obj)}{σ:L2.St}{H:Hp}{s:Shared}
def El {p:Int×Int}{its:List Value} (r:Vals [V.int p.1,V.int p.2] its):∃t1 t2,its=[.int p.1 t1,.int p.2 t2]:=by
 cases r with
 | cons r1 rr=>
  cases rr with
  | cons r2 r3=>
   cases r3
   obtain⟨t1,rfl⟩:=r1;obtain⟨t2,rfl⟩:=r2;exact⟨t1,t2,rfl⟩
def Zdi {A:Around}{x y:V}{p q:Int×Int}{u v:Value} (I:Inv X pins σ H s) (hu:A.units<cLine) (rx:RelV x u) (ry:RelV y v) (hp:Xk H x p) (hq:Xk H y q):SeqAt.EqAt A s u v (decide (p=q)):=by
 obtain⟨a,rfl,ha⟩:=hp;obtain⟨b,rfl,hb⟩:=hq;obtain rfl:u=Value.ref a:=rx;obtain rfl:v=Value.ref b:=ry;by_cases hab:a=b
 ·subst hab;rw[ha] at hb
  have e:p=q:=by
   injection hb with hb;injection hb with hb;injection hb with h1 h2;injection h2 with h2 _;exact Prod.ext (V.int.inj h1) (V.int.inj h2)
  rw[Ys e];exact SeqAt.EqAt.same _
 ·obtain⟨_,its,r1,t1⟩:=(show ObjOk X.prog X.w H s.heap a (.tup [.int p.1,.int p.2]) from I.hok a _ ha)
  obtain⟨_,jts,r2,t2⟩:=(show ObjOk X.prog X.w H s.heap b (.tup [.int q.1,.int q.2]) from I.hok b _ hb)
  obtain⟨k1,k2,rfl⟩:=El r1;obtain⟨k3,k4,rfl⟩:=El r2
  have h:=SeqAt.RcAt.tuples (A:=A) (s:=s) (e:=fun j=>if j=0 then p.1==q.1 else p.2==q.2) t1 t2 hu (fun j h1 h2=>by
   have hj:j=0\/j=1:=by
    have h1':j<2:=h1;omega
   rcases hj with rfl|rfl
   ·exact SeqAt.EqAt.int_int _ _ _ _
   ·exact SeqAt.EqAt.int_int _ _ _ _)
  have e:((List.range (min ([Value.int p.1 k1,Value.int p.2 k2].toArray).size ([Value.int q.1 k3,Value.int q.2 k4].toArray).size)).all (fun j=>if j=0 then p.1==q.1 else p.2==q.2)&&([Value.int p.1 k1,Value.int p.2 k2].toArray).size==([Value.int q.1 k3,Value.int q.2 k4].toArray).size)=decide (p=q):=by
   show((List.range 2).all (fun j=>if j=0 then p.1==q.1 else p.2==q.2)&&true)=decide (p=q);rw[Bool.and_true];have e2:(List.range 2).all (fun j=>if j=0 then p.1==q.1 else p.2==q.2)=((p.1==q.1)&&(p.2==q.2)):=by simp[List.range,List.range.loop]
   rw[e2];by_cases h1:p.1=q.1
   ·by_cases h2:p.2=q.2
    ·rw[Ys (Prod.ext h1 h2)];simp[h1,h2]
    ·rw[YB (fun z=>h2 (by rw[z]))];simp[h2]
   ·rw[YB (fun z=>h1 (by rw[z]))];simp[h1]
  rw[e] at h;exact SeqAt.EqAt.of_refs hab h
def eP (H:Hp) (q:Int×Int) (u:Value):Bool:=match u with
 | .ref a=>(match H a with
  | some (.tup [.int i,.int j])=>decide ((i,j)=q)
  | _=>false)
 | _=>false
def Ee {v:V}{u:Value}{p q:Int×Int} (h:Xk H v p) (r:RelV v u):eP H q u=decide (p=q):=by
 obtain⟨a,rfl,ha⟩:=h;obtain rfl:u=Value.ref a:=r;unfold eP;simp only[ha]
def B5 {q:Int×Int}:∀{vs:List V}{us:List Value}{ps:List (Int×Int)},Vals vs us->LV Xk H vs ps->us.any (eP H q)=decide (q∈ps)
 | _,_,[],.nil,_=>rfl
 | _,_,_::_,.nil,h=>absurd h.1 (by simp)
 | v::vs,u::us,[],.cons _ _,h=>absurd h.1 (by simp)
 | v::vs,u::us,p::ps,.cons r t,h=>by
  obtain⟨v',e,hv⟩:=h.2 0 p rfl;cases e
  have ht:LV Xk H vs ps:=⟨by simpa using h.1,fun i x e=>h.2 (i+1) x e⟩;rw[Qh,Ee hv r,B5 t ht];by_cases e1:p=q
  ·subst e1;simp
  ·by_cases e2:q∈ps
   ·simp[e1,e2]
   ·have:¬q=p:=fun z=>e1 z.symm
    simp[e1,e2,this]
def rInP (neg:Bool):R2:=fun x y H Q=>∃(l:Addr) (ps:List (Int×Int)) (q:Int×Int),y=.ref l/\Xk H x q/\LAt Xk H l ps/\Q (.bl (if neg then !decide (q∈ps) else decide (q∈ps))) H
def Fg {A:Around}{x:V}{v:Value}{q:Int×Int} (I:Inv X pins σ H s) (hu:A.units<cLine) (rx:RelV x v) (hx:Xk H x q):∀{vs:List V}{us:List Value}{ps:List (Int×Int)},Vals vs us->LV Xk H vs ps->∀u∈us,SeqAt.EqAt A s u v (eP H q u)
 | _,_,_,.nil,_,u,hu'=>by cases hu'
 | w::vs,u::us,[],.cons _ _,h,_,_=>absurd h.1 (by simp)
 | w::vs,u::us,p::ps,.cons r t,h,u',hu'=>by
  obtain⟨w',e,hw⟩:=h.2 0 p rfl;cases e
  have ht:LV Xk H vs ps:=⟨by simpa using h.1,fun i x e=>h.2 (i+1) x e⟩;rcases Y5.mp hu' with rfl|hu'
  ·rw[Ee hw r];exact Zdi I hu r rx hw hx
  ·exact Fg I hu rx hx t ht u' hu'
def GW (hu:X.A.in1.units<cLine):OpR X (compareOp .In) (rInP false):=by
 intro pins s σ H x y v u Q I rx ry h;obtain⟨l,ps,q,rfl,hx,⟨vs,hl,hv⟩,k⟩:=h;cases ry
 obtain⟨its,r,pl,hz⟩:=I.list (SqL.of hl);refine SeqAt.in_listAt (eP H q) pl.isList (fun w hw=>Fg I hu rx hx r hv w (by simpa using hw)) ⟨.bl _,H,I,rfl,?_⟩;rw[show its.toArray.any (eP H q)=its.any (eP H q) by simp,B5 r hv];exact k
def M2 (hu:X.A.in1.units<cLine):OpR X (compareOp .NotIn) (rInP true):=by
 intro pins s σ H x y v u Q I rx ry h;obtain⟨l,ps,q,rfl,hx,⟨vs,hl,hv⟩,k⟩:=h;cases ry
 obtain⟨its,r,pl,hz⟩:=I.list (SqL.of hl);refine SeqAt.notIn_listAt (eP H q) pl.isList (fun w hw=>Fg I hu rx hx r hv w (by simpa using hw)) ⟨.bl _,H,I,rfl,?_⟩;rw[show its.toArray.any (eP H q)=its.any (eP H q) by simp,B5 r hv];exact k
end
end Own
namespace M
open PySem PySem.Spec PyProof.Rows L2 Own
section
variable {α:Type}{R:Hp->V->α->Prop}{H:Hp}
def pick (c:α->Bool) (d:V×α):Option V:=if c d.2=true then some d.1 else none
end
end M
namespace Own
open PySem PySem.Spec PyProof.Rows L2
section
variable {X:Cx}{K:Za}
def EB (hc:X.calm=true) (hK:X.K=K:=by rfl):UF X (.builtin "sum") (fun xs H Q=>∃(p:Addr) (ns:List Int),xs=[.ref p]/\SqL K H p (ns.map V.int)/\Q (.int ns.sum) H):=by
 subst hK;intro pins s σ H xs us Q I rv h;obtain⟨p,ns,rfl,hS,q⟩:=h;obtain⟨u,rfl,ru⟩:=rv.one;obtain rfl:u=Value.ref p:=ru;obtain⟨its,r,pl,_⟩:=I.list hS;have hi:IntsAre its ns:=by simpa using NK r
 obtain⟨ys,hx⟩:=hi.allInts.items;have hl:=pl.isList;rw[hx] at hl;refine sum_intListG (I.ok.hd hc) hl fun h' tk t' hk=>?_
 have e1:ns=ys.toList.map (·.1):=by
  rw[←nums_intItems,←hx];exact(show numsOf its.toArray.toList=ns from hi.numsOf).symm
 have e2:preSum (numAt ys) ys.size=ns.sum:=by
  rw[preSum_eq,Qo (by simp),e1]
 rw[e2];exact⟨.int ns.sum,H,I.kept (t':=tk) hk,⟨_,rfl⟩,q⟩
def M6 (hc:X.calm=true) (hK:X.K=K:=by rfl):UF X (.builtin "min") (fun xs H Q=>∃(p:Addr) (ns:List Int),xs=[.ref p]/\SqL K H p (ns.map V.int)/\0<ns.length/\∀M,M∈ns->(∀a∈ns,M<=a)->Q (.int M) H):=by
 subst hK;intro pins s σ H xs us Q I rv h;obtain⟨p,ns,rfl,hS,hne,q⟩:=h;obtain⟨u,rfl,ru⟩:=rv.one;obtain rfl:u=Value.ref p:=ru;obtain⟨its,r,pl,_⟩:=I.list hS;have hi:IntsAre its ns:=by simpa using NK r
 obtain⟨ys,e⟩:=hi.allInts.items;have hl:=pl.isList;rw[e] at hl;have hns:ns=ys.toList.map (·.1):=by rw[←hi.numsOf,←nums_intItems,←e]
 have hsz:0<ys.size:=by
  have h3:=hne;rw[hns,Yn,Wb] at h3;exact h3
 refine min_intList (I.ok.hd hc) hl hsz fun v h' tk hv hk=>?_;obtain⟨t,rfl⟩:=intItems_at hv;obtain⟨h1,h2⟩:=argBest_lt (numAt ys) (ys.size-1);refine⟨.int _,H,I.kept (t':=tk) hk,⟨_,rfl⟩,q _ ?_ fun a ha=>?_⟩
 ·rw[hns,numAt_eq];exact getD_mem (by rw[Yn,Wb];omega)
 ·rw[hns] at ha;obtain⟨j,hj,rfl⟩:=W6.mp ha;rw[Yn,Wb] at hj
  have:=h2 j (by omega)
  rw[numAt_eq ys j] at this;rw[Y1,Yo (by rw[Yn,Wb];exact hj)] at this;exact this
def Dm:∀{bs:List Bool}{us:List Value},Vals (bs.map V.bl) us->LSm.BoolsAre us bs
 | [],_,.nil=>.nil
 | b::r,_,.cons h t=>by
  cases (show _=Value.bool b from h)
  exact .cons b (Dm t)
def EG (hc:X.calm=true) (hK:X.K=K:=by rfl):UF X (.builtin "any") (fun xs H Q=>∃(p:Addr) (bs:List Bool),xs=[.ref p]/\SqL K H p (bs.map V.bl)/\Q (.bl (bs.any id)) H):=by
 subst hK;intro pins s σ H xs us Q I rv h;obtain⟨p,bs,rfl,hS,q⟩:=h;obtain⟨u,rfl,ru⟩:=rv.one;obtain rfl:u=Value.ref p:=ru;obtain⟨its,r,pl,_⟩:=I.list hS;have hb:=Dm r;have hl:=pl.isList;have hlt:p<s.heap.objs.size:=by obtain⟨_,e,_⟩:=hl;exact Y3 e
 refine call_any_walk (wpAny_pyIter_list hl ?_)
 refine⟨s.heap.objs.size,[s.heap.objs.size,p],[s.heap.objs.size],its.toArray.size,_,_,fun i=>(bs[i]?).getD false,rfl,Walks.list (A:=X.A.in1) (I.ok.hd hc) _ p (YL hlt) its.toArray,
  ⟨⟨_,Y6 _ rfl,rfl,rfl⟩,hl.push _⟩,fun i v s' Q' E' hP hQ=>?_,fun h' tk hk=>?_⟩
 ·obtain⟨b,e,rfl⟩:=hb.get i v (by simpa using hP);simp only[e,Option.getD_some] at hQ;exact WU hQ
 ·have e:((List.range its.toArray.size).any fun i=>(bs[i]?).getD false)=bs.any id:=by
   rw[Y8,hb.length];exact LSm.range_any bs
  rw[e];exact⟨.bl (bs.any id),H,I.kept (t':=tk) (LSm.kept_iter hk),rfl,q⟩
def rEqE (K:Za) (neg:Bool):R2:=fun x y H Q=>∃(p q:Addr) (xs:List V),x=.ref p/\y=.ref q/\SqL K H p xs/\SqL K H q []/\Q (.bl (if neg then !xs.isEmpty else xs.isEmpty)) H
def Nl (hu:X.A.units<cLine) (hK:X.K=K:=by rfl):OpR X (compareOp .Eq) (rEqE K false):=by
 subst hK;intro pins s σ H x y v u Q I rx ry h;obtain⟨p,q,xs,rfl,rfl,hp,hq,k⟩:=h;obtain rfl:v=Value.ref p:=rx;obtain rfl:u=Value.ref q:=ry;obtain⟨us,r1,p1,_⟩:=I.list hp;obtain⟨ws,r2,p2,_⟩:=I.list hq;have l1:=r1.length;have l2:0=ws.length:=r2.length;have k':Q (.bl xs.isEmpty) H:=k;by_cases e:xs.length=0
 ·refine SeqAt.eq_listAt (e:=fun _=>true) p1.isList p2.isList (by simp;omega) hu (fun j h1 h2=>by simp at h2;omega) ⟨.bl xs.isEmpty,H,I,?_,k'⟩;show _=Value.bool xs.isEmpty
  have:xs=[]:=W7.mp e
  subst this;rw[Y8,←l1];rfl
 ·refine SeqAt.eq_list_lengthsAt p1.isList p2.isList (by simp;omega) hu ⟨.bl xs.isEmpty,H,I,?_,k'⟩;show _=Value.bool xs.isEmpty;cases xs with
  | nil=>exact absurd rfl e
  | cons a r=>rfl
def EA (hu:X.A.units<cLine) (hK:X.K=K:=by rfl):OpR X (compareOp .NotEq) (rEqE K true):=by
 subst hK;intro pins s σ H x y v u Q I rx ry h;obtain⟨p,q,xs,rfl,rfl,hp,hq,k⟩:=h;obtain rfl:v=Value.ref p:=rx;obtain rfl:u=Value.ref q:=ry;obtain⟨us,r1,p1,_⟩:=I.list hp;obtain⟨ws,r2,p2,_⟩:=I.list hq;have l1:=r1.length;have l2:0=ws.length:=r2.length;have k':Q (.bl (!xs.isEmpty)) H:=k;by_cases e:xs.length=0
 ·refine SeqAt.RcNeAt.lists (e:=fun _=>true) p1.isList p2.isList (by simp;omega) hu (fun j h1 h2=>by simp at h2;omega) _ _ _ _ ⟨.bl (!xs.isEmpty),H,I,?_,k'⟩;show _=Value.bool (!xs.isEmpty)
  have:xs=[]:=W7.mp e
  subst this;rw[Y8,←l1];rfl
 ·refine SeqAt.RcNeAt.lists_lengths p1.isList p2.isList (by simp;omega) hu _ _ _ _ ⟨.bl (!xs.isEmpty),H,I,?_,k'⟩;show _=Value.bool (!xs.isEmpty);cases xs with
  | nil=>exact absurd rfl e
  | cons a r=>rfl
end
end Own
namespace M
open PySem PySem.Spec PyProof.Rows L2 Own
def Ku (ws:List (Int×Int)) (ls:List Int):List (Int×Int):=ws.filter fun q=>decide (q.1∈ls)&&decide (q.2∈ls)
def Xw (ws:List (Int×Int)) (ls:List Int):List Int:=ls.filter fun h=>decide (h∈(Ku ws ls).map (·.2))
def Ug (ws:List (Int×Int)) (ls:List Int):Nat->List Int
 | 0=>ls
 | n+1=>Xw ws (Ug ws ls n)
def Bs (ws:List (Int×Int)) (r:List Int):Prop:=∀(i:Nat) (x y:Int),r[i]?=some x->r[i+1]?=some y->(x,y)∈ws
structure Ring (hs:List Int) (ws:List (Int×Int)) (r:List Int):Prop where
 two:2<=r.length
 nodup:r.Nodup
 sub:∀x∈r,x∈hs
 chain:Bs ws r
 last:∀x y,r[0]?=some x->r[r.length-1]?=some y->(y,x)∈ws
def Ring.ahead {hs:List Int}{ws:List (Int×Int)}{r:List Int} (R:Ring hs ws r) {x:Int} (hx:x∈r):∃y∈r,(y,x)∈ws:=by
 obtain⟨i,hi,e⟩:=W6.mp hx;have two:=R.two;cases i with
 | zero=>
  have hl:r.length-1<r.length:=by omega
  exact⟨r[r.length-1],YH hl,R.last x _ (by rw[Yo hi,e]) (Yo hl)⟩
 | succ i=>
  have hl:i<r.length:=by omega
  exact⟨r[i],YH hl,R.chain i _ x (Yo hl) (by rw[Yo hi,e])⟩
def mem_peel {ws:List (Int×Int)}{ls:List Int}{x:Int}:x∈Xw ws ls↔x∈ls/\∃y∈ls,(y,x)∈ws:=by
 unfold Xw Ku;rw[YO];constructor
 ·rintro⟨h1,h2⟩;obtain⟨q,hq,e⟩:=YT.mp (Yv h2);obtain⟨h3,h4⟩:=YO.mp hq;rw[Wm] at h4;refine⟨h1,q.1,Yv h4.1,?_⟩;rw[←e];exact h3
 ·rintro⟨h1,y,h2,h3⟩;refine⟨h1,Ys (YT.mpr ⟨(y,x),YO.mpr ⟨h3,?_⟩,rfl⟩)⟩;rw[Ys h2,Ys h1];rfl
def SH {hs:List Int}{ws:List (Int×Int)}{r:List Int} (R:Ring hs ws r):∀(n:Nat) (x:Int),x∈r->x∈Ug ws hs n
 | 0,x,hx=>R.sub x hx
 | n+1,x,hx=>by
  obtain⟨y,hy,h⟩:=R.ahead hx;exact mem_peel.mpr ⟨SH R n x hx,y,SH R n y hy,h⟩
def SZ (ws:List (Int×Int)) (ls:List Int):(Xw ws ls).Sublist ls:=Va
def G3 (ws:List (Int×Int)) (hs:List Int):∀n,(Ug ws hs n).Sublist hs
 | 0=>List.Sublist.refl _
 | n+1=>(SZ ws _).trans (G3 ws hs n)
def G4 (ws:List (Int×Int)) (hs:List Int):∀n,(∃k,k<n/\Xw ws (Ug ws hs k)=Ug ws hs k)\/(Ug ws hs n).length+n<=hs.length
 | 0=>.inr (Yx _)
 | n+1=>by
  rcases G4 ws hs n with⟨k,hk,e⟩|h
  ·exact .inl ⟨k,by omega,e⟩
  ·by_cases e:Xw ws (Ug ws hs n)=Ug ws hs n
   ·exact .inl ⟨n,by omega,e⟩
   ·have hl:(Xw ws (Ug ws hs n)).length<(Ug ws hs n).length:=by
     have h1:=(SZ ws (Ug ws hs n)).length_le;rcases Nat.lt_or_ge (Xw ws (Ug ws hs n)).length (Ug ws hs n).length with h2|h2
     ·exact h2
     ·exact absurd ((SZ ws (Ug ws hs n)).eq_of_length (by omega)) e
    refine .inr ?_;show(Xw ws (Ug ws hs n)).length+(n+1)<=hs.length;omega
def G2 (ws:List (Int×Int)) (hs:List Int) {k:Nat} (e:Xw ws (Ug ws hs k)=Ug ws hs k):∀n,Ug ws hs (k+n)=Ug ws hs k
 | 0=>rfl
 | n+1=>by
  show Xw ws (Ug ws hs (k+n))=_;rw[G2 ws hs e n,e]
def BN:∀{xs ys:List Int},xs.Nodup->(∀x∈xs,x∈ys)->xs.length<=ys.length
 | [],_,_,_=>Wy _
 | x::xs,ys,nd,h=>by
  obtain⟨h1,h2⟩:=YX.mp nd;have hx:x∈ys:=h x (YK ..);have ih:=BN (ys:=ys.erase x) h2 fun z hz=>(List.mem_erase_of_ne (fun e:z=x=>h1 (e▸hz))).mpr (h z (YF _ hz));rw[List.length_erase_of_mem hx] at ih
  have:0<ys.length:=List.length_pos_of_mem hx
  rw[YC];omega
def AL {ws:List (Int×Int)}{ls:List Int} (hu:∀q∈ws,q.1≠q.2) (hne:ls≠[]) (h:∀x∈ls,∃y∈ls,(y,x)∈ws):∃r,Ring ls ws r:=by
 have grow:∀(n:Nat) (r:List Int),r≠[]->r.Nodup->(∀x∈r,x∈ls)->Bs ws r->ls.length<r.length+n->∃r,Ring ls ws r:=by
  intro n
  induction n with
  | zero=>
   intro r hr nd sub ch hl
   have:=BN nd sub
   omega
  | succ n ih=>
   intro r hr nd sub ch hl;cases r with
   | nil=>exact absurd rfl hr
   | cons x t=>
    obtain⟨y,hy,hw⟩:=h x (sub x (YK ..));by_cases hm:y∈x::t
    ·obtain⟨i,hi,e⟩:=W6.mp hm
     have hi0:i≠0:=fun z=>by
      subst z;have e':x=y:=e;exact hu _ hw e'.symm
     have hlen:((x::t).take (i+1)).length=i+1:=by
      rw[Wr];omega
     refine⟨(x::t).take (i+1),by omega,nd.sublist (QA _ _),fun z hz=>sub z (QX hz),fun k a b h1 h2=>?_,fun a b h1 h2=>?_⟩
     ·have hk:k+1<i+1:=by
       have:=(YG.mp h2).1
       omega
      rw[W4 (by omega)] at h1;rw[W4 hk] at h2;exact ch k a b h1 h2
     ·rw[hlen,Ql,W4 (by omega),Yo hi,e] at h2;rw[W4 (by omega)] at h1;cases h1
      cases h2
      exact hw
    ·refine ih (y::x::t) (by simp) (YX.mpr ⟨hm,nd⟩) (fun z hz=>?_) (fun k a b h1 h2=>?_) (by rw[YC];omega)
     ·rcases Y5.mp hz with rfl|hz
      ·exact hy
      ·exact sub z hz
     ·cases k with
      | zero=>
       cases h1
       cases h2
       exact hw
      | succ k=>exact ch k a b h1 h2
 obtain⟨x,hx⟩:=List.exists_mem_of_ne_nil ls hne;exact grow (ls.length+1) [x] (by simp) (by simp) (fun y hy=>by rw[Y0.mp hy];exact hx) (fun i a b h1 h2=>by simp at h2) (by show ls.length<1+(ls.length+1);omega)
def Eo {ws:List (Int×Int)}{hs:List Int} (hu:∀q∈ws,q.1≠q.2):Ug ws hs hs.length=[]↔¬ ∃r,Ring hs ws r:=by
 constructor
 ·rintro h ⟨r,R⟩;have two:=R.two;have h0:0<r.length:=by omega
  have:=SH R hs.length r[0] (YH h0)
  rw[h] at this;cases this
 ·intro h;rcases G4 ws hs hs.length with⟨k,hk,e⟩|hl
  ·have e2:=G2 ws hs e (hs.length-k);rw[show k+(hs.length-k)=hs.length by omega] at e2;rw[e2];by_cases hne:Ug ws hs k=[]
   ·exact hne
   ·obtain⟨r,R⟩:=AL hu hne (fun x hx=>by
     rw[←e] at hx;exact(mem_peel.mp hx).2)
    exact absurd ⟨r,R.two,R.nodup,fun x hx=>(G3 ws hs k).subset (R.sub x hx),R.chain,R.last⟩ h
  ·exact W7.mp (by omega)
end M
namespace M
def sl:List Int->List Int->Prop
 | x::xs,y::ys=>x<y\/(x=y/\sl xs ys)
 | _,_=>False
def sl_cons {l:Int}{a b:List Int}:sl (l::a) (l::b)↔sl a b:=by
 show(l<l\/(l=l/\sl a b))↔sl a b;constructor
 ·rintro(h|⟨_,h⟩)
  ·omega
  ·exact h
 ·exact fun h=>.inr ⟨rfl,h⟩
def Ud (g:Int):List Int->Int
 | []=>g
 | x::t=>Ud x t
def KN (g:Int):∀(a b:List Int),Ud g (a++b)=Ud (Ud g a) b
 | [],b=>rfl
 | x::a,b=>KN x a b
def Fb (g:Int):∀(t:List Int),(g::t)[t.length]?=some (Ud g t)
 | []=>rfl
 | x::t=>by
  rw[YC,Wd];exact Fb x t
def Path (C:Int->Prop) (ws:List (Int×Int)):Int->List Int->Prop
 | _,[]=>True
 | g,x::t=>C x/\(g,x)∈ws/\Path C ws x t
section
variable {C:Int->Prop}{ws:List (Int×Int)}
def path_app:∀{g:Int}{a b:List Int},Path C ws g (a++b)↔Path C ws g a/\Path C ws (Ud g a) b
 | g,[],b=>⟨fun h=>⟨trivial,h⟩,fun h=>h.2⟩
 | g,x::a,b=>by
  rw[WC];constructor
  ·rintro⟨h1,h2,h3⟩
   have:=path_app.mp h3
   exact⟨⟨h1,h2,this.1⟩,this.2⟩
  ·rintro⟨⟨h1,h2,h3⟩,h4⟩;exact⟨h1,h2,path_app.mpr ⟨h3,h4⟩⟩
def G7:∀{g:Int}{t:List Int},Path C ws g t->∀x∈t,C x
 | g,[],_,x,h=>by cases h
 | g,y::t,⟨h1,_,h3⟩,x,h=>by
  rcases Y5.mp h with rfl|h
  ·exact h1
  ·exact G7 h3 x h
def EV:∀{g:Int}{t:List Int},Path C ws g t->Bs ws (g::t)
 | g,[],_=>fun i x y h1 h2=>by simp at h2
 | g,z::t,⟨h1,h2,h3⟩=>fun i x y k1 k2=>by
  cases i with
  | zero=>
   cases k1
   cases k2
   exact h2
  | succ i=>exact EV h3 i x y k1 k2
end
def Gr (hs:List Int) (l:Int):Int->Prop:=fun x=>x∈hs/\l<x
def P9 (hs:List Int) (ws:List (Int×Int)) (l:Int) (t:List Int):Prop:=Path (Gr hs l) ws l t/\(Ud l t,l)∈ws
def DB:∀{t:List Int},¬t.Nodup->∃a x b c,t=a++x::(b++x::c)
 | [],h=>absurd Qc h
 | y::t,h=>by
  by_cases hy:y∈t
  ·obtain⟨b,c,e⟩:=List.append_of_mem hy;exact⟨[],y,b,c,by rw[e];rfl⟩
  ·obtain⟨a,x,b,c,e⟩:=DB (t:=t) fun z=>h (YX.mpr ⟨hy,z⟩);exact⟨y::a,x,b,c,by rw[e];rfl⟩
def Ab {hs:List Int}{ws:List (Int×Int)}{l:Int}{t:List Int} (hu:∀q∈ws,q.1≠q.2) (hl:l∈hs) (hc:P9 hs ws l t) (hmin:∀u,P9 hs ws l u->t.length<=u.length):Ring hs ws (l::t):=by
 have hne:t≠[]:=fun z=>by
  have h2:=hc.2;rw[z] at h2;exact hu _ h2 rfl
 have hg:=G7 hc.1;refine⟨by have:=WB.mpr hne;simp;omega,YX.mpr ⟨fun z=>absurd (hg l z).2 (by omega),?_⟩,fun x hx=>?_,EV hc.1,fun x y h1 h2=>?_⟩
 ·refine YV fun z=>?_;obtain⟨a,x,b,c,e⟩:=DB z;have h1:=hc.1;rw[e] at h1;obtain⟨p1,p2⟩:=path_app.mp h1;have p3:=(path_app (a:=x::b) (b:=x::c) (g:=Ud l a)).mp p2
  have cl:P9 hs ws l (a++x::c):=by
   refine⟨path_app.mpr ⟨p1,p2.1,p2.2.1,p3.2.2.2⟩,?_⟩
   have e2:Ud l (a++x::c)=Ud l t:=by
    rw[e,KN,KN];show Ud x c=Ud x (b++x::c);rw[KN];rfl
   rw[e2];exact hc.2
  have:=hmin _ cl
  rw[e] at this;simp at this;omega
 ·rcases Y5.mp hx with rfl|hx
  ·exact hl
  ·exact(hg x hx).1
 ·cases h1
  have e:=Fb l t;simp only[YC,Ql] at h2;rw[e] at h2;cases h2
  exact hc.2
def XW (ws:List (Int×Int)):Prop:=ws.length<=20/\ws.Nodup/\∀q∈ws,(1<=q.1/\q.1<=10/\1<=q.2/\q.2<=10)/\q.1≠q.2
end M
namespace Pu
open PySem PySem.Spec PyProof.Rows L2 Own
inductive D where
 | int (i:Int)|bl (b:Bool)|non|str (x:Str)|ty (n:String)|tup (ds:List D)|lst (ds:List D)|scr (ns:List Int)|dK (kvs:List (Key×V))|dT (kvs:List (List Key×V))|loc (a:Addr) (d:D)|err (C:Addr)|ref (a:Addr)|ins (C:Addr) (xs:List Str) (ds:List D)
mutual
inductive Rp (K:Za) (H:Hp):D->V->Prop
 | int (i:Int):Rp K H (.int i) (.int i)
 | bl (b:Bool):Rp K H (.bl b) (.bl b)
 | non:Rp K H .non .non
 | str (x:Str):Rp K H (.str x) (.str x)
 | ty (n:String):Rp K H (.ty n) (.ty n)
 | tup {ds:List D} {vs:List V} {a:Addr}:H a=some (.tup vs)->Rps K H ds vs->Rp K H (.tup ds) (.ref a)
 | lst {ds:List D} {vs:List V} {a:Addr}:H a=some (.lst vs)->Rps K H ds vs->Rp K H (.lst ds) (.ref a)
 | scr {ns:List Int} {a:Addr}:SqL K H a (ns.map V.int)->Rp K H (.scr ns) (.ref a)
 | dK {kvs:List (Key×V)} {a:Addr}:H a=some (.dK kvs)->Rp K H (.dK kvs) (.ref a)
 | dT {kvs:List (List Key×V)} {a:Addr}:H a=some (.dT kvs)->Rp K H (.dT kvs) (.ref a)
 | loc {d:D} {a:Addr}:Rp K H d (.ref a)->Rp K H (.loc a d) (.ref a)
 | err {C a:Addr}:H a=some (ExcR.ErrH a C)->Rp K H (.err C) (.ref a)
 | ref (a:Addr):Rp K H (.ref a) (.ref a)
 | ins {C a dx:Addr} {xs:List Str} {ds:List D} {vs:List V}:H a=some (.ins C dx (xs.zip vs))->xs.length=vs.length->Rps K H ds vs->Rp K H (.ins C xs ds) (.ref a)
inductive Rps (K:Za) (H:Hp):List D->List V->Prop
 | nil:Rps K H [] []
 | cons {d:D} {v:V} {ds:List D} {vs:List V}:Rp K H d v->Rps K H ds vs->Rps K H (d::ds) (v::vs)
end
section
variable {K:Za}{H H':Hp}
mutual
def Rp.mono (S:Same H H'):∀{d:D}{v:V},Rp K H d v->Rp K H' d v
 | _,_,.int i=>.int i
 | _,_,.bl b=>.bl b
 | _,_,.non=>.non
 | _,_,.str x=>.str x
 | _,_,.ty n=>.ty n
 | _,_,.tup h r=>.tup (S _ _ h) (Rps.mono S r)
 | _,_,.lst h r=>.lst (S _ _ h) (Rps.mono S r)
 | _,_,.scr h=>.scr (S.seq h)
 | _,_,.dK h=>.dK (S _ _ h)
 | _,_,.dT h=>.dT (S _ _ h)
 | _,_,.loc h=>.loc (Rp.mono S h)
 | _,_,.err h=>.err (S _ _ h)
 | _,_,.ref a=>.ref a
 | _,_,.ins h e r=>.ins (S _ _ h) e (Rps.mono S r)
def Rps.mono (S:Same H H'):∀{ds:List D}{vs:List V},Rps K H ds vs->Rps K H' ds vs
 | _,_,.nil=>.nil
 | _,_,.cons h r=>.cons (Rp.mono S h) (Rps.mono S r)
end
def Rps.len:∀{ds:List D}{vs:List V},Rps K H ds vs->vs.length=ds.length
 | _,_,.nil=>rfl
 | _,_,.cons _ r=>YS (· + 1) (Rps.len r)
def Rps.get:∀{ds:List D}{vs:List V}{i:Nat}{d:D},Rps K H ds vs->ds[i]?=some d->∃v,vs[i]?=some v/\Rp K H d v
 | _,_,_,_,.nil,e=>by simp at e
 | _,_,0,_,.cons h _,e=>by simp at e;subst e;exact⟨_,rfl,h⟩
 | _,_,i+1,d,.cons _ r,e=>by
  obtain⟨v,h1,h2⟩:=Rps.get (i:=i) (d:=d) r (by simpa using e);exact⟨v,by simpa using h1,h2⟩
def Rps.append:∀{ds es:List D}{vs us:List V},Rps K H ds vs->Rps K H es us->Rps K H (ds++es) (vs++us)
 | _,_,_,_,.nil,s=>s
 | _,_,_,_,.cons h r,s=>.cons h (Rps.append r s)
def Rps.drop:∀{ds:List D}{vs:List V} (n:Nat),Rps K H ds vs->Rps K H (ds.drop n) (vs.drop n)
 | _,_,0,r=>r
 | _,_,_+1,.nil=>.nil
 | _,_,n+1,.cons _ r=>Rps.drop n r
def Rps.take:∀{ds:List D}{vs:List V} (n:Nat),Rps K H ds vs->Rps K H (ds.take n) (vs.take n)
 | _,_,0,_=>.nil
 | _,_,_+1,.nil=>.nil
 | _,_,n+1,.cons h r=>.cons h (Rps.take n r)
end
mutual
def imm:D->Bool
 | .tup ds=>imms ds
 | .lst _=>false
 | .scr _=>false
 | .dK _=>false
 | .dT _=>false
 | .loc _ _=>false
 | .err _=>false
 | .ins _ _ _=>false
 | _=>true
def imms:List D->Bool
 | []=>true
 | d::r=>imm d&&imms r
end
open Classical in
noncomputable def off (Z:Addr->Prop) (H:Hp):Hp:=fun b=>if Z b then none else H b
section
variable {K:Za}{H H':Hp}{Z Z':Addr->Prop}
def X9 {b:Addr}{o:HO} (h:off Z H b=some o):H b=some o/\¬Z b:=by
 unfold off at h;by_cases z:Z b
 ·rw[Yr z] at h;cases h
 ·rw[Yq z] at h;exact⟨h,z⟩
def Uu {b:Addr}{o:HO} (h:H b=some o) (z:¬Z b):off Z H b=some o:=by
 unfold off;rw[Yq z];exact h
def JM (S:Same H H') (hz:∀b o,H b=some o->¬Z b->¬Z' b):Same (off Z H) (off Z' H'):=fun b o h=>by
 obtain⟨h1,h2⟩:=X9 h;exact Uu (S b o h1) (hz b o h1 h2)
def off_sub:Same (off Z H) H:=fun _ _ h=>(X9 h).1
mutual
def Rp.off (hm:∀b,Z b->Mut (H b)):∀{d:D}{v:V},Rp K H d v->imm d=true->Rp K (off Z H) d v
 | _,_,.int i,_=>.int i
 | _,_,.bl b,_=>.bl b
 | _,_,.non,_=>.non
 | _,_,.str x,_=>.str x
 | _,_,.ty n,_=>.ty n
 | _,_,.tup h r,e=>.tup (Uu h fun z=>by have:=hm _ z;rw[h] at this;exact this) (Rps.off hm r (by unfold imm at e;exact e))
 | _,_,.lst _ _,e=>by unfold imm at e;cases e
 | _,_,.scr _,e=>by unfold imm at e;cases e
 | _,_,.dK _,e=>by unfold imm at e;cases e
 | _,_,.dT _,e=>by unfold imm at e;cases e
 | _,_,.loc _,e=>by unfold imm at e;cases e
 | _,_,.err _,e=>by unfold imm at e;cases e
 | _,_,.ref a,_=>.ref a
 | _,_,.ins _ _ _,e=>by unfold imm at e;cases e
def Rps.off (hm:∀b,Z b->Mut (H b)):∀{ds:List D}{vs:List V},Rps K H ds vs->imms ds=true->Rps K (off Z H) ds vs
 | _,_,.nil,_=>.nil
 | _,_,.cons h r,e=>by
  unfold imms at e;rw[Wm] at e;exact .cons (Rp.off hm h e.1) (Rps.off hm r e.2)
end
end
inductive O where
 | lst (ds:List D)|dK (kvs:List (Key×V))|dT (kvs:List (List Key×V))|ins (a C:Addr) (xs:List Str) (cs:List (Addr×List D))|lsA (a:Addr) (ds:List D)
instance:Coe (List D) O:=⟨O.lst⟩
def O.d:O->D
 | .lst ds=>.lst ds | .dK kvs=>.dK kvs | .dT kvs=>.dT kvs | .ins _ C xs cs=>.ins C xs (cs.map fun c=>.lst c.2) | .lsA _ ds=>.lst ds
def O.adr (a:Addr):O->Addr->Prop
 | .lst _=>fun b=>b=a
 | .dK _=>fun b=>b=a
 | .dT _=>fun b=>b=a
 | .ins x _ _ cs=>fun b=>b=x\/∃c∈cs,b=c.1
 | .lsA x _=>fun b=>b=x
def OR (K:Za) (F H:Hp) (a:Addr):O->Prop
 | .lst ds=>∃vs,H a=some (.lst vs)/\Rps K F ds vs
 | .dK kvs=>H a=some (.dK kvs)
 | .dT kvs=>H a=some (.dT kvs)
 | .lsA x ds=>a=x/\∃vs,H a=some (.lst vs)/\Rps K F ds vs
 | .ins x C xs cs=>a=x/\xs.length=cs.length/\(∃dx,H a=some (.ins C dx (xs.zip (cs.map fun c=>V.ref c.1))))/\(∀c∈cs,∃vs,H c.1=some (.lst vs)/\Rps K F c.2 vs)/\(cs.map (·.1)).Nodup
def OR.mono {K:Za}{F F' H H':Hp}{a:Addr}{o:O} (S1:Same F F') (S2:∀b,o.adr a b->∀x,H b=some x->H' b=some x) (h:OR K F H a o):OR K F' H' a o:=by
 cases o with
 | lst ds=>obtain⟨vs,h1,h2⟩:=h;exact⟨vs,S2 _ rfl _ h1,Rps.mono S1 h2⟩
 | dK kvs=>exact S2 _ rfl _ h
 | dT kvs=>exact S2 _ rfl _ h
 | lsA x ds=>obtain⟨rfl,vs,h1,h2⟩:=h;exact⟨rfl,vs,S2 _ rfl _ h1,Rps.mono S1 h2⟩
 | ins x C xs cs=>
  obtain⟨e,l,⟨dx,h1⟩,h2,h3⟩:=h;exact⟨e,l,⟨dx,S2 _ (.inl e) _ h1⟩,fun c hc=>let ⟨vs,q1,q2⟩:=h2 c hc;⟨vs,S2 _ (.inr ⟨c,hc,rfl⟩) _ q1,Rps.mono S1 q2⟩,h3⟩
def D5 {K:Za}{F:Hp}:∀{cs:List (Addr×List D)},(∀c∈cs,∃vs,F c.1=some (.lst vs)/\Rps K F c.2 vs)->Rps K F (cs.map fun c=>.lst c.2) (cs.map fun c=>V.ref c.1)
 | [],_=>.nil
 | c::cs,h=>let ⟨_,q1,q2⟩:=h c YK;.cons (.lst q1 q2) (D5 fun c' hc=>h c' (YF _ hc))
def OR.rpIn {K:Za}{F F' H:Hp}{a:Addr}{o:O} (S1:Same F F') (S2:∀b,o.adr a b->∀x,H b=some x->F' b=some x) (h:OR K F H a o):Rp K F' o.d (.ref a):=by
 cases o with
 | lst ds=>obtain⟨vs,h1,h2⟩:=h;exact .lst (S2 _ rfl _ h1) (Rps.mono S1 h2)
 | dK kvs=>exact .dK (S2 _ rfl _ h)
 | dT kvs=>exact .dT (S2 _ rfl _ h)
 | lsA x ds=>obtain⟨rfl,vs,h1,h2⟩:=h;exact .lst (S2 _ rfl _ h1) (Rps.mono S1 h2)
 | ins x C xs cs=>
  obtain⟨e,l,⟨dx,h1⟩,h2,h3⟩:=h;exact .ins (S2 _ (.inl e) _ h1) (by rw[Yn];exact l) (D5 fun c hc=>let ⟨vs,q1,q2⟩:=h2 c hc;⟨vs,S2 _ (.inr ⟨c,hc,rfl⟩) _ q1,Rps.mono S1 q2⟩)
def OR.rp {K:Za}{F H:Hp}{a:Addr}{o:O} (S1:Same F H) (h:OR K F H a o):Rp K H o.d (.ref a):=h.rpIn S1 fun _ _ _ e=>e
def OR.mut {K:Za}{F H:Hp}{a:Addr}{o:O} (h:OR K F H a o):∀b,o.adr a b->Mut (H b):=by
 cases o with
 | lst ds=>obtain⟨vs,h1,h2⟩:=h;intro b e;rw[show b=a from e,h1];trivial
 | dK kvs=>intro b e;rw[show b=a from e,show H a=some (.dK kvs) from h];trivial
 | dT kvs=>intro b e;rw[show b=a from e,show H a=some (.dT kvs) from h];trivial
 | lsA x ds=>obtain⟨rfl,vs,h1,h2⟩:=h;intro b e;rw[show b=a from e,h1];trivial
 | ins x C xs cs=>
  obtain⟨e,l,⟨dx,h1⟩,h2,h3⟩:=h;intro b hb;rcases hb with hb|⟨c,hc,hb⟩
  ·rw[show b=a from hb.trans e.symm,h1];trivial
  ·obtain⟨vs,q1,_⟩:=h2 c hc;rw[hb,q1];trivial
inductive S where
 | bor (d:D)|sh (d:D)|own (o:O)|view (o:O)|tmp (d:D)
abbrev Γ:=List (Option S)
def D.strip:D->D
 | .loc _ d=>d|d=>d
def Rp.strip {K:Za}{H:Hp}{d:D}{v:V} (h:Rp K H d v):Rp K H d.strip v:=by
 cases h with
 | loc h=>exact h
 | int i=>exact .int i
 | bl b=>exact .bl b
 | non=>exact .non
 | str x=>exact .str x
 | ty n=>exact .ty n
 | tup h r=>exact .tup h r
 | lst h r=>exact .lst h r
 | scr h=>exact .scr h
 | dK h=>exact .dK h
 | dT h=>exact .dT h
 | err h=>exact .err h
 | ref a=>exact .ref a
 | ins h e r=>exact .ins h e r
def S.d:S->D
 | .bor d=>d.strip | .sh d=>d | .own o=>o.d | .view o=>o.d | .tmp d=>d
def arg (d:D):S:=match imm d with|true=>.sh d|false=>.bor d
def argT (d:D):S:=match imm d with|true=>.sh d|false=>.tmp d
def S.sub:S->D->S
 | .bor _,e=>arg e | .tmp _,e=>argT e|_,e=>.sh e
def S.shd:S->Option D
 | .sh d=>some d | .own o=>some o.d
 | .bor d=>match imm d with|true=>some d|false=>none
 | .tmp d=>match imm d with|true=>some d|false=>none
 | .view _=>none
def S.slot:S->Option S
 | .view _=>none | .bor d=>some (.bor d) | .sh d=>some (.sh d) | .own ds=>some (.own ds)
 | .tmp d=>match imm d with|true=>some (.sh d)|false=>none
def Rm (γ:Γ) (σ:L2.St) (b:Addr):Prop:=∃(i:Nat) (ds:O) (a:Addr),γ[i]?=some (some (.own ds))/\σ[i]?=some (some (.ref a))/\ds.adr a b
def zof (B:Addr->Prop) (γ:Γ) (σ:L2.St):Addr->Prop:=fun b=>B b\/Rm γ σ b
def SV (K:Za) (Z:Addr->Prop) (H0 H:Hp):S->V->Prop
 | .bor d,v=>Rp K H0 d v
 | .sh d,v=>Rp K (off Z H) d v
 | .own o,v=>∃a,v=.ref a/\(∀b,o.adr a b->H0 b=none)/\OR K (off Z H) H a o
 | _,_=>False
def TV (K:Za) (Z:Addr->Prop) (H0 H H':Hp):S->V->Prop
 | .bor d,v=>Rp K H0 d v
 | .sh d,v=>Rp K (off Z H') d v
 | .own o,v=>∃a,v=.ref a/\(∀b,o.adr a b->H b=none)/\OR K (off (fun b=>Z b\/o.adr a b) H') H' a o
 | .view o,v=>∃a,v=.ref a/\OR K (off Z H') H' a o
 | .tmp d,v=>Rp K H' d v
structure EnvR (K:Za) (H0:Hp) (B:Addr->Prop) (H:Hp) (σ:L2.St) (γ:Γ):Prop where
 same:Same H0 H
 len:σ.length=γ.length
 bm:∀b,B b->Mut (H b)
 own:∀(i j:Nat) (a a':Addr) (ds es:O) (b:Addr),γ[i]?=some (some (.own ds))->γ[j]?=some (some (.own es))->σ[i]?=some (some (.ref a))->σ[j]?=some (some (.ref a'))->ds.adr a b->es.adr a' b->i=j
 slot:∀(i:Nat) (s:S),γ[i]?=some (some s)->∃v,σ[i]?=some (some v)/\SV K (zof B γ σ) H0 H s v
section
variable {K:Za}{H0 H H1 H':Hp}{B Z Z':Addr->Prop}{σ:L2.St}{γ:Γ}
def XG (S:Same H H') {b:Addr} (h:Mut (H b)):Mut (H' b):=by
 cases e:H b with
 | none=>rw[e] at h;exact h.elim
 | some o=>rw[S b o e,←e];exact h
def Km {b:Addr} (h:Mut (H b)):∃o,H b=some o:=by
 cases e:H b with
 | none=>rw[e] at h;exact h.elim
 | some o=>exact⟨o,rfl⟩
def EnvR.grow (E:EnvR K H0 B H σ γ) (S:Same H H'):EnvR K H0 B H' σ γ where
 same:=E.same.trans S
 len:=E.len
 bm b h:=XG S (E.bm b h)
 own:=E.own
 slot i s h:=by
  obtain⟨v,h1,h2⟩:=E.slot i s h;refine⟨v,h1,?_⟩;cases s with
  | bor d=>exact h2
  | sh d=>exact Rp.mono (JM S fun _ _ _ z=>z) h2
  | own ds=>
   obtain⟨a,e1,e3,e4⟩:=h2;exact⟨a,e1,e3,e4.mono (JM S fun _ _ _ z=>z) fun b _ x=>S b x⟩
  | view ds=>exact h2
  | tmp d=>exact h2
def EnvR.zm (E:EnvR K H0 B H σ γ):∀b,zof B γ σ b->Mut (H b):=fun b h=>by
 rcases h with h|⟨i,ds,x,h1,h2,hb⟩
 ·exact E.bm b h
 ·obtain⟨v,e1,a,e2,e3,e4⟩:=E.slot i _ h1;rw[h2] at e1;cases e1
  cases e2
  exact e4.mut b hb
def TV.rp {s:S}{v:V} (h0:Same H0 H') (h:TV K Z H0 H H' s v):Rp K H' s.d v:=by
 cases s with
 | bor d=>exact(Rp.mono h0 h).strip
 | sh d=>exact Rp.mono off_sub h
 | own ds=>
  obtain⟨a,rfl,_,r⟩:=h;exact r.rp off_sub
 | view ds=>
  obtain⟨a,rfl,r⟩:=h;exact r.rp off_sub
 | tmp d=>exact h
def TV.grow {s:S}{v:V} (S1:Same H' H1) (h:TV K Z H0 H H' s v):TV K Z H0 H H1 s v:=by
 cases s with
 | bor d=>exact h
 | sh d=>exact Rp.mono (JM S1 fun _ _ _ z=>z) h
 | own ds=>
  obtain⟨a,rfl,e0,r⟩:=h;exact⟨a,rfl,e0,r.mono (JM S1 fun _ _ _ z=>z) fun b _ x=>S1 b x⟩
 | view ds=>
  obtain⟨a,rfl,r⟩:=h;exact⟨a,rfl,r.mono (JM S1 fun _ _ _ z=>z) fun b _ x=>S1 b x⟩
 | tmp d=>exact Rp.mono S1 h
def TV.weak {s:S}{v:V} (S1:Same H H1) (hz:∀b,Z b->Z' b) (h:TV K Z' H0 H1 H' s v):TV K Z H0 H H' s v:=by
 cases s with
 | bor d=>exact h
 | sh d=>exact Rp.mono (JM (Same.refl _) fun b _ _ z y=>z (hz b y)) h
 | own ds=>
  obtain⟨a,rfl,e0,r⟩:=h;exact⟨a,rfl,fun b hb=>S1.free (e0 b hb),r.mono (JM (Same.refl _) fun b _ _ z y=>z (y.imp (hz b) id)) fun _ _ _ q=>q⟩
 | view ds=>
  obtain⟨a,rfl,r⟩:=h;exact⟨a,rfl,r.mono (JM (Same.refl _) fun b _ _ z y=>z (hz b y)) fun _ _ _ q=>q⟩
 | tmp d=>exact h
def TV.shd {s:S}{v:V}{d:D} (h0:Same H0 H') (hm:∀b,Z b->Mut (H b)) (S1:Same H H') (h:TV K Z H0 H H' s v) (e:s.shd=some d):Rp K (off Z H') d v:=by
 have hm':∀b,Z b->Mut (H' b):=fun b z=>XG S1 (hm b z);cases s with
 | bor d'=>
  unfold S.shd at e;cases q:imm d' with
  | false=>simp[q] at e
  | true=>
   simp[q] at e;subst e;exact Rp.off hm' (Rp.mono h0 h) q
 | sh d'=>cases e;exact h
 | own ds=>
  cases e
  obtain⟨a,rfl,e0,r⟩:=h;exact r.rpIn (JM (Same.refl _) fun b _ _ z y=>z (.inl y)) fun b hb x e=>Uu e fun z=>by have:=hm _ z;rw[e0 b hb] at this;exact this
 | view ds=>cases e
 | tmp d'=>
  unfold S.shd at e;cases q:imm d' with
  | false=>simp[q] at e
  | true=>
   simp[q] at e;subst e;exact Rp.off hm' h q
def argR {d:D}{v:V} (hm:∀b,Z b->Mut (H' b)) (h0:Same H0 H') (h:Rp K H0 d v):TV K Z H0 H H' (arg d) v:=by
 unfold arg;cases q:imm d with
 | true=>exact Rp.off hm (Rp.mono h0 h) q
 | false=>exact h
def PX {d:D}{v:V} (hm:∀b,Z b->Mut (H' b)) (h:Rp K H' d v):TV K Z H0 H H' (argT d) v:=by
 unfold argT;cases q:imm d with
 | true=>exact Rp.off hm h q
 | false=>exact h
def Rp.lst_inv {ds:List D}{v:V} (h:Rp K H (.lst ds) v):∃a vs,v=.ref a/\H a=some (.lst vs)/\Rps K H ds vs:=by
 cases h with
 | lst h r=>exact⟨_,_,rfl,h,r⟩
def Rp.tup_inv {ds:List D}{v:V} (h:Rp K H (.tup ds) v):∃a vs,v=.ref a/\H a=some (.tup vs)/\Rps K H ds vs:=by
 cases h with
 | tup h r=>exact⟨_,_,rfl,h,r⟩
def TV.part {s:S}{v:V} (h0:Same H0 H') (hm:∀b,Z b->Mut (H b)) (S1:Same H H') (h:TV K Z H0 H H' s v) :
  (∀ds,s.d=.lst ds->∃a vs,v=.ref a/\H' a=some (.lst vs)/\vs.length=ds.length/\∀(i:Nat) d,ds[i]?=some d->∃u,vs[i]?=some u/\TV K Z H0 H H' (s.sub d) u)/\
  (∀ds,s.d=.tup ds->∃a vs,v=.ref a/\H' a=some (.tup vs)/\vs.length=ds.length/\∀(i:Nat) d,ds[i]?=some d->∃u,vs[i]?=some u/\TV K Z H0 H H' (s.sub d) u):=by
 have hm':∀b,Z b->Mut (H' b):=fun b z=>XG S1 (hm b z);cases s with
 | bor d=>
  have h:=Rp.strip h;refine⟨fun ds e=>?_,fun ds e=>?_⟩<;>rw[show d.strip=_ from e] at h
  ·obtain⟨a,vs,rfl,h,r⟩:=Rp.lst_inv h;exact⟨_,_,rfl,h0 _ _ h,r.len,fun i d e=>let ⟨u,h1,h2⟩:=r.get e;⟨u,h1,argR hm' h0 h2⟩⟩
  ·obtain⟨a,vs,rfl,h,r⟩:=Rp.tup_inv h;exact⟨_,_,rfl,h0 _ _ h,r.len,fun i d e=>let ⟨u,h1,h2⟩:=r.get e;⟨u,h1,argR hm' h0 h2⟩⟩
 | sh d=>
  refine⟨fun ds e=>?_,fun ds e=>?_⟩<;>(have e':d=_:=e;subst e')
  ·obtain⟨a,vs,rfl,h,r⟩:=Rp.lst_inv h;exact⟨_,_,rfl,off_sub _ _ h,r.len,fun i d e=>r.get e⟩
  ·obtain⟨a,vs,rfl,h,r⟩:=Rp.tup_inv h;exact⟨_,_,rfl,off_sub _ _ h,r.len,fun i d e=>r.get e⟩
 | own es=>
  cases es with
  | lst es=>
   refine⟨fun ds e=>?_,fun ds e=>by cases e⟩;cases e
   obtain⟨a,rfl,e0,vs,e,r⟩:=h;exact⟨a,vs,rfl,e,r.len,fun i d e=>let ⟨u,h1,h2⟩:=r.get e;⟨u,h1,Rp.mono (JM (Same.refl _) fun b _ _ z y=>z (.inl y)) h2⟩⟩
  | lsA x es=>
   refine⟨fun ds e=>?_,fun ds e=>by cases e⟩;cases e
   obtain⟨a,rfl,e0,_,vs,e,r⟩:=h;exact⟨a,vs,rfl,e,r.len,fun i d e=>let ⟨u,h1,h2⟩:=r.get e;⟨u,h1,Rp.mono (JM (Same.refl _) fun b _ _ z y=>z (.inl y)) h2⟩⟩
  | dK es=>exact⟨(fun ds e=>by cases e),(fun ds e=>by cases e)⟩
  | dT es=>exact⟨(fun ds e=>by cases e),(fun ds e=>by cases e)⟩
  | ins x C xs cs=>exact⟨(fun ds e=>by cases e),(fun ds e=>by cases e)⟩
 | view es=>
  cases es with
  | lst es=>
   refine⟨fun ds e=>?_,fun ds e=>by cases e⟩;cases e
   obtain⟨a,rfl,vs,e,r⟩:=h;exact⟨a,vs,rfl,e,r.len,fun i d e=>r.get e⟩
  | lsA x es=>
   refine⟨fun ds e=>?_,fun ds e=>by cases e⟩;cases e
   obtain⟨a,rfl,_,vs,e,r⟩:=h;exact⟨a,vs,rfl,e,r.len,fun i d e=>r.get e⟩
  | dK es=>exact⟨(fun ds e=>by cases e),(fun ds e=>by cases e)⟩
  | dT es=>exact⟨(fun ds e=>by cases e),(fun ds e=>by cases e)⟩
  | ins x C xs cs=>exact⟨(fun ds e=>by cases e),(fun ds e=>by cases e)⟩
 | tmp d=>
  refine⟨fun ds e=>?_,fun ds e=>?_⟩<;>(have e':d=_:=e;subst e')
  ·obtain⟨a,vs,rfl,h,r⟩:=Rp.lst_inv h;exact⟨_,_,rfl,h,r.len,fun i d e=>let ⟨u,h1,h2⟩:=r.get e;⟨u,h1,PX hm' h2⟩⟩
  ·obtain⟨a,vs,rfl,h,r⟩:=Rp.tup_inv h;exact⟨_,_,rfl,h,r.len,fun i d e=>let ⟨u,h1,h2⟩:=r.get e;⟨u,h1,PX hm' h2⟩⟩
def Fr (B:Addr->Prop) (H:Hp) (σ:L2.St) (γ:Γ) (H':Hp) (σ':L2.St) (γ':Γ):Prop:=∀b o,H b=some o->¬zof B γ σ b->H' b=some o/\¬zof B γ' σ' b
def Fr.refl:Fr B H σ γ H σ γ:=fun _ _ h z=>⟨h,z⟩
def Fr.trans {H1 H2:Hp}{σ1 σ2:L2.St}{γ1 γ2:Γ} (a:Fr B H σ γ H1 σ1 γ1) (b:Fr B H1 σ1 γ1 H2 σ2 γ2):Fr B H σ γ H2 σ2 γ2:=fun x o h z=>let ⟨h1,z1⟩:=a x o h z;b x o h1 z1
def Fr.grow (S1:Same H H'):Fr B H σ γ H' σ γ:=fun _ _ h z=>⟨S1 _ _ h,z⟩
def Fr.off {H':Hp}{σ':L2.St}{γ':Γ} (f:Fr B H σ γ H' σ' γ'):Same (off (zof B γ σ) H) (Pu.off (zof B γ' σ') H'):=fun b o h=>by
 obtain⟨h1,h2⟩:=X9 h;obtain⟨h3,h4⟩:=f b o h1 h2;exact Uu h3 h4
def Uo {α:Type}{l:List α}{i j:Nat}{x y:α} (h:(l.set i x)[j]?=some y):(j=i/\x=y/\i<l.length)\/(j≠i/\l[j]?=some y):=by
 rw[List.getElem?_set] at h;by_cases e:i=j
 ·subst e;rw[Yr rfl] at h;by_cases e2:i<l.length
  ·rw[Yr e2] at h;exact .inl ⟨rfl,Y2 h,e2⟩
  ·rw[Yq e2] at h;cases h
 ·rw[Yq e] at h;exact .inr ⟨fun z=>e z.symm,h⟩
def TN {α:Type}{l:List α}{i:Nat}{x:α} (h:i<l.length):(l.set i x)[i]?=some x:=by rw[QD h]
def Pd {α:Type}{l:List α}{i j:Nat}{x:α} (h:j≠i):(l.set i x)[j]?=l[j]?:=QP fun z=>h z.symm
def EnvR.drop (E:EnvR K H0 B H σ γ) (i:Nat):EnvR K H0 B H σ (γ.set i none)/\Fr B H σ γ H σ (γ.set i none):=by
 have hz:∀b,zof B (γ.set i none) σ b->zof B γ σ b:=fun b z=>z.imp id fun⟨j,ds,a,h1,h2,h3⟩=>by
  rcases Uo h1 with⟨_,e,_⟩|⟨_,e⟩
  ·cases e
  ·exact⟨j,ds,a,e,h2,h3⟩
 refine⟨⟨E.same,by rw[W2];exact E.len,E.bm,fun k j a a' ds es b h1 h2=>?_,fun k s h=>?_⟩,fun b o h z=>⟨h,fun y=>z (hz b y)⟩⟩
 ·rcases Uo h1 with⟨_,e,_⟩|⟨_,e1⟩
  ·cases e
  ·rcases Uo h2 with⟨_,e,_⟩|⟨_,e2⟩
   ·cases e
   ·exact E.own k j a a' ds es b e1 e2
 ·rcases Uo h with⟨_,e,_⟩|⟨_,e⟩
  ·cases e
  ·obtain⟨v,h1,h2⟩:=E.slot k s e;refine⟨v,h1,?_⟩;have S1:Same (Pu.off (zof B γ σ) H) (Pu.off (zof B (γ.set i none) σ) H):=JM (Same.refl _) fun b _ _ z y=>z (hz b y);cases s with
   | bor d=>exact h2
   | sh d=>exact Rp.mono S1 h2
   | own ds=>
    obtain⟨a,e1,e3,e4⟩:=h2;exact⟨a,e1,e3,e4.mono S1 fun _ _ _ q=>q⟩
   | view ds=>exact h2
   | tmp d=>exact h2
def EnvR.put {i:Nat}{s s':S}{v:V} (E:EnvR K H0 B H σ γ) (S1:Same H H') (h:TV K (zof B γ σ) H0 H H' s v) (e:s.slot=some s') (hi:i<γ.length) :
  EnvR K H0 B H' (σ.set i (some v)) (γ.set i (some s'))/\Fr B H σ γ H' (σ.set i (some v)) (γ.set i (some s')):=by
 have hiσ:i<σ.length:=by rw[E.len];exact hi
 have E':=E.grow S1
 have isown:∀ds,s'=.own ds->s=.own ds:=fun ds q=>by
  subst q;cases s with
  | own es=>cases e;rfl
  | bor d=>cases e
  | sh d=>cases e
  | view d=>cases e
  | tmp d=>unfold S.slot at e;cases q:imm d<;>simp[q] at e
 have hown:∀b,zof B (γ.set i (some s')) (σ.set i (some v)) b->zof B γ σ b\/∃ds a,s=.own ds/\v=.ref a/\ds.adr a b:=fun b z=>by
  rcases z with z|⟨j,ds,a,h1,h2,h3⟩
  ·exact .inl (.inl z)
  ·rcases Uo h1 with⟨ej,e1,_⟩|⟨nj,e1⟩
   ·subst ej;rw[TN hiσ] at h2
    have:s'=.own ds:=Y2 e1
    exact .inr ⟨ds,a,isown ds this,Y2 (Y2 h2),h3⟩
   ·rw[Pd nj] at h2;exact .inl (.inr ⟨j,ds,a,e1,h2,h3⟩)
 have fresh:∀ds a b,s=.own ds->v=.ref a->ds.adr a b->H b=none:=fun ds a b es ev hb=>by
  subst es;obtain⟨a',e1,e0,_⟩:=h;rw[ev] at e1;cases e1
  exact e0 b hb
 have hz:∀b o,H b=some o->¬zof B γ σ b->¬zof B (γ.set i (some s')) (σ.set i (some v)) b:=fun b o hb z y=>by
  rcases hown b y with y|⟨ds,a,y1,y2,y3⟩
  ·exact z y
  ·rw[fresh ds a b y1 y2 y3] at hb;cases hb
 have So:Same (off (zof B γ σ) H) (Pu.off (zof B (γ.set i (some s')) (σ.set i (some v))) H'):=JM S1 hz;refine⟨⟨E'.same,by rw[W2,W2];exact E.len,E'.bm,fun k j a a' ds es b h1 h2 h3 h4 h5 h6=>?_,fun k u hk=>?_⟩,fun b o hb z=>⟨S1 b o hb,hz b o hb z⟩⟩
 ·have old:∀(k:Nat) (ds:O) (a b:Addr),γ[k]?=some (some (.own ds))->σ[k]?=some (some (.ref a))->ds.adr a b->∃o,H b=some o:=fun k ds a b e1 e2 e3=>by
   obtain⟨u,q1,a',q2,_,q3⟩:=E.slot k _ e1;rw[e2] at q1;cases q1
   cases q2
   exact Km (q3.mut b e3)
  rcases Uo h1 with⟨ek,e1,_⟩|⟨nk,e1⟩
  ·rcases Uo h2 with⟨ej,e2,_⟩|⟨nj,e2⟩
   ·rw[ek,ej]
   ·subst ek;rw[TN hiσ] at h3;rw[Pd nj] at h4;obtain⟨o,ho⟩:=old j es a' b e2 h4 h6;rw[fresh ds a b (isown ds (Y2 e1)) (Y2 (Y2 h3)) h5] at ho;cases ho
  ·rcases Uo h2 with⟨ej,e2,_⟩|⟨nj,e2⟩
   ·subst ej;rw[TN hiσ] at h4;rw[Pd nk] at h3;obtain⟨o,ho⟩:=old k ds a b e1 h3 h5;rw[fresh es a' b (isown es (Y2 e2)) (Y2 (Y2 h4)) h6] at ho;cases ho
   ·rw[Pd nk] at h3;rw[Pd nj] at h4;exact E.own k j a a' ds es b e1 e2 h3 h4 h5 h6
 ·rcases Uo hk with⟨ek,e1,_⟩|⟨nk,e1⟩
  ·subst ek
   have:u=s':=(Y2 e1).symm
   subst this;refine⟨v,TN hiσ,?_⟩;cases s with
   | own ds=>
    cases e
    obtain⟨a,rfl,e0,r⟩:=h;refine⟨a,rfl,fun b hb=>E.same.free (e0 b hb),r.mono (JM (Same.refl _) fun b o _ z y=>?_) fun _ _ _ q=>q⟩;rcases hown b y with y|⟨_,_,y1,y,y2⟩
    ·exact z (.inl y)
    ·cases y;cases y1;exact z (.inr y2)
   | sh d=>
    cases e
    refine Rp.mono (JM (Same.refl _) fun b o _ z y=>?_) h;rcases hown b y with y|⟨_,_,y,_⟩
    ·exact z y
    ·cases y
   | bor d=>cases e;exact h
   | view d=>cases e
   | tmp d=>
    unfold S.slot at e;cases q:imm d with
    | false=>simp[q] at e
    | true=>
     simp[q] at e;subst e;refine Rp.off (fun b y=>?_) h q;rcases hown b y with y|⟨_,_,y,_⟩
     ·exact XG S1 (E.zm b y)
     ·cases y
  ·obtain⟨w,q1,q2⟩:=E.slot k u e1;refine⟨w,by rw[Pd nk];exact q1,?_⟩;cases u with
   | bor d=>exact q2
   | sh d=>exact Rp.mono So q2
   | own ds=>
    obtain⟨a,e1,e3,e4⟩:=q2;exact⟨a,e1,e3,e4.mono So fun b _ x=>S1 b x⟩
   | view ds=>exact q2
   | tmp d=>exact q2
def frz (i:Nat) (γ:Γ):Γ:=match γ[i]? with
 | some (some (.own o))=>γ.set i (some (.sh o.d))
 | _=>γ
def EnvR.frz (E:EnvR K H0 B H σ γ) (hB:∀b,B b->∃o,H0 b=some o) (i:Nat):EnvR K H0 B H σ (frz i γ)/\Fr B H σ γ H σ (Pu.frz i γ):=by
 unfold Pu.frz;split
 ·rename_i ds hi;have hlt:i<γ.length:=(YG.mp hi).1
  have hz:∀b,zof B (γ.set i (some (.sh ds.d))) σ b->zof B γ σ b:=fun b z=>z.imp id fun⟨j,es,a,h1,h2,h3⟩=>by
   rcases Uo h1 with⟨_,e,_⟩|⟨_,e⟩
   ·cases e
   ·exact⟨j,es,a,e,h2,h3⟩
  have S1:Same (Pu.off (zof B γ σ) H) (Pu.off (zof B (γ.set i (some (.sh ds.d))) σ) H):=JM (Same.refl _) fun b _ _ z y=>z (hz b y);refine⟨⟨E.same,by rw[W2];exact E.len,E.bm,fun k j a a' es es' b h1 h2=>?_,fun k s h=>?_⟩,fun b o h z=>⟨h,fun y=>z (hz b y)⟩⟩
  ·rcases Uo h1 with⟨_,e,_⟩|⟨_,e1⟩
   ·cases e
   ·rcases Uo h2 with⟨_,e,_⟩|⟨_,e2⟩
    ·cases e
    ·exact E.own k j a a' es es' b e1 e2
  ·rcases Uo h with⟨ek,e,_⟩|⟨nk,e⟩
   ·subst ek
    have:=Y2 e
    subst this;obtain⟨v,h1,a,rfl,h3,h4⟩:=E.slot k _ hi;refine⟨_,h1,h4.rpIn S1 fun b hb x h2=>Uu h2 fun z=>?_⟩;rcases z with z|⟨j,es,a',e1,e2,e3⟩
    ·obtain⟨o,ho⟩:=hB b z;rw[h3 b hb] at ho;cases ho
    ·rcases Uo e1 with⟨_,q,_⟩|⟨nj,q⟩
     ·cases q
     ·exact nj (E.own j k a' a es ds b q hi e2 h1 e3 hb)
   ·obtain⟨v,h1,h2⟩:=E.slot k s e;refine⟨v,h1,?_⟩;cases s with
    | bor d=>exact h2
    | sh d=>exact Rp.mono S1 h2
    | own ds=>
     obtain⟨a,e1,e3,e4⟩:=h2;exact⟨a,e1,e3,e4.mono S1 fun _ _ _ q=>q⟩
    | view ds=>exact h2
    | tmp d=>exact h2
 ·exact⟨E,Fr.refl⟩
def EnvR.change {i:Nat}{a:Addr}{o o':O} (E:EnvR K H0 B H σ γ) (hi:γ[i]?=some (some (.own o))) (ha:σ[i]?=some (some (.ref a)))
  (hH:∀b x,H b=some x->¬o.adr a b->H' b=some x) (hm:∀b,o.adr a b->Mut (H' b)) (hadr:∀b,o'.adr a b->o.adr a b\/H b=none) (r:OR K (Pu.off (zof B (γ.set i (some (.own o'))) σ) H') H' a o') :
  EnvR K H0 B H' σ (γ.set i (some (.own o')))/\Fr B H σ γ H' σ (γ.set i (some (.own o'))):=by
 have hlt:i<γ.length:=(YG.mp hi).1;obtain⟨v,h1,a',rfl,h3,h4⟩:=E.slot i _ hi;rw[ha] at h1;cases h1
 have za:∀b,o.adr a b->zof B γ σ b:=fun b hb=>.inr ⟨i,o,a,hi,ha,hb⟩
 have hz:∀b x,H b=some x->zof B (γ.set i (some (.own o'))) σ b->zof B γ σ b:=fun b x hx z=>by
  rcases z with z|⟨j,fs,a',e1,e2,e3⟩
  ·exact .inl z
  ·rcases Uo e1 with⟨ej,q,_⟩|⟨_,e⟩
   ·subst ej;cases q
    rw[ha] at e2;cases e2
    rcases hadr b e3 with k|k
    ·exact za b k
    ·rw[k] at hx;cases hx
   ·exact .inr ⟨j,fs,a',e,e2,e3⟩
 have S1:Same (Pu.off (zof B γ σ) H) (Pu.off (zof B (γ.set i (some (.own o'))) σ) H'):=fun b x h=>by
  obtain⟨q1,q2⟩:=X9 h;exact Uu (hH b x q1 fun k=>q2 (za b k)) fun z=>q2 (hz b x q1 z)
 have old:∀(k:Nat) (ds:O) (a b:Addr),γ[k]?=some (some (.own ds))->σ[k]?=some (some (.ref a))->ds.adr a b->∃o,H b=some o:=fun k ds a b e1 e2 e3=>by
  obtain⟨u,q1,a',q2,_,q3⟩:=E.slot k _ e1;rw[e2] at q1;cases q1
  cases q2
  exact Km (q3.mut b e3)
 refine⟨⟨fun b x h=>?_,by rw[W2];exact E.len,fun b hb=>?_,fun k j x x' fs fs' b e1 e2 e3 e4 e5 e6=>?_,fun k s h=>?_⟩,fun b x h z=>⟨?_,fun y=>z (hz b x h y)⟩⟩
 ·exact hH b x (E.same b x h) fun k=>by rw[h3 b k] at h;cases h
 ·by_cases k:o.adr a b
  ·exact hm b k
  ·have:=E.bm b hb
   obtain⟨x,hx⟩:=Km this;rw[hH b x hx k,←hx];exact this
 ·rcases Uo e1 with⟨ek,q1,_⟩|⟨nk,q1⟩
  ·rcases Uo e2 with⟨ej,_,_⟩|⟨nj,q2⟩
   ·rw[ek,ej]
   ·subst ek;cases q1
    rw[ha] at e3;cases e3
    rcases hadr b e5 with w|w
    ·exact E.own k j _ _ _ _ b hi q2 ha e4 w e6
    ·obtain⟨u,hu⟩:=old j fs' x' b q2 e4 e6;rw[w] at hu;cases hu
  ·rcases Uo e2 with⟨ej,q2,_⟩|⟨nj,q2⟩
   ·subst ej;cases q2
    rw[ha] at e4;cases e4
    rcases hadr b e6 with w|w
    ·exact E.own k j _ _ _ _ b q1 hi e3 ha e5 w
    ·obtain⟨u,hu⟩:=old k fs x b q1 e3 e5;rw[w] at hu;cases hu
   ·exact E.own k j x x' fs fs' b q1 q2 e3 e4 e5 e6
 ·rcases Uo h with⟨ek,e,_⟩|⟨nk,e⟩
  ·subst ek
   have:=Y2 e
   subst this;exact⟨_,ha,a,rfl,fun b hb=>(hadr b hb).elim (h3 b) fun w=>E.same.free w,r⟩
  ·obtain⟨v,q1,q2⟩:=E.slot k s e;refine⟨v,q1,?_⟩;cases s with
   | bor d=>exact q2
   | sh d=>exact Rp.mono S1 q2
   | own fs=>
    obtain⟨x,rfl,e3,e4⟩:=q2;exact⟨x,rfl,e3,e4.mono S1 fun b hb y e2=>hH b y e2 fun w=>nk (E.own k i x a fs o b e hi q1 ha hb w)⟩
   | view ds=>exact q2
   | tmp d=>exact q2
 ·exact hH b x h fun k=>z (za b k)
def EnvR.mutate {i:Nat}{a:Addr}{ds es:O}{us:HO} (E:EnvR K H0 B H σ γ) (hi:γ[i]?=some (some (.own ds))) (ha:σ[i]?=some (some (.ref a))) (hu:Mut (some us)) (r:∀F H':Hp,Same (Pu.off (zof B γ σ) H) F->H' a=some us->OR K F H' a es)
  (k1:ds.adr a=fun b=>b=a:=by rfl) (k2:es.adr a=fun b=>b=a:=by rfl) :
  EnvR K H0 B (upd H a us) σ (γ.set i (some (.own es)))/\Fr B H σ γ (upd H a us) σ (γ.set i (some (.own es))):=by
 refine E.change (o:=ds) (o':=es) hi ha (fun b x h n=>by rw[JW (fun z=>n (by rw[k1];exact z))];exact h) (fun b h=>by rw[k1] at h;rw[show b=a from h,Uj];exact hu) (fun b h=>.inl (by rw[k1];rw[k2] at h;exact h)) (r _ _ ?_ Uj)
 intro b x h;obtain⟨q1,q2⟩:=X9 h;have nb:b≠a:=fun z=>q2 (.inr ⟨i,ds,a,hi,ha,by rw[k1];exact z⟩);refine Uu (by rw[JW nb];exact q1) fun z=>q2 ?_;rcases z with z|⟨j,fs,a',e1,e2,e3⟩
 ·exact .inl z
 ·rcases Uo e1 with⟨ej,q,_⟩|⟨_,e⟩
  ·subst ej;cases q
   rw[ha] at e2;cases e2
   rw[k2] at e3;exact absurd e3 nb
  ·exact .inr ⟨j,fs,a',e,e2,e3⟩
end
end Pu
namespace Pu
open PySem PySem.Spec PyProof.Rows L2 Own
abbrev XR:=Str->Prop
abbrev PTE:=Γ->(S->Prop)->XR->Prop
abbrev PTT:=Γ->(Bool->Prop)->XR->Prop
abbrev PTA:=Γ->(List S->Prop)->XR->Prop
abbrev PTO:=Γ->(Option Int->Prop)->XR->Prop
structure PEnds where
 nx:Γ->Prop
 rt:S->Prop
 ex:Γ->Str->Prop
 bk:Γ->Prop:=fun _=>False
 ct:Γ->Prop:=fun _=>False
 rv:Γ->D->Prop:=fun _ _=>False
abbrev PTS:=PEnds->Γ->Prop
abbrev PTG:=S->Γ->(Γ->Prop)->Prop
abbrev PTGs:=List S->Γ->(Γ->Prop)->Prop
inductive TVs (K:Za) (Z:Addr->Prop) (H0 H H':Hp):List S->List V->Prop
 | nil:TVs K Z H0 H H' [] []
 | cons {s:S} {v:V} {ss:List S} {vs:List V}:TV K Z H0 H H' s v->TVs K Z H0 H H' ss vs->TVs K Z H0 H H' (s::ss) (v::vs)
section
variable (K:Za) (mg:Str->Option Value) (E:L2.St->XK)
def SndE (t:TE) (p:PTE):Prop:=∀(H0:Hp) (B:Addr->Prop) (H:Hp) (σ:L2.St) (γ:Γ) (R:S->Prop) (X:XR) (Q:VK),EnvR K H0 B H σ γ->p γ R X->
 (∀s v H',R s->Same H H'->TV K (zof B γ σ) H0 H H' s v->Q v H')->(∀c H',X c->Same H H'->E σ (.ref (ExcR.J3 mg c)) none H')->t σ H Q
def SndT (t:TT) (p:PTT):Prop:=∀(H0:Hp) (B:Addr->Prop) (H:Hp) (σ:L2.St) (γ:Γ) (R:Bool->Prop) (X:XR) (Q:Bool->Hp->Prop),EnvR K H0 B H σ γ->p γ R X->
 (∀b H',R b->Same H H'->Q b H')->(∀c H',X c->Same H H'->E σ (.ref (ExcR.J3 mg c)) none H')->t σ H Q
def SndA (t:TA) (p:PTA):Prop:=∀(H0:Hp) (B:Addr->Prop) (H:Hp) (σ:L2.St) (γ:Γ) (R:List S->Prop) (X:XR) (Q:List V->Hp->Prop),EnvR K H0 B H σ γ->p γ R X->
 (∀ss vs H',R ss->Same H H'->TVs K (zof B γ σ) H0 H H' ss vs->Q vs H')->(∀c H',X c->Same H H'->E σ (.ref (ExcR.J3 mg c)) none H')->t σ H Q
def SndO (t:TO) (p:PTO):Prop:=∀(H0:Hp) (B:Addr->Prop) (H:Hp) (σ:L2.St) (γ:Γ) (R:Option Int->Prop) (X:XR) (Q:Option Int->Hp->Prop),EnvR K H0 B H σ γ->p γ R X->
 (∀o H',R o->Same H H'->Q o H')->(∀c H',X c->Same H H'->E σ (.ref (ExcR.J3 mg c)) none H')->t σ H Q
structure EndR (H0:Hp) (B:Addr->Prop) (H:Hp) (σ:L2.St) (γ:Γ) (R:PEnds) (D:Ends):Prop where
 nx:∀σ' γ' H',R.nx γ'->EnvR K H0 B H' σ' γ'->Fr B H σ γ H' σ' γ'->D.nx σ' H'
 rt:∀s v H',R.rt s->Same H0 H'->TV K B H0 H0 H' s v->D.rt v H'
 ex:∀σ' γ' c H',R.ex γ' c->EnvR K H0 B H' σ' γ'->Fr B H σ γ H' σ' γ'->E σ' (.ref (ExcR.J3 mg c)) none H'
 bk:∀σ' γ' H',R.bk γ'->EnvR K H0 B H' σ' γ'->Fr B H σ γ H' σ' γ'->D.bk σ' H'
 ct:∀σ' γ' H',R.ct γ'->EnvR K H0 B H' σ' γ'->Fr B H σ γ H' σ' γ'->D.ct σ' H'
 rv:∀σ' γ' d v H',R.rv γ' d->EnvR K H0 B H' σ' γ'->Fr B H σ γ H' σ' γ'->Rp K (off (zof B γ' σ') H') d v->D.rt v H'
def SndS (t:TS) (p:PTS):Prop:=∀(H0:Hp) (B:Addr->Prop) (H:Hp) (σ:L2.St) (γ:Γ) (R:PEnds) (D:Ends),(∀b,B b->∃o,H0 b=some o)->EnvR K H0 B H σ γ->p R γ->EndR K mg E H0 B H σ γ R D->t D σ H
end
section
variable {K:Za}{mg:Str->Option Value}{E:L2.St->XK}{H0 H H1 H':Hp}{B Z Z':Addr->Prop}{σ:L2.St}{γ:Γ}
def TVs.weakG {H1 H2:Hp}:∀{ss:List S}{vs:List V},Same H H1->TVs K Z H0 H1 H2 ss vs->TVs K Z H0 H H2 ss vs
 | _,_,_,.nil=>.nil
 | _,_,S1,.cons h r=>.cons (TV.weak S1 (fun _ z=>z) h) (TVs.weakG S1 r)
def TVs.rps (h0:Same H0 H'):∀{ss:List S}{vs:List V},TVs K Z H0 H H' ss vs->Rps K H' (ss.map S.d) vs
 | _,_,.nil=>.nil
 | _,_,.cons h r=>.cons (h.rp h0) (TVs.rps h0 r)
def TVs.shd {ds:List D} (h0:Same H0 H') (hm:∀b,Z b->Mut (H b)) (S1:Same H H'):∀{ss:List S}{vs:List V}{ds:List D},TVs K Z H0 H H' ss vs->ss.map S.shd=ds.map some->Rps K (off Z H') ds vs
 | _,_,[],.nil,_=>.nil
 | _,_,_::_,.nil,e=>by cases e
 | _,_,[],.cons _ _,e=>by cases e
 | _,_,d::ds,.cons h r,e=>by
  rw[YA,YA,Qm] at e;exact .cons (h.shd h0 hm S1 e.1) (TVs.shd (ds:=ds) h0 hm S1 r e.2)
def Rp.int_inv {i:Int}{v:V} (h:Rp K H (.int i) v):v=.int i:=by cases h;rfl
def Rp.bl_inv {b:Bool}{v:V} (h:Rp K H (.bl b) v):v=.bl b:=by cases h;rfl
def Rp.str_inv {x:Str}{v:V} (h:Rp K H (.str x) v):v=.str x:=by cases h;rfl
def Rp.non_inv {v:V} (h:Rp K H .non v):v=.non:=by cases h;rfl
def Rp.ty_inv {n:String}{v:V} (h:Rp K H (.ty n) v):v=.ty n:=by cases h;rfl
def pVar (i:Nat):PTE:=fun γ R _=>match γ[i]? with
 | some (some (.own ds))=>R (.view ds)
 | some (some s)=>R s
 | _=>False
def Ju (i:Nat):SndE K mg E (tVar i) (pVar i):=by
 intro H0 B H σ γ R X Q env h q _;unfold pVar at h;split at h
 ·rename_i ds e;obtain⟨v,h1,a,rfl,h3,h4⟩:=env.slot i _ e;exact⟨_,h1,q _ _ H h (Same.refl _) ⟨a,rfl,h4⟩⟩
 ·rename_i s ns e;obtain⟨v,h1,h2⟩:=env.slot i _ e;refine⟨v,h1,q _ _ H h (Same.refl _) ?_⟩;cases s with
  | bor d=>exact h2
  | sh d=>exact h2
  | own ds=>exact absurd rfl (ns ds)
  | view ds=>exact h2.elim
  | tmp d=>exact h2.elim
 ·exact h.elim
def pC (d:D):PTE:=fun _ R _=>R (.sh d)
def se_c {d:D}{v:V} (h:∀H,Rp K H d v):SndE K mg E (tC v) (pC d):=by
 intro H0 B H σ γ R X Q env p q _;exact q _ _ H p (Same.refl _) (h _)
def Jv {i:Int}:SndE K mg E (tC (.int i)) (pC (.int i)):=se_c fun _=>.int i
def Us {b:Bool}:SndE K mg E (tC (.bl b)) (pC (.bl b)):=se_c fun _=>.bl b
def Zd3:SndE K mg E (tC .non) (pC .non):=se_c fun _=>.non
def Ub {x:Str}:SndE K mg E (tC (.str x)) (pC (.str x)):=se_c fun _=>.str x
def Kd {n:String}:SndE K mg E (tC (.ty n)) (pC (.ty n)):=se_c fun _=>.ty n
def p2 (a b:PTE) (f:S->S->(S->Prop)->Prop):PTE:=fun γ R X=>a γ (fun x=>b γ (fun y=>f x y R) X) X
def se_2 {r:R2}{ta tb:TE}{a b:PTE}{f:S->S->(S->Prop)->Prop} (ha:SndE K mg E ta a) (hb:SndE K mg E tb b)
  (hr:∀(H0 H H2:Hp) (Z:Addr->Prop) (x y:S) (v u:V) (R:S->Prop) (Q:VK),Same H0 H2->Same H H2->(∀b,Z b->Mut (H b))->TV K Z H0 H H2 x v->TV K Z H0 H H2 y u->f x y R->(∀s z H',R s->Same H2 H'->TV K Z H0 H H' s z->Q z H')->r v u H2 Q) :
  SndE K mg E (tOp r ta tb) (p2 a b f):=by
 intro H0 B H σ γ R X Q env p q qx;refine ha H0 B H σ γ _ X _ env p (fun x v H1 h1 S1 t1=>?_) qx;have env1:=env.grow S1;refine hb H0 B H1 σ γ _ X _ env1 h1 (fun y u H2 h2 S2 t2=>?_) fun c H' hc S'=>qx c H' hc (S1.trans S');exact hr H0 H H2 _ x y v u R Q (env1.same.trans S2) (S1.trans S2) env.zm (t1.grow S2) (TV.weak S1 (fun _ z=>z) t2) h2 fun s z H' hs S3 t3=>q s z H' hs ((S1.trans S2).trans S3) t3
def fI0 (g:Int->Int->D):S->S->(S->Prop)->Prop:=fun x y R=>match x.d,y.d with
 | .int i,.int j=>R (.sh (g i j))
 | _,_=>False
def fI (C:Int->Int->Prop) (g:Int->Int->D):S->S->(S->Prop)->Prop:=fun x y R=>match x.d,y.d with
 | .int i,.int j=>C i j/\R (.sh (g i j))
 | _,_=>False
def P1 {g:Int->Int->V}{g':Int->Int->D}{ta tb:TE}{a b:PTE} (hg:∀H i j,Rp K H (g' i j) (g i j)) (ha:SndE K mg E ta a) (hb:SndE K mg E tb b):SndE K mg E (tOp (rI0 g) ta tb) (p2 a b (fI0 g')):=by
 refine se_2 ha hb fun H0 H H2 Z x y v u R Q s0 s1 hm tx ty h q=>?_;unfold fI0 at h;have rx:=tx.rp s0;have ry:=ty.rp s0;split at h
 ·rename_i i j e1 e2;rw[e1] at rx;rw[e2] at ry;exact⟨i,j,rx.int_inv,ry.int_inv,q _ _ H2 h (Same.refl _) (hg _ i j)⟩
 ·exact h.elim
def se_I {C:Int->Int->Prop}{g:Int->Int->V}{g':Int->Int->D}{ta tb:TE}{a b:PTE} (hg:∀H i j,Rp K H (g' i j) (g i j)) (ha:SndE K mg E ta a) (hb:SndE K mg E tb b):SndE K mg E (tOp (rI C g) ta tb) (p2 a b (fI C g')):=by
 refine se_2 ha hb fun H0 H H2 Z x y v u R Q s0 s1 hm tx ty h q=>?_;unfold fI at h;have rx:=tx.rp s0;have ry:=ty.rp s0;split at h
 ·rename_i i j e1 e2;rw[e1] at rx;rw[e2] at ry;exact⟨i,j,rx.int_inv,ry.int_inv,h.1,q _ _ H2 h.2 (Same.refl _) (hg _ i j)⟩
 ·exact h.elim
section
variable {ta tb tc:TE}{a b c:PTE}
def JU (ha:SndE K mg E ta a) (hb:SndE K mg E tb b):SndE K mg E (tOp (rI0 fun i j=>.int (i+j)) ta tb) (p2 a b (fI0 fun i j=>.int (i+j))):=P1 (fun _ _ _=>.int _) ha hb
def UL (ha:SndE K mg E ta a) (hb:SndE K mg E tb b):SndE K mg E (tOp (rI0 fun i j=>.int (i-j)) ta tb) (p2 a b (fI0 fun i j=>.int (i-j))):=P1 (fun _ _ _=>.int _) ha hb
def KG (ha:SndE K mg E ta a) (hb:SndE K mg E tb b):SndE K mg E (tOp (rI CMul fun i j=>.int (i*j)) ta tb) (p2 a b (fI CMul fun i j=>.int (i*j))):=se_I (fun _ _ _=>.int _) ha hb
def Up (ha:SndE K mg E ta a) (hb:SndE K mg E tb b):SndE K mg E (tOp (rI CDiv fun i j=>.int (i / j)) ta tb) (p2 a b (fI CDiv fun i j=>.int (i / j))):=se_I (fun _ _ _=>.int _) ha hb
def JP (ha:SndE K mg E ta a) (hb:SndE K mg E tb b):SndE K mg E (tOp (rI (fun _ j=>0<j) fun i j=>.int (i % j)) ta tb) (p2 a b (fI (fun _ j=>0<j) fun i j=>.int (i % j))):=se_I (fun _ _ _=>.int _) ha hb
def Sd (ha:SndE K mg E ta a) (hb:SndE K mg E tb b):SndE K mg E (tOp (rI CPow fun i j=>.int (i ^ j.toNat)) ta tb) (p2 a b (fI CPow fun i j=>.int (i ^ j.toNat))):=se_I (fun _ _ _=>.int _) ha hb
def Xf (ha:SndE K mg E ta a) (hb:SndE K mg E tb b):SndE K mg E (tOp (rI0 fun i j=>.bl (decide (i<j))) ta tb) (p2 a b (fI0 fun i j=>.bl (decide (i<j)))):=P1 (fun _ _ _=>.bl _) ha hb
def Mf (ha:SndE K mg E ta a) (hb:SndE K mg E tb b):SndE K mg E (tOp (rI0 fun i j=>.bl (decide (i<=j))) ta tb) (p2 a b (fI0 fun i j=>.bl (decide (i<=j)))):=P1 (fun _ _ _=>.bl _) ha hb
def US (ha:SndE K mg E ta a) (hb:SndE K mg E tb b):SndE K mg E (tOp (rI0 fun i j=>.bl (decide (j<i))) ta tb) (p2 a b (fI0 fun i j=>.bl (decide (j<i)))):=P1 (fun _ _ _=>.bl _) ha hb
def PN (ha:SndE K mg E ta a) (hb:SndE K mg E tb b):SndE K mg E (tOp (rI0 fun i j=>.bl (decide (j<=i))) ta tb) (p2 a b (fI0 fun i j=>.bl (decide (j<=i)))):=P1 (fun _ _ _=>.bl _) ha hb
def fEq (neg:Bool):S->S->(S->Prop)->Prop:=fun x y R=>match x.d,y.d with
 | .int i,.int j=>R (.sh (.bl (if neg then !decide (i=j) else decide (i=j))))
 | .str i,.str j=>R (.sh (.bl (if neg then !decide (i=j) else decide (i=j))))
 | .bl i,.bl j=>R (.sh (.bl (if neg then !decide (i=j) else decide (i=j))))
 | _,_=>False
def Pr {α β:Type} [DecidableEq α] [DecidableEq β] {f:α->β} (hf:∀a b,f a=f b->a=b) (a b:α):decide (f a=f b)=decide (a=b):=by
 by_cases e:a=b
 ·rw[Ys e,Ys (YS f e)]
 ·rw[YB e,YB fun z=>e (hf a b z)]
def fIx:S->S->(S->Prop)->Prop:=fun x y R=>match x.d,y.d with
 | .lst ds,.int k=>∃d,atI ds k=some d/\R (x.sub d)
 | .tup ds,.int k=>∃d,atI ds k=some d/\R (x.sub d)
 | .scr ns,.int k=>∃i,atI ns k=some i/\R (.sh (.int i))
 | _,_=>False
def Dl {ds:List D}{vs:List V}{k:Int}{d:D}{P:D->V->Prop} (hl:vs.length=ds.length) (h:∀(i:Nat) d,ds[i]?=some d->∃u,vs[i]?=some u/\P d u) (e:atI ds k=some d):∃u,atI vs k=some u/\P d u:=by
 unfold atI at e ⊢;rw[hl];cases q:ixN ds.length k with
 | none=>rw[q] at e;cases e
 | some j=>
  rw[q] at e;exact h j d e
def Jx (ha:SndE K mg E ta a) (hb:SndE K mg E tb b):SndE K mg E (tOp (fun x y H Q=>rIxL K x y H Q\/rIxT K x y H Q) ta tb) (p2 a b fIx):=by
 refine se_2 ha hb fun H0 H H2 Z x y v u R Q s0 s1 hm tx ty h q=>?_;unfold fIx at h;have ry:=ty.rp s0;obtain⟨pl,pt⟩:=tx.part s0 hm s1;split at h
 ·rename_i ds k e1 e2;rw[e2] at ry;obtain⟨d,hd,hR⟩:=h;obtain⟨l,vs,rfl,hl,hn,hp⟩:=pl ds e1;obtain⟨z,hz,tz⟩:=Dl hn hp hd;exact .inl ⟨l,vs,k,z,rfl,ry.int_inv,SqL.of hl,hz,q _ _ H2 hR (Same.refl _) tz⟩
 ·rename_i ds k e1 e2;rw[e2] at ry;obtain⟨d,hd,hR⟩:=h;obtain⟨l,vs,rfl,hl,hn,hp⟩:=pt ds e1;obtain⟨z,hz,tz⟩:=Dl hn hp hd;exact .inr ⟨l,vs,k,z,rfl,ry.int_inv,SqT.of hl,hz,q _ _ H2 hR (Same.refl _) tz⟩
 ·rename_i ns k e1 e2;rw[e2] at ry;obtain⟨i,hi,hR⟩:=h;have rx:=tx.rp s0;rw[e1] at rx;cases rx with
  | scr hs=>exact .inl ⟨_,_,k,.int i,rfl,ry.int_inv,hs,Kx hi,q _ _ H2 hR (Same.refl _) (.int i)⟩
 ·exact h.elim
def Hr (a b:PTE):PTE:=fun γ R X=>a γ (fun x=>match x.d with | .bl c=>if c=true then b γ R X else R (.sh (.bl false))|_=>False) X
def Zar (a:PTE):PTE:=fun γ R X=>a γ (fun x=>match x.d with | .bl c=>R (.sh (.bl (!c)))|_=>False) X
def Ti (ha:SndE K mg E ta a) (hb:SndE K mg E tb b):SndE K mg E (GI ta tb) (Hr a b):=by
 intro H0 B H σ γ R X Q env p q qx;refine ha H0 B H σ γ _ X _ env p (fun x v H1 h1 S1 t1=>?_) qx;have env1:=env.grow S1;have rx:=t1.rp env1.same;split at h1
 ·rename_i c e1;rw[e1] at rx;refine⟨c,rx.bl_inv,?_⟩;split at h1
  ·rename_i hc;rw[Yr hc];exact hb H0 B H1 σ γ _ X _ env1 h1 (fun y u H2 h2 S2 t2=>q y u H2 h2 (S1.trans S2) (TV.weak S1 (fun _ z=>z) t2)) fun c H' hc S'=>qx c H' hc (S1.trans S')
  ·rename_i hc;rw[Yq hc];exact q _ _ H1 h1 S1 (.bl _)
 ·exact h1.elim
def SE (ha:SndE K mg E ta a):SndE K mg E (Gx ta) (Zar a):=by
 intro H0 B H σ γ R X Q env p q qx;refine ha H0 B H σ γ _ X _ env p (fun x v H1 h1 S1 t1=>?_) qx;have rx:=t1.rp (env.grow S1).same;split at h1
 ·rename_i c e1;rw[e1] at rx;exact⟨c,rx.bl_inv,q _ _ H1 h1 S1 (.bl _)⟩
 ·exact h1.elim
def pNeg (a:PTE):PTE:=fun γ R X=>a γ (fun x=>match x.d with | .int i=>R (.sh (.int (-i)))|_=>False) X
def U8 (ha:SndE K mg E ta a):SndE K mg E (tUn (rU fun i=>.int (-i)) ta) (pNeg a):=by
 intro H0 B H σ γ R X Q env p q qx;refine ha H0 B H σ γ _ X _ env p (fun x v H1 h1 S1 t1=>?_) qx;have rx:=t1.rp (env.grow S1).same;split at h1
 ·rename_i c e1;rw[e1] at rx;exact⟨c,rx.int_inv,q _ _ H1 h1 S1 (.int _)⟩
 ·exact h1.elim
def Ek (a:PTE):PTT:=fun γ R X=>a γ (fun x=>match x.d with | .bl c=>R c|_=>False) X
def J6 (ha:SndE K mg E ta a):SndT K mg E (Ng ta) (Ek a):=by
 intro H0 B H σ γ R X Q env p q qx;refine ha H0 B H σ γ _ X _ env p (fun x v H1 h1 S1 t1=>?_) qx;have rx:=t1.rp (env.grow S1).same;split at h1
 ·rename_i c e1;rw[e1] at rx;exact⟨c,rx.bl_inv,q _ H1 h1 S1⟩
 ·exact h1.elim
def st_b (ha:SndE K mg E ta a):SndT K mg E (tB ta) (Ek a):=J6 ha
variable {sa sb:TT}{pa pb:PTT}
def pAnd (a b:PTT):PTT:=fun γ R X=>a γ (fun c=>if c=true then b γ R X else R false) X
def pOr (a b:PTT):PTT:=fun γ R X=>a γ (fun c=>if c=true then R true else b γ R X) X
def pNot (a:PTT):PTT:=fun γ R X=>a γ (fun c=>R (!c)) X
def KL (ha:SndT K mg E sa pa) (hb:SndT K mg E sb pb):SndT K mg E (tAnd sa sb) (pAnd pa pb):=by
 intro H0 B H σ γ R X Q env p q qx;refine ha H0 B H σ γ _ X _ env p (fun c H1 h1 S1=>?_) qx;split at h1
 ·rename_i hc;rw[Yr hc];exact hb H0 B H1 σ γ _ X _ (env.grow S1) h1 (fun y H2 h2 S2=>q y H2 h2 (S1.trans S2)) fun c H' hc S'=>qx c H' hc (S1.trans S')
 ·rename_i hc;rw[Yq hc];exact q _ H1 h1 S1
def U0 (ha:SndT K mg E sa pa) (hb:SndT K mg E sb pb):SndT K mg E (tOr sa sb) (pOr pa pb):=by
 intro H0 B H σ γ R X Q env p q qx;refine ha H0 B H σ γ _ X _ env p (fun c H1 h1 S1=>?_) qx;split at h1
 ·rename_i hc;rw[Yr hc];exact q _ H1 h1 S1
 ·rename_i hc;rw[Yq hc];exact hb H0 B H1 σ γ _ X _ (env.grow S1) h1 (fun y H2 h2 S2=>q y H2 h2 (S1.trans S2)) fun c H' hc S'=>qx c H' hc (S1.trans S')
def UM (ha:SndT K mg E sa pa):SndT K mg E (tNot sa) (pNot pa):=by
 intro H0 B H σ γ R X Q env p q qx;exact ha H0 B H σ γ _ X _ env p (fun c H1 h1 S1=>q _ H1 h1 S1) qx
end
def pNil:PTA:=fun _ R _=>R []
def KF (a:PTE) (r:PTA):PTA:=fun γ R X=>a γ (fun s=>r γ (fun ss=>R (s::ss)) X) X
def JJ:SndA K mg E tNil pNil:=by
 intro H0 B H σ γ R X Q env p q _;exact q _ _ H p (Same.refl _) .nil
def JK {te:TE}{ta:TA}{a:PTE}{r:PTA} (ha:SndE K mg E te a) (hr:SndA K mg E ta r):SndA K mg E (UJ te ta) (KF a r):=by
 intro H0 B H σ γ R X Q env p q qx;refine ha H0 B H σ γ _ X _ env p (fun s v H1 h1 S1 t1=>?_) qx;refine hr H0 B H1 σ γ _ X _ (env.grow S1) h1 (fun ss vs H2 h2 S2 t2=>?_) fun c H' hc S'=>qx c H' hc (S1.trans S');exact q _ _ H2 h2 (S1.trans S2) (.cons (t1.grow S2) (TVs.weakG S1 t2))
def shds:List S->Option (List D)
 | []=>some []
 | s::r=>match s.shd,shds r with
  | some d,some ds=>some (d::ds)
  | _,_=>none
def FM:∀{ss:List S}{ds:List D},shds ss=some ds->ss.map S.shd=ds.map some
 | [],ds,h=>by cases h;rfl
 | s::r,ds,h=>by
  unfold shds at h;split at h
  ·rename_i d es e1 e2;cases h
   rw[YA,YA,e1,FM e2]
  ·cases h
def pTup (r:PTA):PTE:=fun γ R X=>r γ (fun ss=>match shds ss with|some ds=>ds.length<=1000/\R (.sh (.tup ds))|none=>False) X
def pLst (r:PTA):PTE:=fun γ R X=>r γ (fun ss=>match shds ss with|some ds=>ds.length<=1000/\R (.own ds)|none=>False) X
def BB {n:Nat} (h:n<=1000):n<=sizeLine:=Q1 (LI h)
def JS {ta:TA}{r:PTA} (hr:SndA K mg E ta r):SndE K mg E (tTup ta) (pTup r):=by
 intro H0 B H σ γ R X Q env p q qx;refine hr H0 B H σ γ _ X _ env p (fun ss vs H1 h1 S1 t1=>?_) qx;split at h1
 ·rename_i ds e;have env1:=env.grow S1;have rp:=t1.shd (ds:=ds) env1.same env.zm S1 (FM e);refine⟨by rw[rp.len];exact BB h1.1,fun l nl=>?_⟩;have S2:=UB (o:=.tup vs) nl;refine q _ _ _ h1.2 (S1.trans S2) (.tup (Uu Uj fun z=>?_) (Rps.mono (JM S2 fun _ _ _ z=>z) rp))
  have:=env1.zm l z
  rw[nl] at this;exact this
 ·exact h1.elim
def KJ {H H1:Hp}{l:Addr}{vs:List V}{ds:List D} (S1:Same H H1) (nl:H1 l=none) (rp:Rps K (off Z H1) ds vs):TV K Z H0 H (upd H1 l (.lst vs)) (.own ds) (.ref l):=
 ⟨l,rfl,(fun _ e=>e▸S1.free nl),vs,Uj,Rps.mono (JM (UB nl) fun b o hb z y=>y.elim z fun e=>by rw[e,nl] at hb;cases hb) rp⟩
def JI {ta:TA}{r:PTA} (hr:SndA K mg E ta r):SndE K mg E (tLst ta) (pLst r):=by
 intro H0 B H σ γ R X Q env p q qx;refine hr H0 B H σ γ _ X _ env p (fun ss vs H1 h1 S1 t1=>?_) qx;split at h1
 ·rename_i ds e;have env1:=env.grow S1;have rp:=t1.shd (ds:=ds) env1.same env.zm S1 (FM e);refine⟨by rw[rp.len];exact BB h1.1,fun l nl=>?_⟩;exact q _ _ _ h1.2 (S1.trans (UB nl)) (KJ S1 nl rp)
 ·exact h1.elim
abbrev Pc:=List D->(S->Prop)->XR->Prop
def spOf (mg:Str->Option Value) (c:Pc) (K:Za):Sp:=fun vs H Q E=>∃ds R X,Rps K H ds vs/\c ds R X/\(∀s v H',R s->Same H H'->TV K (fun b=>Mut (H b)) H H H' s v->Q v H')/\∀e H',X e->Same H H'->E (.ref (ExcR.J3 mg e)) none H'
def S.back:S->S
 | .bor d=>argT d | .view o=>.tmp o.d|s=>s
def TV.back {s:S}{v:V} (env:EnvR K H0 B H1 σ γ) (S1:Same H H1) (S2:Same H1 H') (h:TV K (fun b=>Mut (H1 b)) H1 H1 H' s v):TV K (zof B γ σ) H0 H H' s.back v:=by
 cases s with
 | bor d=>exact PX (fun b z=>XG S2 (env.zm b z)) (Rp.mono S2 h)
 | sh d=>exact Rp.mono (JM (Same.refl _) fun b _ _ z y=>z (env.zm b y)) h
 | own ds=>
  obtain⟨a,rfl,e0,r⟩:=h;exact⟨a,rfl,(fun b hb=>S1.free (e0 b hb)),r.mono (JM (Same.refl _) fun b _ _ z y=>z (y.imp (env.zm b) id)) fun _ _ _ q=>q⟩
 | view ds=>
  obtain⟨a,rfl,r⟩:=h;exact r.rp off_sub
 | tmp d=>exact h
def HQ (c:Pc) (r:PTA):PTE:=fun γ R X=>r γ (fun ss=>c (ss.map S.d) (fun s=>R s.back) fun _=>False) X
def Hq (c:Pc) (r:PTA):PTE:=fun γ R X=>r γ (fun ss=>c (ss.map S.d) (fun s=>R s.back) X) X
def J9 {c:Pc}{ta:TA}{r:PTA} (hr:SndA K mg E ta r):SndE K mg E (K6 (spOf mg c K) [] E0 ta) (HQ c r):=by
 intro H0 B H σ γ R X Q env p q qx;refine hr H0 B H σ γ _ X _ env p (fun ss vs H1 h1 S1 t1=>?_) qx;rw[We];have env1:=env.grow S1;exact⟨_,_,_,t1.rps env1.same,h1,fun s v H' hs S2 tv=>q _ _ H' hs (S1.trans S2) (tv.back env1 S1 S2),fun _ _ z=>z.elim⟩
def Xl {c:Pc}{ta:TA}{r:PTA}{Ec:XK} (hr:SndA K mg (fun _=>Ec) ta r):SndE K mg (fun _=>Ec) (K6 (spOf mg c K) [] Ec ta) (Hq c r):=by
 intro H0 B H σ γ R X Q env p q qx;refine hr H0 B H σ γ _ X _ env p (fun ss vs H1 h1 S1 t1=>?_) qx;rw[We];have env1:=env.grow S1;exact⟨_,_,X,t1.rps env1.same,h1,fun s v H' hs S2 tv=>q _ _ H' hs (S1.trans S2) (tv.back env1 S1 S2),fun e H' he S2=>qx e H' he (S1.trans S2)⟩
end
section
variable {K:Za}{mg:Str->Option Value}{E:L2.St->XK}{H0 H H1 H':Hp}{B Z Z':Addr->Prop}{σ:L2.St}{γ:Γ}
def EnvR.set {i:Nat}{s s':S}{v:V} (Ev:EnvR K H0 B H σ γ) (S1:Same H H') (h:TV K (zof B γ σ) H0 H H' s v) (e:s.slot=some s') :
  EnvR K H0 B H' (σ.set i (some v)) (γ.set i (some s'))/\Fr B H σ γ H' (σ.set i (some v)) (γ.set i (some s')):=by
 by_cases hi:i<γ.length
 ·exact Ev.put S1 h e hi
 ·rw[List.set_eq_of_length_le (by rw[Ev.len];omega),List.set_eq_of_length_le (by omega)];exact⟨Ev.grow S1,Fr.grow S1⟩
def Upd (is:List Nat) (σ σ':L2.St):Prop:=(∀j,j∉is->σ'[j]?=σ[j]?)/\σ'.length=σ.length
def KQ (K:Za) (is:List Nat) (t:TG) (p:PTG):Prop:=∀(H0:Hp) (B:Addr->Prop) (H H':Hp) (σ:L2.St) (γ:Γ) (s:S) (v:V) (R:Γ->Prop) (Q:L2.St->Hp->Prop),EnvR K H0 B H σ γ->Same H H'->TV K (zof B γ σ) H0 H H' s v->p s γ R->
 (∀σ' γ',R γ'->EnvR K H0 B H' σ' γ'->Fr B H σ γ H' σ' γ'->Upd is σ σ'->Q σ' H')->t v σ H' Q
def GG (i:Nat):PTG:=fun s γ R=>match s.slot with|some s'=>R (γ.set i (some s'))|none=>False
def J2 (i:Nat):KQ K [i] (P3 i) (GG i):=by
 intro H0 B H H' σ γ s v R Q env S1 tv p q;unfold GG at p;split at p
 ·rename_i s' e;obtain⟨e1,f1⟩:=env.set (i:=i) S1 tv e;exact q _ _ p e1 f1 ⟨fun j hj=>Pd fun z=>hj (by rw[z];exact Y0.mpr rfl),W2⟩
 ·exact p.elim
def LS:PTGs:=fun ss γ R=>match ss with|[]=>R γ|_=>False
def Ls (g:PTG) (r:PTGs):PTGs:=fun ss γ R=>match ss with|s::t=>g s γ fun γ'=>r t γ' R|[]=>False
def TV.notown {s:S}{v:V}{σ':L2.St}{γ':Γ}{Hb:Hp} (f:Fr B H σ γ H' σ' γ') (hb:Same H H') (n:∀ds,s≠.own ds) (nv:∀ds,s≠.view ds) (h:TV K (zof B γ σ) H0 Hb H s v):TV K (zof B γ' σ') H0 H' H' s v:=by
 cases s with
 | bor d=>exact h
 | sh d=>exact Rp.mono f.off h
 | own ds=>exact absurd rfl (n ds)
 | view ds=>exact absurd rfl (nv ds)
 | tmp d=>exact Rp.mono hb h
def TVs.notown {σ':L2.St}{γ':Γ}{Hb:Hp} (f:Fr B H σ γ H σ' γ'):∀{ss:List S}{vs:List V},(∀s∈ss,∀ds,s≠.own ds/\s≠.view ds)->TVs K (zof B γ σ) H0 Hb H ss vs->TVs K (zof B γ' σ') H0 H H ss vs
 | _,_,_,.nil=>.nil
 | _,_,n,.cons h r=>.cons (h.notown f (Same.refl _) (fun ds=>(n _ YK ds).1) fun ds=>(n _ YK ds).2) (TVs.notown f (fun s hs=>n s (YF _ hs)) r)
def SQ (d:D):arg d=.sh d\/arg d=.bor d:=by unfold arg;cases imm d<;>simp
def Rn (d:D):argT d=.sh d\/argT d=.tmp d:=by unfold argT;cases imm d<;>simp
def Gs (s:S) (d:D):∀ds,s.sub d≠.own ds/\s.sub d≠.view ds:=fun ds=>by
 cases s with
 | bor b=>rcases SQ d with e|e<;>(show arg d≠_/\arg d≠_;rw[e];exact⟨(fun z=>by cases z),(fun z=>by cases z)⟩)
 | tmp b=>rcases Rn d with e|e<;>(show argT d≠_/\argT d≠_;rw[e];exact⟨(fun z=>by cases z),(fun z=>by cases z)⟩)
 | sh b=>exact⟨(fun z=>by cases z),(fun z=>by cases z)⟩
 | own b=>exact⟨(fun z=>by cases z),(fun z=>by cases z)⟩
 | view b=>exact⟨(fun z=>by cases z),(fun z=>by cases z)⟩
def N0 (K:Za) (is:List Nat) (t:TGs) (p:PTGs):Prop:=∀(H0:Hp) (B:Addr->Prop) (H:Hp) (σ:L2.St) (γ:Γ) (ss:List S) (vs:List V) (R:Γ->Prop) (Q:L2.St->Hp->Prop),EnvR K H0 B H σ γ->TVs K (zof B γ σ) H0 H H ss vs->(∀s∈ss,∀ds,s≠.own ds/\s≠.view ds)->p ss γ R->
 (∀σ' γ',R γ'->EnvR K H0 B H σ' γ'->Fr B H σ γ H σ' γ'->Upd is σ σ'->Q σ' H)->t vs σ H Q
def Nq:N0 K [] gNil LS:=by
 intro H0 B H σ γ ss vs R Q env tv no p q;cases tv with
 | nil=>exact⟨rfl,q _ _ p env Fr.refl ⟨fun _ _=>rfl,rfl⟩⟩
 | cons _ _=>exact p.elim
def Ky {is js:List Nat}{g:TG}{r:TGs}{pg:PTG}{pr:PTGs} (hg:KQ K is g pg) (hr:N0 K js r pr):N0 K (is++js) (GQ g r) (Ls pg pr):=by
 intro H0 B H σ γ ss vs R Q env tv no p q;cases tv with
 | nil=>exact p.elim
 | cons h t=>
  refine⟨_,_,rfl,hg H0 B H H σ γ _ _ _ _ env (Same.refl _) h p fun σ1 γ1 p1 e1 f1 k1=>?_⟩;refine hr H0 B H σ1 γ1 _ _ _ _ e1 (TVs.notown f1 (fun s hs=>no s (YF _ hs)) t) (fun s hs=>no s (YF _ hs)) p1 fun σ2 γ2 p2 e2 f2 k2=>?_;exact q σ2 γ2 p2 e2 (f1.trans f2) ⟨fun j hj=>(k2.1 j fun z=>hj (YR _ z)).trans (k1.1 j fun z=>hj (WX _ z)),k2.2.trans k1.2⟩
def CO (n:Nat) (r:PTGs):PTG:=fun s γ R=>match s.d with | .tup ds=>ds.length=n/\r (ds.map s.sub) γ R|_=>False
def TVs.of_part {ds:List D}{s:S}:∀{vs:List V}{ds:List D},vs.length=ds.length->(∀(i:Nat) d,ds[i]?=some d->∃u,vs[i]?=some u/\TV K Z H0 H H' (s.sub d) u)->TVs K Z H0 H H' (ds.map s.sub) vs
 | [],[],_,_=>.nil
 | [],_::_,e,_=>by cases e
 | _::_,[],e,_=>by cases e
 | v::vs,d::ds,e,h=>by
  obtain⟨u,h1,h2⟩:=h 0 d rfl;cases h1
  exact .cons h2 (TVs.of_part (ds:=ds) (by simpa using e) fun i d' hd=>by simpa using h (i+1) d' (by simpa using hd))
def N2 {n:Nat}{is:List Nat}{r:TGs}{pr:PTGs} (hr:N0 K is r pr):KQ K is (gTup K n r) (CO n pr):=by
 intro H0 B H H' σ γ s v R Q env S1 tv p q;unfold CO at p;have env1:=env.grow S1;obtain⟨_,pt⟩:=tv.part env1.same env.zm S1;split at p
 ·rename_i ds e;obtain⟨a,vs,rfl,ha,hn,hp⟩:=pt ds e;refine⟨a,vs,rfl,SqT.of ha,hn.trans p.1,?_⟩;have tvs:=TVs.of_part (ds:=ds) hn hp;refine hr H0 B H' σ γ _ vs R Q env1 (TVs.notown (Fr.refl) (fun s' hs ds=>?_) tvs) (fun s' hs ds=>?_) p.2 fun σ' γ' hR e1 f1 k1=>q σ' γ' hR e1 (Fr.trans (Fr.grow S1) f1) k1
  ·obtain⟨d,_,rfl⟩:=YT.mp hs;exact Gs s d ds
  ·obtain⟨d,_,rfl⟩:=YT.mp hs;exact Gs s d ds
 ·exact p.elim
def EndR.from {R:PEnds}{D:Ends}{σ1:L2.St}{γ1:Γ} (e:EndR K mg E H0 B H σ γ R D) (f:Fr B H σ γ H1 σ1 γ1):EndR K mg E H0 B H1 σ1 γ1 R D:=
 ⟨fun σ' γ' H' h1 h2 h3=>e.nx σ' γ' H' h1 h2 (f.trans h3),e.rt,fun σ' γ' c H' h1 h2 h3=>e.ex σ' γ' c H' h1 h2 (f.trans h3),fun σ' γ' H' h1 h2 h3=>e.bk σ' γ' H' h1 h2 (f.trans h3),fun σ' γ' H' h1 h2 h3=>e.ct σ' γ' H' h1 h2 (f.trans h3),fun σ' γ' d v H' h1 h2 h3=>e.rv σ' γ' d v H' h1 h2 (f.trans h3)⟩
variable {te:TE}{a:PTE}{tt:TT}{c:PTT}{t u:TS}{p q:PTS}
def LZ:PTS:=fun R γ=>R.nx γ
def JB:SndS K mg E Cb LZ:=fun _ _ _ _ _ _ _ _ env h e=>e.nx _ _ _ h env Fr.refl
def pSeq (p q:PTS):PTS:=fun R γ=>p { R with nx:=q R } γ
def Jy (hp:SndS K mg E t p) (hq:SndS K mg E u q):SndS K mg E (tSeq t u) (pSeq p q):=by
 intro H0 B H σ γ R D hB env h e;refine hp H0 B H σ γ _ _ hB env h ⟨fun σ' γ' H' h1 e1 f1=>?_,e.rt,e.ex,e.bk,e.ct,e.rv⟩;exact hq H0 B H' σ' γ' R D hB e1 h1 (e.from f1)
structure JoinW (p q:PTS) (R:PEnds) (γ:Γ):Prop where
 w:∃J:Γ->Prop,p { R with nx:=J } γ/\∀γ',J γ'->q R γ'
def LK (p q:PTS):PTS:=fun R γ=>JoinW p q R γ
def Kp (hp:SndS K mg E t p) (hq:SndS K mg E u q):SndS K mg E (Gq t u) (LK p q):=by
 intro H0 B H σ γ R D hB env h e;obtain⟨J,h,k⟩:=h.w;refine⟨fun σ' H'=>∃γ',J γ'/\EnvR K H0 B H' σ' γ'/\Fr B H σ γ H' σ' γ',hp H0 B H σ γ _ _ hB env h ⟨fun σ' γ' H' h1 e1 f1=>⟨γ',h1,e1,f1⟩,e.rt,e.ex,e.bk,e.ct,e.rv⟩,?_⟩;rintro σ' H' ⟨γ',h1,e1,f1⟩;exact hq H0 B H' σ' γ' R D hB e1 (k γ' h1) (e.from f1)
def pFrz (i:Nat) (p:PTS):PTS:=fun R γ=>p R (frz i γ)
def JE (i:Nat) (hp:SndS K mg E t p):SndS K mg E t (pFrz i p):=by
 intro H0 B H σ γ R D hB env h e;obtain⟨e1,f1⟩:=env.frz hB i;exact hp H0 B H σ _ R D hB e1 h (e.from f1)
def pAsg (a:PTE) (g:PTG):PTS:=fun R γ=>a γ (fun s=>g s γ R.nx) (R.ex γ)
def J7 {is:List Nat}{g:TG}{pg:PTG} (ha:SndE K mg E te a) (hg:KQ K is g pg):SndS K mg E (tAsg te g) (pAsg a pg):=by
 intro H0 B H σ γ R D hB env h e;refine ha H0 B H σ γ _ _ _ env h (fun s v H1 h1 S1 t1=>?_) fun c H' hc S'=>e.ex σ γ c H' hc (env.grow S') (Fr.grow S');exact hg H0 B H H1 σ γ s v _ _ env S1 t1 h1 fun σ' γ' h2 e2 f2 _=>e.nx σ' γ' H1 h2 e2 f2
def pAug (i:Nat) (f:Int->Int->Int) (a:PTE):PTS:=fun R γ=>match γ[i]? with
 | some (some (.sh (.int x)))=>a γ (fun y=>match y.d with | .int j=>R.nx (γ.set i (some (.sh (.int (f x j)))))|_=>False) (R.ex γ)
 | _=>False
def GD {i:Nat}{f:Int->Int->Int} (ha:SndE K mg E te a):SndS K mg E (tAug i te (ipI f)) (pAug i f a):=by
 intro H0 B H σ γ R D hB env h e;unfold pAug at h;split at h
 ·rename_i x hx;obtain⟨v,h1,h2⟩:=env.slot i _ hx;refine⟨v,h1,ha H0 B H σ γ _ _ _ env h (fun y u H1 h3 S1 t1=>?_) fun c H' hc S'=>e.ex σ γ c H' hc (env.grow S') (Fr.grow S')⟩;have rx:=t1.rp (env.grow S1).same;split at h3
  ·rename_i j ej;rw[ej] at rx;refine⟨x,j,Rp.int_inv h2,rx.int_inv,?_⟩;obtain⟨e1,f1⟩:=env.set (i:=i) (s:=.sh (.int (f x j))) (v:=.int (f x j)) S1 (.int _) rfl;exact e.nx _ _ H1 h3 e1 f1
  ·exact h3.elim
 ·exact h.elim
def pRet (a:PTE):PTS:=fun R γ=>a γ R.rt (R.ex γ)
def J8 (ha:SndE K mg E te a):SndS K mg E (tRet te) (pRet a):=by
 intro H0 B H σ γ R D hB env h e;refine ha H0 B H σ γ _ _ _ env h (fun s v H1 h1 S1 t1=>?_) fun c H' hc S'=>e.ex σ γ c H' hc (env.grow S') (Fr.grow S');exact e.rt s v H1 h1 (env.same.trans S1) (TV.weak env.same (fun b z=>.inl z) t1)
def E4 (i:Nat):PTS:=fun R γ=>match γ[i]? with|some (some s)=>R.rt s|_=>False
def XH (i:Nat):SndS K mg E (tRet (tVar i)) (E4 i):=by
 intro H0 B H σ γ R D hB env h e;unfold E4 at h;split at h
 ·rename_i s hs;obtain⟨v,h1,h2⟩:=env.slot i _ hs;refine⟨v,h1,e.rt s v H h env.same ?_⟩;cases s with
  | bor d=>exact h2
  | sh d=>exact Rp.mono (JM (Same.refl _) fun b _ _ z y=>z (.inl y)) h2
  | own ds=>
   obtain⟨l,rfl,e2,e3⟩:=h2;exact⟨l,rfl,e2,e3.mono (JM (Same.refl _) fun b _ _ z y=>z (y.elim .inl fun w=>.inr ⟨i,ds,l,hs,h1,w⟩)) fun _ _ _ q=>q⟩
  | view ds=>exact h2.elim
  | tmp d=>exact h2.elim
 ·exact h.elim
def pIfS (c:PTT) (p q:PTS):PTS:=fun R γ=>c γ (fun b=>if b=true then p R γ else q R γ) (R.ex γ)
def JD (hc:SndT K mg E tt c) (hp:SndS K mg E t p) (hq:SndS K mg E u q):SndS K mg E (tIfS tt t u) (pIfS c p q):=by
 intro H0 B H σ γ R D hB env h e;refine hc H0 B H σ γ _ _ _ env h (fun b H1 h1 S1=>?_) fun c H' hc S'=>e.ex σ γ c H' hc (env.grow S') (Fr.grow S');split at h1
 ·rename_i hb;rw[Yr hb];exact hp H0 B H1 σ γ R D hB (env.grow S1) h1 (e.from (Fr.grow S1))
 ·rename_i hb;rw[Yq hb];exact hq H0 B H1 σ γ R D hB (env.grow S1) h1 (e.from (Fr.grow S1))
def RW (a:PTE):PTS:=fun R γ=>a γ (fun _=>R.nx γ) (R.ex γ)
def Xc (ha:SndE K mg E te a):SndS K mg E (Nv te) (RW a):=by
 intro H0 B H σ γ R D hB env h e;exact ha H0 B H σ γ _ _ _ env h (fun s v H1 h1 S1 t1=>e.nx σ γ H1 h1 (env.grow S1) (Fr.grow S1)) fun c H' hc S'=>e.ex σ γ c H' hc (env.grow S') (Fr.grow S')
def Zem:PTS:=fun _ _=>False
def Oo:SndS K mg E Gn Zem:=fun _ _ _ _ _ _ _ _ _ h _=>h
def Zd4 (x:Str) (r:PTA):PTS:=fun R γ=>r γ (fun ss=>ss.length<=1000/\R.ex γ x) (R.ex γ)
def TVs.len:∀{ss:List S}{vs:List V},TVs K Z H0 H H' ss vs->vs.length=ss.length
 | _,_,.nil=>rfl
 | _,_,.cons _ r=>YS (· + 1) (TVs.len r)
def UV {x:Str}{ta:TA}{r:PTA}{Ec:XK} (hr:SndA K mg (fun _=>Ec) ta r):SndS K mg (fun _=>Ec) (ExcR.Dt (ExcR.J3 mg x) Ec ta) (Zd4 x r):=by
 intro H0 B H σ γ R D hB env h e;refine hr H0 B H σ γ _ _ _ env h (fun ss vs H1 h1 S1 t1=>⟨?_,?_⟩) fun c H' hc S'=>e.ex σ γ c H' hc (env.grow S') (Fr.grow S')
 ·rw[t1.len];exact BB h1.1
 ·exact e.ex σ γ x H1 h1.2 (env.grow S1) (Fr.grow S1)
def fPar (i j:Nat) (γ:Γ) (R:Γ->Prop):List S->Prop
 | [.sh d,.sh e]=>R ((γ.set i (some (.sh d))).set j (some (.sh e)))
 | _=>False
def clr:List Nat->Γ->Γ
 | [],γ=>γ
 | i::r,γ=>clr r (γ.set i none)
def EnvR.clr:∀(is:List Nat) {γ:Γ},EnvR K H0 B H σ γ->EnvR K H0 B H σ (clr is γ)/\Fr B H σ γ H σ (Pu.clr is γ)
 | [],_,e=>⟨e,Fr.refl⟩
 | i::r,γ,e=>by
  obtain⟨e1,f1⟩:=e.drop i;obtain⟨e2,f2⟩:=EnvR.clr r e1;exact⟨e2,f1.trans f2⟩
def Later (H0:Hp) (Z:Addr->Prop) (H1:Hp) (Z':Addr->Prop) (H':Hp):Prop:=Same H0 H'/\(∀b,Z' b->Mut (H' b))/\∀b o,H1 b=some o->¬Z b->H' b=some o/\¬Z' b
def Later.of {σ':L2.St}{γ':Γ} (e:EnvR K H0 B H' σ' γ') (f:Fr B H1 σ γ H' σ' γ'):Later H0 (zof B γ σ) H1 (zof B γ' σ') H':=⟨e.same,e.zm,f⟩
def Later.off (l:Later H0 Z H1 Z' H'):Same (off Z H1) (Pu.off Z' H'):=fun b o h=>by
 obtain⟨h1,h2⟩:=X9 h;obtain⟨h3,h4⟩:=l.2.2 b o h1 h2;exact Uu h3 h4
structure ItOk (K:Za) (H0:Hp) (B:Addr->Prop) (H1:Hp) (σ:L2.St) (γ:Γ) (J:It) (n:Nat) (item:Nat->S):Prop where
 go:∀(i:Nat) (H':Hp) (Z':Addr->Prop),i<n->Later H0 (zof B γ σ) H1 Z' H'->J.go i H'/\∀x H'',J.yld i H' x H''->Same H' H''/\TV K Z' H0 H' H'' (item i) x
 stop:∀(H':Hp) (Z':Addr->Prop),Later H0 (zof B γ σ) H1 Z' H'->J.stop n H'
abbrev PTI:=Γ->(Nat->(Nat->S)->Prop)->XR->Prop
def SndI (K:Za) (mg:Str->Option Value) (E:L2.St->XK) (wi:TI) (it:PTI):Prop:=∀(H0:Hp) (B:Addr->Prop) (H:Hp) (σ:L2.St) (γ:Γ) (R:Nat->(Nat->S)->Prop) (X:XR) (Q:It->Hp->Prop),EnvR K H0 B H σ γ->it γ R X->
 (∀n item J H1,R n item->Same H H1->ItOk K H0 B H1 σ γ J n item->Q J H1)->(∀c H',X c->Same H H'->E σ (.ref (ExcR.J3 mg c)) none H')->wi σ H Q
structure ForW (js:List Nat) (γ:Γ) (g:PTG) (body:PTS) (R:PEnds) (n:Nat) (item:Nat->S):Prop where
 w:∃inv:Nat->Γ->Prop,inv 0 (clr js γ)/\
 (∀i γ',i<n->inv i γ'->g (item i) γ' fun γ2=>body { R with nx:=fun γ3=>inv (i+1) (clr js γ3),ct:=fun γ3=>inv (i+1) (clr js γ3),bk:=R.nx } γ2)/\∀γ',inv n γ'->R.nx γ'
def pFor (js:List Nat) (it:PTI) (g:PTG) (body:PTS):PTS:=fun R γ=>it γ (fun n item=>ForW js γ g body R n item) (R.ex γ)
def U5 {is:List Nat}{wi:TI}{g:TG}{it:PTI}{pg:PTG} (js:List Nat) (hi:SndI K mg E wi it) (hg:KQ K is g pg) (hb:SndS K mg E t p):SndS K mg E (tFor wi g t) (pFor js it pg p):=by
 intro H0 B H σ γ R D hB env h e;refine hi H0 B H σ γ _ _ _ env h (fun n item J H1 h1 S1 ok=>?_) fun c H' hc S'=>e.ex σ γ c H' hc (env.grow S') (Fr.grow S');obtain⟨inv,h0,hs,hd⟩:=h1.w;have env1:=env.grow S1;refine⟨fun i m σ' H'=>m=n-i/\i<=n/\∃γ',inv i γ'/\EnvR K H0 B H' σ' γ'/\Fr B H1 σ γ H' σ' γ',⟨n,by simp,Wy _,_,h0,(env1.clr js).1,(env1.clr js).2⟩,?_⟩;rintro i m σ' H' ⟨rfl,hin,γ',hi',e',f'⟩;by_cases hlt:i<n
 ·obtain⟨go,yl⟩:=ok.go i H' _ hlt (Later.of e' f');refine .inr ⟨go,fun σ2 H2=>∃γ2,inv (i+1) γ2/\EnvR K H0 B H2 σ2 γ2/\Fr B H1 σ γ H2 σ2 γ2,fun σ2 H2 ⟨γ2,a1,a2,a3⟩=>⟨n-(i+1),by omega,rfl,hlt,γ2,a1,a2,a3⟩,fun x H'' y=>?_⟩;obtain⟨S2,tv⟩:=yl x H'' y;refine hg H0 B H' H'' σ' γ' _ _ _ _ e' S2 tv (hs i γ' hlt hi') fun σ2 γ2 q2 e2 f2 _=>?_;have fall:=f'.trans f2;refine hb H0 B H'' σ2 γ2 _ _ hB e2 q2 ⟨fun σ3 γ3 H3 q3 e3 f3=>?_,e.rt,fun σ3 γ3 c H3 q3 e3 f3=>e.ex σ3 γ3 c H3 q3 e3 ((Fr.grow S1).trans (fall.trans f3)),fun σ3 γ3 H3 q3 e3 f3=>e.nx σ3 γ3 H3 q3 e3 ((Fr.grow S1).trans (fall.trans f3)),fun σ3 γ3 H3 q3 e3 f3=>?_,fun σ3 γ3 d v H3 q3 e3 f3=>e.rv σ3 γ3 d v H3 q3 e3 ((Fr.grow S1).trans (fall.trans f3))⟩
  ·exact⟨_,q3,(e3.clr js).1,(fall.trans f3).trans (e3.clr js).2⟩
  ·exact⟨_,q3,(e3.clr js).1,(fall.trans f3).trans (e3.clr js).2⟩
 ·have:i=n:=by omega
  subst this;exact .inl ⟨ok.stop H' _ (Later.of e' f'),e.nx σ' γ' H' (hd γ' hi') e' ((Fr.grow S1).trans f')⟩
def S.fix:S->Bool
 | .bor _=>true | .sh _=>true | .own _=>true|_=>false
def pIL (a:PTE):PTI:=fun γ R X=>a γ (fun s=>match s.d with
 | .lst ds=>s.fix=true/\R ds.length fun i=>s.sub (ds.getD i .non)
 | .scr ns=>s.fix=true/\R ns.length fun i=>.sh (.int (ns.getD i 0))
 | _=>False) X
def TV.last {s:S}{v:V}{ds:List D} (env:EnvR K H0 B H σ γ) (S1:Same H H1) (tv:TV K (zof B γ σ) H0 H H1 s v) (hf:s.fix=true) (hd:s.d=.lst ds):∃l vs,v=.ref l/\vs.length=ds.length/\
  ∀(H':Hp) (Z':Addr->Prop),Later H0 (zof B γ σ) H1 Z' H'->H' l=some (.lst vs)/\∀(i:Nat) d,ds[i]?=some d->∃u,vs[i]?=some u/\TV K Z' H0 H' H' (s.sub d) u:=by
 have env1:=env.grow S1
 have key:∀{s:S},(∀d,s.sub d=.sh d)->Rp K (Pu.off (zof B γ σ) H1) (.lst ds) v->∃l vs,v=.ref l/\vs.length=ds.length/\
   ∀(H':Hp) (Z':Addr->Prop),Later H0 (zof B γ σ) H1 Z' H'->H' l=some (.lst vs)/\∀(i:Nat) d,ds[i]?=some d->∃u,vs[i]?=some u/\TV K Z' H0 H' H' (s.sub d) u:=fun hs h=>by
  obtain⟨l,vs,rfl,h1,h2⟩:=Rp.lst_inv h;refine⟨l,vs,rfl,h2.len,fun H' Z' lt=>⟨off_sub _ _ (lt.off _ _ h1),fun i d hi=>?_⟩⟩;obtain⟨u,h3,h4⟩:=h2.get hi;refine⟨u,h3,?_⟩;rw[hs];exact Rp.mono lt.off h4
 cases s with
 | bor d=>
  have tv:=Rp.strip tv;rw[show d.strip=.lst ds from hd] at tv
  obtain⟨l,vs,rfl,h1,h2⟩:=Rp.lst_inv tv;refine⟨l,vs,rfl,h2.len,fun H' Z' lt=>⟨lt.1 _ _ h1,fun i d hi=>?_⟩⟩;obtain⟨u,h3,h4⟩:=h2.get hi;exact⟨u,h3,argR lt.2.1 lt.1 h4⟩
 | sh d=>
  have:d=.lst ds:=hd
  subst this;exact key (fun _=>rfl) tv
 | own es=>
  cases es with
  | lst es=>
   cases hd
   exact key (fun _=>rfl) (tv.shd env1.same env.zm S1 rfl)
  | lsA x es=>
   cases hd
   exact key (fun _=>rfl) (tv.shd env1.same env.zm S1 rfl)
  | dK es=>cases hd
  | dT es=>cases hd
  | ins x C xs cs=>cases hd
 | view es=>cases hf
 | tmp d=>cases hf
def X3 {te:TE}{a:PTE} (ha:SndE K mg E te a):SndI K mg E (T5 K te) (pIL a):=by
 intro H0 B H σ γ R X Q env h q qx;refine ha H0 B H σ γ _ X _ env h (fun s v H1 h1 S1 t1=>?_) qx;have env1:=env.grow S1;split at h1
 ·rename_i ds ed;obtain⟨l,vs,rfl,hn,hl⟩:=t1.last env S1 h1.1 ed;obtain⟨hl1,_⟩:=hl H1 _ (Later.of env1 Fr.refl);refine⟨l,rfl,⟨vs,SqL.of hl1⟩,q _ _ _ H1 h1.2 S1 ⟨fun i H' Z' hi lt=>?_,fun H' Z' lt=>?_⟩⟩
  ·obtain⟨k1,k2⟩:=hl H' Z' lt;have hd:ds[i]?=some (ds.getD i .non):=by rw[Y1,Yo hi];rfl
   obtain⟨u,hu,tu⟩:=k2 i _ hd;refine⟨⟨vs,u,SqL.of k1,hu⟩,fun x H'' y=>?_⟩;obtain⟨rfl,y⟩:=y
   have:=y vs (SqL.of k1)
   rw[hu] at this;cases this
   exact⟨Same.refl _,tu⟩
  ·exact⟨vs,SqL.of (hl H' Z' lt).1,by omega⟩
 ·rename_i ns ed
  have hs:∃l,v=.ref l/\∀(H':Hp) (Z':Addr->Prop),Later H0 (zof B γ σ) H1 Z' H'->SqL K H' l (ns.map V.int):=by
   cases s with
   | bor d=>
    have t1:=Rp.strip t1;rw[show d.strip=.scr ns from ed] at t1
    cases t1 with
    | scr hs=>exact⟨_,rfl,fun H' Z' lt=>lt.1.seq hs⟩
   | sh d=>
    have:d=.scr ns:=ed
    subst this;cases t1 with
    | scr hs=>exact⟨_,rfl,fun H' Z' lt=>off_sub.seq (lt.off.seq hs)⟩
   | own es=>cases es<;>cases ed
   | view es=>cases es<;>cases ed
   | tmp d=>cases h1.1
  obtain⟨l,rfl,hl⟩:=hs;refine⟨l,rfl,⟨_,hl H1 _ (Later.of env1 Fr.refl)⟩,q _ _ _ H1 h1.2 S1 ⟨fun i H' Z' hi lt=>?_,fun H' Z' lt=>?_⟩⟩
  ·have k1:=hl H' Z' lt
   have hu:(ns.map V.int)[i]?=some (.int (ns.getD i 0)):=by
    rw[Yz,Yo hi,Y1,Yo hi];rfl
   refine⟨⟨_,_,k1,hu⟩,fun x H'' y=>?_⟩;obtain⟨rfl,y⟩:=y
   have:=y _ k1
   rw[hu] at this;cases this
   exact⟨Same.refl _,.int _⟩
  ·exact⟨_,hl H' Z' lt,by rw[Yn];exact Yx _⟩
 ·exact h1.elim
def fR1 (R:Nat->(Nat->S)->Prop):List D->Prop
 | [.int j]=>(-(2 ^ 62)<=j/\j<2 ^ 62)/\R j.toNat fun i=>.sh (.int (0+(i:Int)))
 | _=>False
def fR2 (R:Nat->(Nat->S)->Prop):List D->Prop
 | [.int i,.int j]=>(-(2 ^ 62)<=i/\i<2 ^ 62/\-(2 ^ 62)<=j/\j<2 ^ 62)/\R (j-i).toNat fun k=>.sh (.int (i+(k:Int)))
 | _=>False
def pIR1 (r:PTA):PTI:=fun γ R X=>r γ (fun ss=>fR1 R (ss.map S.d)) X
def pIR2 (r:PTA):PTI:=fun γ R X=>r γ (fun ss=>fR2 R (ss.map S.d)) X
def Rps.one_inv {d:D}{vs:List V} (h:Rps K H [d] vs):∃v,vs=[v]/\Rp K H d v:=by
 cases h with
 | cons h r=>cases r;exact⟨_,rfl,h⟩
def Rps.two_inv {d e:D}{vs:List V} (h:Rps K H [d,e] vs):∃v u,vs=[v,u]/\Rp K H d v/\Rp K H e u:=by
 cases h with
 | cons h r=>cases r with|cons h2 r=>cases r;exact⟨_,_,rfl,h,h2⟩
def Dy {lo:Int}{n:Nat}:ItOk K H0 B H1 σ γ (Itr lo n) n fun i=>.sh (.int (lo+(i:Int))):=by
 refine⟨fun i H' Z' hi lt=>⟨hi,fun x H'' y=>?_⟩,fun H' Z' lt=>Yx _⟩;obtain⟨e,y⟩:=y;subst e y;exact⟨Same.refl _,.int _⟩
def XA {ta:TA}{r:PTA} (hr:SndA K mg E ta r):SndI K mg E (Er ta) (pIR1 r):=by
 intro H0 B H σ γ R X Q env h q qx;refine hr H0 B H σ γ _ X _ env h (fun ss vs H1 h1 S1 t1=>?_) qx;have rv:=t1.rps (env.grow S1).same;unfold fR1 at h1;split at h1
 ·rename_i j ej;rw[ej] at rv;obtain⟨v,rfl,r1⟩:=rv.one_inv;rw[r1.int_inv];exact⟨j,rfl,h1.1.1,h1.1.2,q _ _ _ H1 h1.2 S1 Dy⟩
 ·exact h1.elim
def E8 {ta:TA}{r:PTA} (hr:SndA K mg E ta r):SndI K mg E (DR ta) (pIR2 r):=by
 intro H0 B H σ γ R X Q env h q qx;refine hr H0 B H σ γ _ X _ env h (fun ss vs H1 h1 S1 t1=>?_) qx;have rv:=t1.rps (env.grow S1).same;unfold fR2 at h1;split at h1
 ·rename_i i j ej;rw[ej] at rv;obtain⟨v,u,rfl,r1,r2⟩:=rv.two_inv;rw[r1.int_inv,r2.int_inv];exact⟨i,j,rfl,h1.1,q _ _ _ H1 h1.2 S1 Dy⟩
 ·exact h1.elim
structure WhileW (js:List Nat) (γ:Γ) (c:PTT) (body:PTS) (R:PEnds):Prop where
 w:∃(inv:Γ->Prop) (μ:Γ->Nat),inv (clr js γ)/\∀γ',inv γ'->c γ' (fun b=>if b=true then
  body { R with nx:=fun γ3=>inv (clr js γ3)/\μ (clr js γ3)<μ γ',ct:=fun γ3=>inv (clr js γ3)/\μ (clr js γ3)<μ γ',bk:=R.nx } γ' else R.nx γ') (R.ex γ')
def RR (js:List Nat) (c:PTT) (body:PTS):PTS:=fun R γ=>WhileW js γ c body R
def FE (js:List Nat) (hc:SndT K mg E tt c) (hb:SndS K mg E t p):SndS K mg E (CJ tt t) (RR js c p):=by
 intro H0 B H σ γ R D hB env h e;obtain⟨inv,μ,h0,hs⟩:=h.w;refine⟨fun m σ' H'=>∃γ',m=μ γ'/\inv γ'/\EnvR K H0 B H' σ' γ'/\Fr B H σ γ H' σ' γ',⟨_,_,rfl,h0,(env.clr js).1,(env.clr js).2⟩,?_⟩;rintro m σ' H' ⟨γ',rfl,hi,e',f'⟩;refine hc H0 B H' σ' γ' _ _ _ e' (hs γ' hi) (fun b H1 h1 S1=>?_) fun c H'' hc S'=>e.ex σ' γ' c H'' hc (e'.grow S') (f'.trans (Fr.grow S'));have e1:=e'.grow S1;have f1:=f'.trans (Fr.grow S1);cases b with
 | false=>
  rw[Yq Y9] at h1 ⊢;exact e.nx σ' γ' H1 h1 e1 f1
 | true=>
  rw[Yr rfl] at h1 ⊢;refine⟨fun σ2 H2=>∃γ2,μ γ2<μ γ'/\inv γ2/\EnvR K H0 B H2 σ2 γ2/\Fr B H σ γ H2 σ2 γ2,fun σ2 H2 ⟨γ2,k,a1,a2,a3⟩=>⟨_,k,γ2,rfl,a1,a2,a3⟩,?_⟩;refine hb H0 B H1 σ' γ' _ _ hB e1 h1 ⟨fun σ3 γ3 H3 q3 e3 f3=>?_,e.rt,fun σ3 γ3 c H3 q3 e3 f3=>e.ex σ3 γ3 c H3 q3 e3 (f1.trans f3),fun σ3 γ3 H3 q3 e3 f3=>e.nx σ3 γ3 H3 q3 e3 (f1.trans f3),fun σ3 γ3 H3 q3 e3 f3=>?_,fun σ3 γ3 d v H3 q3 e3 f3=>e.rv σ3 γ3 d v H3 q3 e3 (f1.trans f3)⟩
  ·exact⟨_,q3.2,q3.1,(e3.clr js).1,(f1.trans f3).trans (e3.clr js).2⟩
  ·exact⟨_,q3.2,q3.1,(e3.clr js).1,(f1.trans f3).trans (e3.clr js).2⟩
end
section
variable {K:Za}{mg:Str->Option Value}{E:L2.St->XK}{H0 H H1 H':Hp}{B Z Z':Addr->Prop}{σ:L2.St}{γ:Γ}
def XE (N:List Str) (ds:List D):Γ:=ds.map (fun d=>some (arg d))++List.replicate (N.length-ds.length) none
def M1 {N:List Str}{ds:List D}{vs:List V} (r:Rps K H ds vs) (hn:ds.length<=N.length):EnvR K H (fun b=>Mut (H b)) H (start N vs) (XE N ds):=by
 have hlen:=r.len
 have get:∀(i:Nat) (s:S),(XE N ds)[i]?=some (some s)->∃d,ds[i]?=some d/\s=arg d:=fun i s h=>by
  unfold XE at h;by_cases hi:i<ds.length
  ·rw[YQ (by rw[Yn];exact hi),Yz,Yo hi] at h;exact⟨_,Yo hi,(Y2 (Y2 h)).symm⟩
  ·rw[YN (by rw[Yn];omega),WK] at h;split at h<;>cases h
 have noown:∀(i:Nat) (es:O),(XE N ds)[i]?≠some (some (.own es)):=fun i es h=>by
  obtain⟨d,_,e⟩:=get i _ h;rcases SQ d with q|q<;>rw[q] at e<;>cases e
 refine⟨Same.refl _,?_,fun b h=>h,fun i j a a' es es' b h=>absurd h (noown i es),fun i s h=>?_⟩
 ·unfold L2.start XE;simp[hlen]
 ·obtain⟨d,hd,rfl⟩:=get i s h;obtain⟨v,hv,rv⟩:=r.get hd;refine⟨v,?_,?_⟩
  ·unfold L2.start;rw[YQ (by rw[Yn];exact(YG.mp hv).1),Yz,hv];rfl
  ·have tv:=argR (K:=K) (Z:=zof (fun b=>Mut (H b)) (XE N ds) (start N vs)) (H0:=H) (H:=H) (H':=H) (fun b z=>z.elim id fun⟨k,es,_,k1,_⟩=>absurd k1 (noown k es)) (Same.refl _) rv;rcases SQ d with q|q<;>rw[q] at tv ⊢<;>exact tv
def LM {c:Pc}{N:List Str}{t:TS}{p:PTS}{vs:List V}{Q:VK}{Ec:XK}{n:Nat} (h:spOf mg c K vs H Q Ec) (snd:SndS K mg (fun _=>Ec) t p) (hn:n<=N.length)
  (hp:∀ds R X,c ds R X->ds.length=n/\p { nx:=fun _=>R (.sh .non),rt:=R,ex:=fun _ e=>X e } (XE N ds)):t { nx:=fun _ H'=>Q .non H',rt:=Q } (start N vs) H:=by
 obtain⟨ds,R,X,r,hc,hQ,hX⟩:=h;obtain⟨e,hp⟩:=hp ds R X hc;refine snd H (fun b=>Mut (H b)) H _ _ _ _ (fun b z=>Km z) (M1 r (by rw[e];exact hn)) hp ⟨fun σ' γ' H' h1 e1 f1=>hQ _ _ H' h1 e1.same .non,fun s v H' h1 S1 tv=>hQ s v H' h1 S1 tv,fun σ' γ' c H' h1 e1 f1=>hX c H' h1 e1.same,fun _ _ _ z=>z.elim,fun _ _ _ z=>z.elim,fun _ _ _ _ _ z=>z.elim⟩
def Za3 {c:Pc}{vs:List V}{Q:VK}{Ec:XK}{n:Nat} (h:spOf mg c K vs H Q Ec) (hn:∀ds R X,c ds R X->ds.length=n):vs.length=n:=by
 obtain⟨ds,R,X,r,hc,_⟩:=h;rw[r.len];exact hn ds R X hc
def atP (φ:List (Option Nat)) (γ:Γ):Γ:=φ.map fun o=>o.bind fun j=>(γ[j]?).join
structure CompW (φ:List (Option Nat)) (γ:Γ) (g:PTG) (c:PTT) (e:PTE) (n:Nat) (item:Nat->S) (R:S->Prop):Prop where
 w:n<=100000/\∃f:Nat->Option D,(∀i,i<n->g (item i) (atP φ γ) fun γ2=>c γ2 (fun b=>if b=true then e γ2 (fun s=>∃d,s.shd=some d/\f i=some d) (fun _=>False) else f i=none) (fun _=>False))/\R (.own ((List.range n).filterMap f))
def Zbb (φ:List (Option Nat)) (it:PTI) (g:PTG) (c:PTT) (e:PTE):PTE:=fun γ R X=>it γ (fun n item=>CompW φ γ g c e n item R) X
def Nk {φ:List (Option Nat)}{i:Nat}{s:S} (h:(atP φ γ)[i]?=some (some s)):∃j,φ[i]?=some (some j)/\γ[j]?=some (some s):=by
 unfold atP at h;rw[Yz] at h;cases e:φ[i]? with
 | none=>rw[e] at h;cases h
 | some o=>
  rw[e] at h;cases o with
  | none=>simp at h
  | some j=>
   refine⟨j,rfl,?_⟩;simp at h;cases e2:γ[j]? with
   | none=>rw[e2] at h;simp at h
   | some w=>rw[e2] at h;simp at h;rw[h]
def Sb:∀{φ:List (Option Nat)},(φ.filterMap id).Nodup->∀(i j k:Nat),φ[i]?=some (some k)->φ[j]?=some (some k)->i=j
 | [],_,i,_,_,h,_=>by simp at h
 | none::r,hn,i,j,k,h1,h2=>by
  cases i with
  | zero=>simp at h1
  | succ i=>
   cases j with
   | zero=>simp at h2
   | succ j=>exact YS (· + 1) (Sb (φ:=r) (by simpa using hn) i j k (by simpa using h1) (by simpa using h2))
 | some m::r,hn,i,j,k,h1,h2=>by
  have hn':m∉r.filterMap id/\(r.filterMap id).Nodup:=by simpa using hn
  have mem:∀{j:Nat},r[j]?=some (some k)->k∈r.filterMap id:=fun h=>Vd.mpr ⟨some k,YE h,rfl⟩;cases i with
  | zero=>
   cases j with
   | zero=>rfl
   | succ j=>
    have e:m=k:=by simpa using h1
    subst e;exact absurd (mem (by simpa using h2)) hn'.1
  | succ i=>
   cases j with
   | zero=>
    have e:m=k:=by simpa using h2
    subst e;exact absurd (mem (by simpa using h1)) hn'.1
   | succ j=>exact YS (· + 1) (Sb (φ:=r) hn'.2 i j k (by simpa using h1) (by simpa using h2))
def Nu {φ:List (Option Nat)}{i j:Nat} (h1:φ[i]?=some (some j)) {v:V} (h2:σ[j]?=some (some v)):(atStart φ σ)[i]?=some (some v):=by
 unfold atStart;rw[Yz,h1];simp[h2]
def EY {φ:List (Option Nat)}{L:Addr} (env:EnvR K H0 B H σ γ) (nL:H L=none):∀b o,H b=some o->¬zof B γ σ b->¬zof (fun b=>zof B γ σ b\/b=L) (atP φ γ) (atStart φ σ) b:=fun b o hb z y=>by
 rcases y with(y|y)|⟨i',ds,x,y1,y2,y3⟩
 ·exact z y
 ·rw[y,nL] at hb;cases hb
 ·obtain⟨m,m1,m2⟩:=Nk y1;obtain⟨w,w1,_⟩:=env.slot m _ m2;rw[Nu m1 w1] at y2;exact z (.inr ⟨m,ds,x,m2,by rw[w1];exact YS some (Y2 y2),y3⟩)
def Zbr {φ:List (Option Nat)}{L:Addr} (env:EnvR K H0 B H σ γ) (S1:Same H H') (nL:H L=none) (hL:∃ys,H' L=some (.lst ys)) (hφ:(φ.filterMap id).Nodup) :
  EnvR K H0 (fun b=>zof B γ σ b\/b=L) H' (atStart φ σ) (atP φ γ):=by
 refine⟨env.same.trans S1,by unfold atStart atP;simp,fun b z=>?_,fun i j a a' ds es b h1 h2 h3 h4 h5 h6=>?_,fun i s h=>?_⟩
 ·rcases z with z|rfl
  ·exact XG S1 (env.zm b z)
  ·obtain⟨ys,e⟩:=hL;rw[e];trivial
 ·obtain⟨k,k1,k2⟩:=Nk h1;obtain⟨l,l1,l2⟩:=Nk h2;obtain⟨v,v1,_⟩:=env.slot k _ k2;obtain⟨u,u1,_⟩:=env.slot l _ l2;rw[Nu k1 v1] at h3;rw[Nu l1 u1] at h4
  have:=env.own k l a a' ds es b k2 l2 (by rw[v1];exact YS some (Y2 h3)) (by rw[u1];exact YS some (Y2 h4)) h5 h6
  subst this;exact Sb hφ i j k k1 l1
 ·obtain⟨k,k1,k2⟩:=Nk h;obtain⟨v,v1,v2⟩:=env.slot k _ k2;have So:Same (off (zof B γ σ) H) (off (zof (fun b=>zof B γ σ b\/b=L) (atP φ γ) (atStart φ σ)) H'):=JM S1 (EY env nL);refine⟨v,Nu k1 v1,?_⟩;cases s with
  | bor d=>exact v2
  | sh d=>exact Rp.mono So v2
  | own ds=>
   obtain⟨a,e1,e3,e4⟩:=v2;exact⟨a,e1,e3,e4.mono So fun b _ x=>S1 b x⟩
  | view ds=>exact v2
  | tmp d=>exact v2
def Sub.of {σ σ':L2.St}{is:List Nat} (hl:σ'.length=σ.length) (h1:∀j,j∉is->σ'[j]?=σ[j]?) (h2:∀j∈is,∀v,σ[j]?≠some (some v)):Sub σ σ':=⟨hl,fun i v e=>by
 by_cases hi:i∈is
 ·exact absurd e (h2 i hi v)
 ·rw[h1 i hi];exact e⟩
structure ItOkC (K:Za) (H0:Hp) (B:Addr->Prop) (H1:Hp) (σ:L2.St) (γ:Γ) (J:It) (n:Nat) (item:Nat->S):Prop where
 go:∀(i:Nat) (H':Hp) (Z':Addr->Prop),i<n->Same H1 H'->Later H0 (zof B γ σ) H1 Z' H'->J.go i H'/\∀x H'',J.yld i H' x H''->Same H' H''/\TV K Z' H0 H' H'' (item i) x
 stop:∀(H':Hp) (Z':Addr->Prop),Same H1 H'->Later H0 (zof B γ σ) H1 Z' H'->J.stop n H'
def TQ (K:Za) (mg:Str->Option Value) (E:L2.St->XK) (wi:TI) (it:PTI):Prop:=∀(H0:Hp) (B:Addr->Prop) (H:Hp) (σ:L2.St) (γ:Γ) (R:Nat->(Nat->S)->Prop) (X:XR) (Q:It->Hp->Prop),EnvR K H0 B H σ γ->it γ R X->
 (∀n item J H1,R n item->Same H H1->ItOkC K H0 B H1 σ γ J n item->Q J H1)->(∀c H',X c->Same H H'->E σ (.ref (ExcR.J3 mg c)) none H')->wi σ H Q
def SndI.c {wi:TI}{it:PTI} (h:SndI K mg E wi it):TQ K mg E wi it:=fun H0 B H σ γ R X Q env p q qx=>
 h H0 B H σ γ R X Q env p (fun n item J H1 hR S1 ok=>q n item J H1 hR S1 ⟨fun i H' Z' hi _ lt=>ok.go i H' Z' hi lt,fun H' Z' _ lt=>ok.stop H' Z' lt⟩) qx
def pILc (a:PTE):PTI:=fun γ R X=>a γ (fun s=>match s.d with
 | .lst ds=>R ds.length fun i=>s.sub (ds.getD i .non)
 | .tup ds=>False
 | .scr ns=>R ns.length fun i=>.sh (.int (ns.getD i 0))
 | _=>False) X
def UT {te:TE}{a:PTE} (ha:SndE K mg E te a):TQ K mg E (T5 K te) (pILc a):=by
 intro H0 B H σ γ R X Q env h q qx;refine ha H0 B H σ γ _ X _ env h (fun s v H1 h1 S1 t1=>?_) qx;have env1:=env.grow S1;split at h1
 ·rename_i ds ed;have rv:=t1.rp env1.same;rw[ed] at rv;obtain⟨l,vs,rfl,hl1,r1⟩:=rv.lst_inv;refine⟨l,rfl,⟨vs,SqL.of hl1⟩,q _ _ _ H1 h1 S1 ⟨fun i H' Z' hi S2 lt=>?_,fun H' Z' S2 lt=>⟨vs,SqL.of (S2 _ _ hl1),by rw[r1.len];exact Yx _⟩⟩⟩;have hd:ds[i]?=some (ds.getD i .non):=by rw[Y1,Yo hi];rfl
  have hi':∃u,vs[i]?=some u/\TV K Z' H0 H' H' (s.sub (ds.getD i .non)) u:=by
   cases s with
   | bor d=>
    have t1:=Rp.strip t1;rw[show d.strip=.lst ds from ed] at t1
    obtain⟨l',vs',e',h3,r3⟩:=Rp.lst_inv t1;cases e'
    rw[env1.same _ _ h3] at hl1;cases hl1
    obtain⟨u,h4,h5⟩:=r3.get hd;exact⟨u,h4,argR lt.2.1 lt.1 h5⟩
   | sh d=>
    have:d=.lst ds:=ed
    subst this;obtain⟨l',vs',e',h3,r3⟩:=Rp.lst_inv t1;cases e'
    rw[off_sub _ _ h3] at hl1;cases hl1
    obtain⟨u,h4,h5⟩:=r3.get hd;exact⟨u,h4,Rp.mono lt.off h5⟩
   | own es=>
    cases es with
    | dK es=>cases ed
    | dT es=>cases ed
    | ins x C xs cs=>cases ed
    | lsA x es=>
     cases ed
     obtain⟨l',e',h0,_,vs',h3,r3⟩:=t1;cases e'
     rw[h3] at hl1;cases hl1
     obtain⟨u,h4,h5⟩:=r3.get hd;exact⟨u,h4,Rp.mono lt.off (Rp.mono (JM (Same.refl _) fun b _ _ z y=>z (.inl y)) h5)⟩
    | lst es=>
    cases ed
    obtain⟨l',e',h0,vs',h3,r3⟩:=t1;cases e'
    rw[h3] at hl1;cases hl1
    obtain⟨u,h4,h5⟩:=r3.get hd;exact⟨u,h4,Rp.mono lt.off (Rp.mono (JM (Same.refl _) fun b _ _ z y=>z (.inl y)) h5)⟩
   | view es=>
    cases es with
    | dK es=>cases ed
    | dT es=>cases ed
    | ins x C xs cs=>cases ed
    | lsA x es=>
     cases ed
     obtain⟨l',e',_,vs',h3,r3⟩:=t1;cases e'
     rw[h3] at hl1;cases hl1
     obtain⟨u,h4,h5⟩:=r3.get hd;exact⟨u,h4,Rp.mono lt.off h5⟩
    | lst es=>
    cases ed
    obtain⟨l',e',vs',h3,r3⟩:=t1;cases e'
    rw[h3] at hl1;cases hl1
    obtain⟨u,h4,h5⟩:=r3.get hd;exact⟨u,h4,Rp.mono lt.off h5⟩
   | tmp d=>
    have:d=.lst ds:=ed
    subst this;obtain⟨l',vs',e',h3,r3⟩:=Rp.lst_inv t1;cases e'
    rw[h3] at hl1;cases hl1
    obtain⟨u,h4,h5⟩:=r3.get hd;exact⟨u,h4,PX lt.2.1 (Rp.mono S2 h5)⟩
  obtain⟨u,hu,tu⟩:=hi';refine⟨⟨vs,u,SqL.of (S2 _ _ hl1),hu⟩,fun x H'' y=>?_⟩;obtain⟨rfl,y⟩:=y
  have:=y vs (SqL.of (S2 _ _ hl1))
  rw[hu] at this;cases this
  exact⟨Same.refl _,tu⟩
 ·exact h1.elim
 ·rename_i ns ed;have rv:=t1.rp env1.same;rw[ed] at rv;cases rv with
  | scr hs=>
   refine⟨_,rfl,⟨_,hs⟩,q _ _ _ H1 h1 S1 ⟨fun i H' Z' hi S2 lt=>?_,fun H' Z' S2 lt=>⟨_,S2.seq hs,by rw[Yn];exact Yx _⟩⟩⟩
   have hu:(ns.map V.int)[i]?=some (.int (ns.getD i 0)):=by
    rw[Yz,Yo hi,Y1,Yo hi];rfl
   refine⟨⟨_,_,S2.seq hs,hu⟩,fun x H'' y=>?_⟩;obtain⟨rfl,y⟩:=y
   have:=y _ (S2.seq hs)
   rw[hu] at this;cases this
   exact⟨Same.refl _,.int _⟩
 ·exact h1.elim
def Uw {φ:List (Option Nat)}{is:List Nat}{wi:TI}{g:TG}{tc:TT}{te:TE}{it:PTI}{pg:PTG}{c:PTT}{a:PTE} (hi:TQ K mg E wi it) (hg:KQ K is g pg) (hc:SndT K mg E tc c) (he:SndE K mg E te a)
  (h1:(φ.filterMap id).Nodup:=by decide) (h2:∀j∈is,φ[j]?=some none:=by decide):SndE K mg E (NO φ wi g tc te) (Zbb φ it pg c a):=by
 intro H0 B H σ γ R X Q env h q qx;refine hi H0 B H σ γ _ X _ env h (fun n item J H1 h1' S1 ok=>?_) qx;obtain⟨hn,f,hf,hR⟩:=h1'.w;have env1:=env.grow S1;have hbig:n<=sizeLine:=Y7 hn (by decide);intro L nL;refine⟨fun i m ys H2=>m=n-i/\i<=n/\Same H1 H2/\H2 L=some (.lst ys)/\Rps K (off (fun b=>zof B γ σ b\/b=L) H2) ((List.range i).filterMap f) ys,⟨n,by simp,Wy _,UB nL,Uj,.nil⟩,?_⟩;rintro i m ys H2 ⟨rfl,hin,S2,hL,hys⟩;have env2:=env1.grow S2;by_cases hlt:i<n
 ·have envI2:=Zbr (φ:=φ) env1 S2 nL ⟨ys,hL⟩ h1;obtain⟨go,yl⟩:=ok.go i H2 _ hlt S2 ⟨env2.same,envI2.zm,fun b o hb z=>⟨S2 _ _ hb,EY env1 nL b o hb z⟩⟩;refine .inr ⟨go,fun x H3 y=>?_⟩;obtain⟨S3,tv⟩:=yl x H3 y;refine hg H0 _ H2 H3 _ _ _ _ _ _ envI2 S3 tv (hf i hlt) fun σ2 γ2 p2 e2 f2 k2=>⟨?_,?_⟩
  ·refine Sub.of (is:=is) k2.2 k2.1 fun j hj v z=>?_;obtain⟨k,k1,_⟩:=Ea z;rw[h2 j hj] at k1;cases k1
  ·refine hc H0 _ H3 σ2 γ2 _ _ _ e2 p2 (fun b H5 q5 S5=>?_) fun _ _ z=>z.elim;have e5:=e2.grow S5;cases b with
   | false=>
    rw[Yq Y9] at q5 ⊢;refine⟨n-(i+1),by omega,rfl,hlt,(S2.trans S3).trans S5,(S3.trans S5) _ _ hL,?_⟩;rw[List.range_succ,Qu];simp only[Wz,q5,List.filterMap_nil,We];exact Rps.mono (JM (S3.trans S5) fun _ _ _ z=>z) hys
   | true=>
    rw[Yr rfl] at q5 ⊢;refine he H0 _ H5 σ2 γ2 _ _ _ e5 q5 (fun s v H6 q6 S6 t6=>?_) fun _ _ z=>z.elim;obtain⟨d,hd,hfd⟩:=q6;have S26:=(S3.trans S5).trans S6;have hr:=t6.shd (e5.grow S6).same e5.zm S6 hd
    have hlen:ys.length<=i:=by
     rw[hys.len];exact Y7 (Q6 _ _) (by rw[Vl];exact Yx _)
    refine⟨S26 _ _ hL,by omega,n-(i+1),by omega,rfl,hlt,fun b o hb=>?_,Uj,?_⟩
    ·rw[JW (Xs hb nL)];exact S26 _ _ (S2 _ _ hb)
    ·rw[List.range_succ,Qu];have ef:[i].filterMap f=[d]:=by simp[hfd]
     rw[ef]
     have So:Same (off (fun b=>zof B γ σ b\/b=L) H6) (off (fun b=>zof B γ σ b\/b=L) (upd H6 L (.lst (ys++[v])))):=fun b o h=>by
      obtain⟨a1,a2⟩:=X9 h;refine Uu ?_ a2;rw[JW fun z=>a2 (.inr z)];exact a1
     refine Rps.append (Rps.mono So (Rps.mono (JM S26 fun _ _ _ z=>z) hys)) (.cons (Rp.mono So (Rp.mono (JM (Same.refl _) fun b _ _ z y=>z (.inl y)) hr)) .nil)
 ·have:i=n:=by omega
  subst this;exact .inl ⟨ok.stop H2 _ S2 (Later.of env2 (Fr.grow S2)),q _ _ H2 hR (S1.trans S2) ⟨L,rfl,(fun _ e=>e▸S1.free nL),ys,hL,hys⟩⟩
def pYes:PTT:=fun _ R _=>R true
def XD:SndT K mg E A2 pYes:=fun _ _ H _ _ _ _ _ _ p q _=>q _ H p (Same.refl _)
def LD {α β:Type} (xs:List α) (f:α->Option β):(List.range xs.length).filterMap (fun i=>(xs[i]?).bind f)=xs.filterMap f:=by
 induction xs with
 | nil=>rfl
 | cons x r ih=>
  rw[YC,List.range_succ_eq_map,Wz,List.filterMap_map,Wz]
  have e:(fun i=>((x::r)[i]?).bind f)∘Nat.succ=fun i=>(r[i]?).bind f:=by
   funext i;simp
  rw[e,ih];rfl
end
open M
section
variable {K:Za}{mg:Str->Option Value}{E:L2.St->XK}{H0 H H1 H':Hp}{B Z Z':Addr->Prop}{σ:L2.St}{γ:Γ}
def pCB (f:List S->(S->Prop)->Prop) (r:PTA):PTE:=fun γ R X=>r γ (fun ss=>f ss R) X
def XF {rr:List V->Hp->VK->Prop}{f:List S->(S->Prop)->Prop}{ta:TA}{r:PTA} (hr:SndA K mg E ta r)
  (h:∀(H0 H H1:Hp) (Z:Addr->Prop) (ss:List S) (vs:List V) (R:S->Prop) (Q:VK),Same H0 H1->Same H H1->(∀b,Z b->Mut (H b))->TVs K Z H0 H H1 ss vs->f ss R->(∀s z H',R s->Same H1 H'->TV K Z H0 H H' s z->Q z H')->rr vs H1 Q) :
  SndE K mg E (tCB rr ta) (pCB f r):=by
 intro H0 B H σ γ R X Q env p q qx;refine hr H0 B H σ γ _ X _ env p (fun ss vs H1 h1 S1 t1=>?_) qx;exact h H0 H H1 _ ss vs R Q (env.grow S1).same S1 env.zm t1 h1 fun s z H' hs S2 tv=>q s z H' hs (S1.trans S2) tv
def S.free:S->List D->Bool
 | .bor _,ds=>imms ds | .tmp _,ds=>imms ds|_,_=>true
def TVs.one_inv {s:S}{vs:List V} (h:TVs K Z H0 H H' [s] vs):∃v,vs=[v]/\TV K Z H0 H H' s v:=by
 cases h with
 | cons h r=>cases r;exact⟨_,rfl,h⟩
def TVs.two_inv {s t:S}{vs:List V} (h:TVs K Z H0 H H' [s,t] vs):∃v u,vs=[v,u]/\TV K Z H0 H H' s v/\TV K Z H0 H H' t u:=by
 cases h with
 | cons h r=>cases r with|cons h2 r=>cases r;exact⟨_,_,rfl,h,h2⟩
def TV.items {s:S}{v:V}{ds:List D} (h0:Same H0 H') (hm:∀b,Z b->Mut (H b)) (S1:Same H H') (h:TV K Z H0 H H' s v) (hf:s.free ds=true) :
  (s.d=.lst ds->∃a vs,v=.ref a/\H' a=some (.lst vs)/\Rps K (off Z H') ds vs)/\(s.d=.tup ds->∃a vs,v=.ref a/\H' a=some (.tup vs)/\Rps K (off Z H') ds vs):=by
 have hm':∀b,Z b->Mut (H' b):=fun b z=>XG S1 (hm b z);cases s with
 | bor d=>
  have h:=Rp.strip h;refine⟨fun e=>?_,fun e=>?_⟩<;>rw[show d.strip=_ from e] at h
  ·obtain⟨a,vs,rfl,h1,r⟩:=Rp.lst_inv h;exact⟨a,vs,rfl,h0 _ _ h1,Rps.off hm' (Rps.mono h0 r) hf⟩
  ·obtain⟨a,vs,rfl,h1,r⟩:=Rp.tup_inv h;exact⟨a,vs,rfl,h0 _ _ h1,Rps.off hm' (Rps.mono h0 r) hf⟩
 | sh d=>
  refine⟨fun e=>?_,fun e=>?_⟩<;>(have e':d=_:=e;subst e')
  ·obtain⟨a,vs,rfl,h1,r⟩:=Rp.lst_inv h;exact⟨a,vs,rfl,off_sub _ _ h1,r⟩
  ·obtain⟨a,vs,rfl,h1,r⟩:=Rp.tup_inv h;exact⟨a,vs,rfl,off_sub _ _ h1,r⟩
 | own es=>
  cases es with
  | dK es=>exact⟨(fun e=>by cases e),(fun e=>by cases e)⟩
  | dT es=>exact⟨(fun e=>by cases e),(fun e=>by cases e)⟩
  | ins x C xs cs=>exact⟨(fun e=>by cases e),(fun e=>by cases e)⟩
  | lst es=>
   refine⟨fun e=>?_,fun e=>by cases e⟩;cases e
   obtain⟨a,rfl,e0,vs,e,r⟩:=h;exact⟨a,vs,rfl,e,Rps.mono (JM (Same.refl _) fun b _ _ z y=>z (.inl y)) r⟩
  | lsA x es=>
   refine⟨fun e=>?_,fun e=>by cases e⟩;cases e
   obtain⟨a,rfl,e0,_,vs,e,r⟩:=h;exact⟨a,vs,rfl,e,Rps.mono (JM (Same.refl _) fun b _ _ z y=>z (.inl y)) r⟩
 | view es=>
  cases es with
  | dK es=>exact⟨(fun e=>by cases e),(fun e=>by cases e)⟩
  | dT es=>exact⟨(fun e=>by cases e),(fun e=>by cases e)⟩
  | ins x C xs cs=>exact⟨(fun e=>by cases e),(fun e=>by cases e)⟩
  | lst es=>
   refine⟨fun e=>?_,fun e=>by cases e⟩;cases e
   obtain⟨a,rfl,vs,e,r⟩:=h;exact⟨a,vs,rfl,e,r⟩
  | lsA x es=>
   refine⟨fun e=>?_,fun e=>by cases e⟩;cases e
   obtain⟨a,rfl,_,vs,e,r⟩:=h;exact⟨a,vs,rfl,e,r⟩
 | tmp d=>
  refine⟨fun e=>?_,fun e=>?_⟩<;>(have e':d=_:=e;subst e')
  ·obtain⟨a,vs,rfl,h1,r⟩:=Rp.lst_inv h;exact⟨a,vs,rfl,h1,Rps.off hm' r hf⟩
  ·obtain⟨a,vs,rfl,h1,r⟩:=Rp.tup_inv h;exact⟨a,vs,rfl,h1,Rps.off hm' r hf⟩
def fLen:List S->(S->Prop)->Prop
 | [s],R=>(match s.d with
  | .lst ds=>R (.sh (.int ds.length)) | .tup ds=>R (.sh (.int ds.length)) | .scr ns=>R (.sh (.int ns.length)) | .str x=>x.length<=sizeLine/\R (.sh (.int x.length))|_=>False)
 | _,_=>False
def JV {ta:TA}{r:PTA} (hr:SndA K mg E ta r):SndE K mg E (tCB (fun xs H Q=>∃x n,xs=[x]/\LenV K x H n/\Q (.int n) H) ta) (pCB fLen r):=by
 refine XF hr fun H0 H H1 Z ss vs R Q s0 s1 hm tv h q=>?_;unfold fLen at h;split at h
 ·rename_i s;obtain⟨v,rfl,t1⟩:=tv.one_inv;have rv:=t1.rp s0;split at h
  ·rename_i ds e;rw[e] at rv;obtain⟨a,us,rfl,h1,r1⟩:=rv.lst_inv;exact⟨_,_,rfl,.inl ⟨us,SqL.of h1,rfl⟩,by rw[r1.len];exact q _ _ H1 h (Same.refl _) (.int _)⟩
  ·rename_i ds e;rw[e] at rv;obtain⟨a,us,rfl,h1,r1⟩:=rv.tup_inv;exact⟨_,_,rfl,.inr ⟨us,SqT.of h1,rfl⟩,by rw[r1.len];exact q _ _ H1 h (Same.refl _) (.int _)⟩
  ·rename_i ns e;rw[e] at rv;cases rv with
   | scr hs=>exact⟨_,_,rfl,.inl ⟨_,hs,rfl⟩,by rw[Yn];exact q _ _ H1 h (Same.refl _) (.int _)⟩
  ·rename_i x e;rw[e] at rv;rw[rv.str_inv];exact⟨_,_,rfl,⟨h.1,rfl⟩,q _ _ H1 h.2 (Same.refl _) (.int _)⟩
  ·exact h.elim
 ·exact h.elim
def Ag:List S->(S->Prop)->Prop
 | [s],R=>(match s.d with
  | .lst ds=>s.free ds=true/\R (.own ds) | .tup ds=>s.free ds=true/\R (.own ds)|_=>False)
 | _,_=>False
def KE {ta:TA}{r:PTA} (hr:SndA K mg E ta r):SndE K mg E (tCB (fun xs H Q=>∃p ys,xs=[.ref p]/\(SqL K H p ys\/SqT K H p ys)/\∀l,H l=none->Q (.ref l) (upd H l (.lst ys))) ta) (pCB Ag r):=by
 refine XF hr fun H0 H H1 Z ss vs R Q s0 s1 hm tv h q=>?_;unfold Ag at h;split at h
 ·rename_i s;obtain⟨v,rfl,t1⟩:=tv.one_inv;split at h
  ·rename_i ds e;obtain⟨a,us,rfl,h1,r1⟩:=(t1.items s0 hm s1 h.1).1 e;exact⟨a,us,rfl,.inl (SqL.of h1),fun l nl=>q _ _ _ h.2 (UB nl) (KJ s1 nl r1)⟩
  ·rename_i ds e;obtain⟨a,us,rfl,h1,r1⟩:=(t1.items s0 hm s1 h.1).2 e;exact⟨a,us,rfl,.inr (SqT.of h1),fun l nl=>q _ _ _ h.2 (UB nl) (KJ s1 nl r1)⟩
  ·exact h.elim
 ·exact h.elim
def Am:List S->(S->Prop)->Prop
 | [s],R=>(match s.d with
  | .lst ds=>s.free ds=true/\R (.sh (.tup ds)) | .tup ds=>s.free ds=true/\R (.sh (.tup ds))|_=>False)
 | _,_=>False
def A1 {ta:TA}{r:PTA} (hr:SndA K mg E ta r):SndE K mg E (tCB (fun xs H Q=>∃p ys,xs=[.ref p]/\((SqL K H p ys/\∀l,H l=none->Q (.ref l) (upd H l (.tup ys)))\/(SqT K H p ys/\Q (.ref p) H))) ta) (pCB Am r):=by
 refine XF hr fun H0 H H1 Z ss vs R Q s0 s1 hm tv h q=>?_;have hm':∀b,Z b->Mut (H1 b):=fun b z=>XG s1 (hm b z);unfold Am at h;split at h
 ·rename_i s;obtain⟨v,rfl,t1⟩:=tv.one_inv;split at h
  ·rename_i ds e;obtain⟨a,us,rfl,h1,r1⟩:=(t1.items s0 hm s1 h.1).1 e;refine⟨a,us,rfl,.inl ⟨SqL.of h1,fun l nl=>q _ _ _ h.2 (UB nl) (.tup (Uu Uj fun z=>?_) (Rps.mono (JM (UB nl) fun _ _ _ z=>z) r1))⟩⟩
   have:=hm' l z
   rw[nl] at this;exact this
  ·rename_i ds e;obtain⟨a,us,rfl,h1,r1⟩:=(t1.items s0 hm s1 h.1).2 e;refine⟨a,us,rfl,.inr ⟨SqT.of h1,q _ _ _ h.2 (Same.refl _) (.tup (Uu h1 fun z=>?_) r1)⟩⟩
   have:=hm' a z
   rw[h1] at this;exact this
  ·exact h.elim
 ·exact h.elim
def Rps.ints {K:Za}{H:Hp}:∀{js:List Int}{vs:List V},Rps K H (js.map D.int) vs->vs=js.map V.int
 | [],_,.nil=>rfl
 | j::r,_,.cons h t=>by rw[Rp.int_inv h,Rps.ints t];rfl
def Rps.of_ints {K:Za}{H:Hp}:∀(js:List Int),Rps K H (js.map D.int) (js.map V.int)
 | []=>.nil
 | j::r=>.cons (.int j) (Rps.of_ints r)
def Cv:List S->(S->Prop)->Prop
 | [s],R=>∃js:List Int,s.d=.lst (js.map D.int)/\js.length<64/\∀ns:List Int,ns.Perm js->ns.Pairwise (·<=·)->R (.own (ns.map D.int))
 | _,_=>False
def Bo {w:World}{ta:TA}{r:PTA} (hr:SndA K mg E ta r):SndE K mg E (tCB (fun xs H Q=>∃(p:Addr) (js:List Int),xs=[.ref p]/\js.length<64/\(SqL K H p (js.map V.int)\/H p=some (SetH w p js))/\
  ∀(l:Addr) (ns:List Int),H l=none->ns.Perm js->ns.Pairwise (·<=·)->Q (.ref l) (upd H l (.lst (ns.map V.int)))) ta) (pCB Cv r):=by
 refine XF hr fun H0 H H1 Z ss vs R Q s0 s1 hm tv h q=>?_;unfold Cv at h;split at h
 ·rename_i s;obtain⟨v,rfl,t1⟩:=tv.one_inv;obtain⟨js,e,hz,k⟩:=h;have rv:=t1.rp s0;rw[e] at rv;obtain⟨a,us,rfl,h1,r1⟩:=rv.lst_inv;rw[r1.ints] at h1;exact⟨a,js,rfl,hz,.inl (SqL.of h1),fun l ns nl hp hs=>q _ _ _ (k ns hp hs) (UB nl) (KJ s1 nl (Rps.of_ints ns))⟩
 ·exact h.elim
def DX:List S->(S->Prop)->Prop
 | [s,t],R=>(match s.d,t.d with | .int i,.int j=>R (.sh (.int (if j>i then j else i)))|_,_=>False)
 | _,_=>False
def Do {ta:TA}{r:PTA} (hr:SndA K mg E ta r):SndE K mg E (tCB (fun xs H Q=>∃i j,xs=[.int i,.int j]/\Q (.int (if j>i then j else i)) H) ta) (pCB DX r):=by
 refine XF hr fun H0 H H1 Z ss vs R Q s0 s1 hm tv h q=>?_;unfold DX at h;split at h
 ·obtain⟨v,u,rfl,t1,t2⟩:=tv.two_inv;have r1:=t1.rp s0;have r2:=t2.rp s0;split at h
  ·rename_i i j e1 e2;rw[e1] at r1;rw[e2] at r2;rw[r1.int_inv,r2.int_inv];exact⟨i,j,rfl,q _ _ H1 h (Same.refl _) (.int _)⟩
  ·exact h.elim
 ·exact h.elim
def fAbs:List S->(S->Prop)->Prop
 | [s],R=>(match s.d with | .int i=>R (.sh (.int (if i<0 then -i else i)))|_=>False)
 | _,_=>False
def tyD:D->Option String
 | .int _=>some "int" | .bl _=>some "bool" | .non=>some "NoneType" | .str _=>some "str" | .tup _=>some "tuple" | .lst _=>some "list" | .dK _=>some "dict" | .dT _=>some "dict" | _=>none
inductive IsiR:String->String->Bool->Prop
 | same (n:String):IsiR n n true
 | ib:IsiR "int" "bool" false
 | bi:IsiR "bool" "int" true
 | tl:IsiR "tuple" "list" false
 | lt:IsiR "list" "tuple" false
 | it:IsiR "int" "tuple" false
 | il:IsiR "int" "list" false
 | bt:IsiR "bool" "tuple" false
 | bL:IsiR "bool" "list" false
 | ti:IsiR "tuple" "int" false
 | li:IsiR "list" "int" false
 | si:IsiR "str" "int" false
 | is:IsiR "int" "str" false
 | ni:IsiR "NoneType" "int" false
 | nl:IsiR "NoneType" "list" false
 | nt:IsiR "NoneType" "tuple" false
def IsiR.kit {m n:String}{b:Bool} (h:IsiR m n b):PySem.W.kitOne K (.type m) (.type n)=some b:=by
 cases h with
 | same=>exact LN K _
 | _=>rfl
def fIsi:List S->(S->Prop)->Prop
 | [s,t],R=>(match tyD s.d,t.d with|some m,.ty n=>∃b,IsiR m n b/\R (.sh (.bl b))|_,_=>False)
 | _,_=>False
def Zel {d:D}{v:V}{m:String} (h:Rp K H d v) (e:tyD d=some m):TyOf K H v (.type m):=by
 cases h with
 | int i=>cases e;exact .int i
 | bl b=>cases e;exact .bl b
 | non=>cases e;exact .non
 | str x=>cases e;exact .str x
 | ty n=>cases e
 | tup h r=>cases e;exact .tup h
 | lst h r=>cases e;exact .lst h
 | scr h=>cases e
 | dK h=>cases e;exact .dK h
 | dT h=>cases e;exact .dT h
 | loc h=>cases e
 | err h=>cases e
 | ref a=>cases e
 | ins h q r=>cases e
def Kf {ta:TA}{r:PTA} (hr:SndA K mg E ta r):SndE K mg E (tCB (fun xs H Q=>∃x n t b,xs=[x,.ty n]/\TyOf K H x t/\PySem.W.kitOne K t (.type n)=some b/\Q (.bl b) H) ta) (pCB fIsi r):=by
 refine XF hr fun H0 H H1 Z ss vs R Q s0 s1 hm tv h q=>?_;unfold fIsi at h;split at h
 ·obtain⟨v,u,rfl,t1,t2⟩:=tv.two_inv;have r1:=t1.rp s0;have r2:=t2.rp s0;split at h
  ·rename_i m n e1 e2;rw[e2] at r2;rw[r2.ty_inv];obtain⟨b,k,hR⟩:=h;exact⟨v,n,_,b,rfl,Zel r1 e1,k.kit,q _ _ H1 hR (Same.refl _) (.bl _)⟩
  ·exact h.elim
 ·exact h.elim
def pBM (f:S->List S->(S->Prop)->Prop) (a:PTE) (r:PTA):PTE:=fun γ R X=>a γ (fun s=>(∃ds,s.d=.lst ds)/\r γ (fun ss=>f s ss R) X) X
def Zaw {rr:V->List V->Hp->VK->Prop}{f:S->List S->(S->Prop)->Prop}{te:TE}{ta:TA}{a:PTE}{r:PTA} (ha:SndE K mg E te a) (hr:SndA K mg E ta r)
  (h:∀(H0 H H1:Hp) (Z:Addr->Prop) (s:S) (v:V) (ss:List S) (vs:List V) (R:S->Prop) (Q:VK),Same H0 H1->Same H H1->(∀b,Z b->Mut (H b))->TV K Z H0 H H1 s v->TVs K Z H0 H H1 ss vs->f s ss R->(∀s z H',R s->Same H1 H'->TV K Z H0 H H' s z->Q z H')->rr v vs H1 Q) :
  SndE K mg E (tBM K "list" rr te ta) (pBM f a r):=by
 intro H0 B H σ γ R X Q env p q qx;refine ha H0 B H σ γ _ X _ env p (fun s v H1 h1 S1 t1=>?_) qx;have env1:=env.grow S1;obtain⟨⟨ds,ed⟩,h1⟩:=h1;have rv:=t1.rp env1.same;rw[ed] at rv;obtain⟨l,us,rfl,hl,_⟩:=rv.lst_inv;refine⟨.inl ⟨rfl,us,SqL.of hl⟩,hr H0 B H1 σ γ _ X _ env1 h1 (fun ss vs H2 h2 S2 t2=>?_) fun c H' hc S'=>qx c H' hc (S1.trans S')⟩;exact h H0 H H2 _ s _ ss vs R Q (env1.grow S2).same (S1.trans S2) env.zm (t1.grow S2) (TVs.weakG S1 t2) h2 fun s z H' hs S3 tv=>q s z H' hs ((S1.trans S2).trans S3) tv
def Gm:S->List S->(S->Prop)->Prop:=fun s ss R=>match ss with
 | [t]=>(match t.d with | .int z=>∃xs:List Int,s.d=.lst (xs.map D.int)/\z∈xs/\R (.sh (.int (xs.idxOf z:Nat)))|_=>False)
 | _=>False
def Zc8 {te:TE}{ta:TA}{a:PTE}{r:PTA} (ha:SndE K mg E te a) (hr:SndA K mg E ta r):SndE K mg E (tBM K "list" (NW K) te ta) (pBM Gm a r):=by
 refine Zaw ha hr fun H0 H H1 Z s v ss vs R Q s0 s1 hm t1 t2 h q=>?_;unfold Gm at h;split at h
 ·obtain⟨u,rfl,t2'⟩:=t2.one_inv;have r2:=t2'.rp s0;split at h
  ·rename_i z e;rw[e] at r2;obtain⟨xs,ex,hz,hR⟩:=h;have r1:=t1.rp s0;rw[ex] at r1;obtain⟨l,us,rfl,hl,r1⟩:=r1.lst_inv;rw[r1.ints] at hl;exact⟨l,xs,z,rfl,by rw[r2.int_inv],SqL.of hl,hz,q _ _ H1 hR (Same.refl _) (.int _)⟩
  ·exact h.elim
 ·exact h.elim
def prD (p:Int×Int):D:=.tup [.int p.1,.int p.2]
inductive InR:D->D->Bool->Prop
 | li (i:Int) (hs:List Int):InR (.int i) (.lst (hs.map D.int)) (decide (i∈hs))
 | ti (i:Int) (hs:List Int):InR (.int i) (.tup (hs.map D.int)) (decide (i∈hs))
 | lp (q:Int×Int) (ps:List (Int×Int)):InR (prD q) (.lst (ps.map prD)) (decide (q∈ps))
def fIn (neg:Bool):S->S->(S->Prop)->Prop:=fun x y R=>∃b,InR x.d y.d b/\R (.sh (.bl (if neg then !b else b)))
def Rp.pair {q:Int×Int}{v:V} (h:Rp K H (prD q) v):Xk H v q:=by
 obtain⟨a,vs,rfl,h1,r⟩:=Rp.tup_inv h;obtain⟨x,y,rfl,r1,r2⟩:=r.two_inv;rw[r1.int_inv,r2.int_inv] at h1;exact⟨a,rfl,h1⟩
def Rps.lv {K:Za}{H:Hp}{ps:List (Int×Int)}{vs:List V} (h:Rps K H (ps.map prD) vs):LV Xk H vs ps:=by
 refine⟨by rw[h.len,Yn],fun i p hp=>?_⟩;obtain⟨v,h1,h2⟩:=h.get (i:=i) (d:=prD p) (by rw[Yz,hp];rfl);exact⟨v,h1,h2.pair⟩
def Xq {neg:Bool}{ta tb:TE}{a b:PTE} (ha:SndE K mg E ta a) (hb:SndE K mg E tb b):SndE K mg E (tOp (fun x y H Q=>rIn K neg x y H Q\/rInP neg x y H Q) ta tb) (p2 a b (fIn neg)):=by
 refine se_2 ha hb fun H0 H H2 Z x y v u R Q s0 s1 hm tx ty h q=>?_;obtain⟨k,hk,hR⟩:=h;have rx:=tx.rp s0;have ry:=ty.rp s0;generalize ex:x.d=dx at hk rx;generalize ey:y.d=dy at hk ry;cases hk with
 | li i hs=>
  obtain⟨l,us,rfl,hl,r⟩:=ry.lst_inv;rw[r.ints] at hl;rw[rx.int_inv];refine .inl ⟨l,_,rfl,.inl (SqL.of hl),rfl,K7 _,?_⟩;rw[Dc];exact q _ _ H2 hR (Same.refl _) (.bl _)
 | ti i hs=>
  obtain⟨l,us,rfl,hl,r⟩:=ry.tup_inv;rw[r.ints] at hl;rw[rx.int_inv];refine .inl ⟨l,_,rfl,.inr (SqT.of hl),rfl,K7 _,?_⟩;rw[Dc];exact q _ _ H2 hR (Same.refl _) (.bl _)
 | lp p ps=>
  obtain⟨l,us,rfl,hl,r⟩:=ry.lst_inv;exact .inr ⟨l,ps,p,rfl,rx.pair,⟨us,hl,r.lv⟩,q _ _ H2 hR (Same.refl _) (.bl _)⟩
def fEqU (neg:Bool):S->S->(S->Prop)->Prop:=fun x y R=>match x.d,y.d with
 | .lst ds,.lst es=>∃xs ys:List Int,ds=xs.map D.int/\es=ys.map D.int/\R (.sh (.bl (if neg then !decide (xs=ys) else decide (xs=ys))))
 | _,_=>fEq neg x y R
def Ua {ta tb:TE}{a b:PTE} (ha:SndE K mg E ta a) (hb:SndE K mg E tb b):SndE K mg E (tOp (fun x y H Q=>rEq x y H Q\/rEqL K false x y H Q) ta tb) (p2 a b (fEqU false)):=by
 refine se_2 ha hb fun H0 H H2 Z x y v u R Q s0 s1 hm tx ty h q=>?_;have rx:=tx.rp s0;have ry:=ty.rp s0;unfold fEqU at h;split at h
 ·rename_i ds es e1 e2;obtain⟨xs,ys,rfl,rfl,hR⟩:=h;rw[e1] at rx;rw[e2] at ry;obtain⟨l,us,rfl,hl,r⟩:=rx.lst_inv;obtain⟨m,ws,rfl,hm,r'⟩:=ry.lst_inv;rw[r.ints] at hl;rw[r'.ints] at hm;refine .inr ⟨l,m,_,_,rfl,rfl,SqL.of hl,SqL.of hm,K7 _,K7 _,?_⟩;rw[F0];exact q _ _ H2 hR (Same.refl _) (.bl _)
 ·refine .inl ?_;unfold fEq at h;split at h
  ·rename_i i j e1 e2;rw[e1] at rx;rw[e2] at ry;rw[rx.int_inv,ry.int_inv];refine⟨rfl,?_⟩;rw[Pr (f:=V.int) fun _ _ z=>V.int.inj z];exact q _ _ H2 h (Same.refl _) (.bl _)
  ·rename_i i j e1 e2;rw[e1] at rx;rw[e2] at ry;rw[rx.str_inv,ry.str_inv];refine⟨rfl,?_⟩;rw[Pr (f:=V.str) fun _ _ z=>V.str.inj z];exact q _ _ H2 h (Same.refl _) (.bl _)
  ·rename_i i j e1 e2;rw[e1] at rx;rw[e2] at ry;rw[rx.bl_inv,ry.bl_inv];refine⟨rfl,?_⟩;rw[Pr (f:=V.bl) fun _ _ z=>V.bl.inj z];exact q _ _ H2 h (Same.refl _) (.bl _)
  ·exact h.elim
def Xv {ta tb:TE}{a b:PTE} (ha:SndE K mg E ta a) (hb:SndE K mg E tb b):SndE K mg E (tOp (fun x y H Q=>rNe x y H Q\/rEqL K true x y H Q) ta tb) (p2 a b (fEqU true)):=by
 refine se_2 ha hb fun H0 H H2 Z x y v u R Q s0 s1 hm tx ty h q=>?_;have rx:=tx.rp s0;have ry:=ty.rp s0;unfold fEqU at h;split at h
 ·rename_i ds es e1 e2;obtain⟨xs,ys,rfl,rfl,hR⟩:=h;rw[e1] at rx;rw[e2] at ry;obtain⟨l,us,rfl,hl,r⟩:=rx.lst_inv;obtain⟨m,ws,rfl,hm,r'⟩:=ry.lst_inv;rw[r.ints] at hl;rw[r'.ints] at hm;refine .inr ⟨l,m,_,_,rfl,rfl,SqL.of hl,SqL.of hm,K7 _,K7 _,?_⟩;rw[F0];exact q _ _ H2 hR (Same.refl _) (.bl _)
 ·refine .inl ?_;unfold fEq at h;split at h
  ·rename_i i j e1 e2;rw[e1] at rx;rw[e2] at ry;rw[rx.int_inv,ry.int_inv];refine⟨rfl,?_⟩;rw[Pr (f:=V.int) fun _ _ z=>V.int.inj z];exact q _ _ H2 h (Same.refl _) (.bl _)
  ·rename_i i j e1 e2;rw[e1] at rx;rw[e2] at ry;rw[rx.str_inv,ry.str_inv];refine⟨rfl,?_⟩;rw[Pr (f:=V.str) fun _ _ z=>V.str.inj z];exact q _ _ H2 h (Same.refl _) (.bl _)
  ·rename_i i j e1 e2;rw[e1] at rx;rw[e2] at ry;rw[rx.bl_inv,ry.bl_inv];refine⟨rfl,?_⟩;rw[Pr (f:=V.bl) fun _ _ z=>V.bl.inj z];exact q _ _ H2 h (Same.refl _) (.bl _)
  ·exact h.elim
abbrev tTru (K:Za) (ta:TE):TT:=fun σ H Q=>ta σ H fun x H'=>∃k,TruV K x H' k/\Q k H'
def pTru (a:PTE):PTT:=fun γ R X=>a γ (fun x=>match x.d with
 | .bl b=>R b | .lst ds=>R (!ds.isEmpty) | .tup ds=>R (!ds.isEmpty) | .int i=>R (i != 0) | .non=>R false|_=>False) X
def Sq {α β:Type}{l:List α}{m:List β} (h:l.length=m.length):l.isEmpty=m.isEmpty:=by
 cases l<;>cases m<;>simp at h ⊢
def Ut {te:TE}{a:PTE} (ha:SndE K mg E te a):SndT K mg E (tTru K te) (pTru a):=by
 intro H0 B H σ γ R X Q env p q qx;refine ha H0 B H σ γ _ X _ env p (fun x v H1 h1 S1 t1=>?_) qx;have rx:=t1.rp (env.grow S1).same;split at h1
 ·rename_i b e;rw[e] at rx;rw[rx.bl_inv];exact⟨b,rfl,q _ H1 h1 S1⟩
 ·rename_i ds e;rw[e] at rx;obtain⟨l,us,rfl,hl,r⟩:=rx.lst_inv;exact⟨!us.isEmpty,.inl ⟨us,SqL.of hl,rfl⟩,by rw[Sq r.len];exact q _ H1 h1 S1⟩
 ·rename_i ds e;rw[e] at rx;obtain⟨l,us,rfl,hl,r⟩:=rx.tup_inv;exact⟨!us.isEmpty,.inr (.inl ⟨us,SqT.of hl,rfl⟩),by rw[Sq r.len];exact q _ H1 h1 S1⟩
 ·rename_i i e;rw[e] at rx;rw[rx.int_inv];exact⟨_,rfl,q _ H1 h1 S1⟩
 ·rename_i e;rw[e] at rx;rw[rx.non_inv];exact⟨_,rfl,q _ H1 h1 S1⟩
 ·exact h1.elim
def cutD {α:Type} (xs:List α) (lo hi:Option Int):List α:=(xs.drop (HT.sIx xs.length 0 lo)).take (HT.sIx xs.length xs.length hi-HT.sIx xs.length 0 lo)
def Le:PTO:=fun _ R _=>R none
def Lh (a:PTE):PTO:=fun γ R X=>a γ (fun s=>match s.d with | .int i=>R (some i)|_=>False) X
def Xm:SndO K mg E FX Le:=fun _ _ H _ _ _ _ _ _ p q _=>q _ H p (Same.refl _)
def Xa {te:TE}{a:PTE} (ha:SndE K mg E te a):SndO K mg E (E1 te) (Lh a):=by
 intro H0 B H σ γ R X Q env p q qx;refine ha H0 B H σ γ _ X _ env p (fun x v H1 h1 S1 t1=>?_) qx;have rx:=t1.rp (env.grow S1).same;split at h1
 ·rename_i i e;rw[e] at rx;exact⟨i,rx.int_inv,q _ H1 h1 S1⟩
 ·exact h1.elim
def pSl (a:PTE) (l u:PTO):PTE:=fun γ R X=>a γ (fun s=>l γ (fun lo=>u γ (fun hi=>match s.d with | .lst ds=>s.free ds=true/\R (.own (cutD ds lo hi))|_=>False) X) X) X
def Rps.cut {ds:List D}{vs:List V}{lo hi:Option Int} (r:Rps K H ds vs):Rps K H (cutD ds lo hi) (cutV vs lo hi):=by
 unfold cutD cutV;rw[r.len];exact Rps.take _ (Rps.drop _ r)
def Xu {te:TE}{tl th:TO}{a:PTE}{l u:PTO} (ha:SndE K mg E te a) (hl:SndO K mg E tl l) (hu:SndO K mg E th u):SndE K mg E (tSl (rSlL K) te tl th) (pSl a l u):=by
 intro H0 B H σ γ R X Q env p q qx;refine ha H0 B H σ γ _ X _ env p (fun x v H1 h1 S1 t1=>?_) qx;refine hl H0 B H1 σ γ _ X _ (env.grow S1) h1 (fun lo H2 h2 S2=>?_) fun c H' hc S'=>qx c H' hc (S1.trans S');refine hu H0 B H2 σ γ _ X _ ((env.grow S1).grow S2) h2 (fun hi H3 h3 S3=>?_) fun c H' hc S'=>qx c H' hc ((S1.trans S2).trans S');have S13:=(S1.trans S2).trans S3;split at h3
 ·rename_i ds e;obtain⟨b,us,rfl,hb,r⟩:=((t1.grow (S2.trans S3)).items (env.grow S13).same env.zm S13 h3.1).1 e;exact⟨b,us,rfl,SqL.of hb,fun m nm=>q _ _ _ h3.2 (S13.trans (UB nm)) (KJ S13 nm r.cut)⟩
 ·exact h3.elim
def fCat:S->S->(S->Prop)->Prop:=fun x y R=>match x.d,y.d with
 | .lst ds,.lst es=>x.free ds=true/\y.free es=true/\ds.length+es.length<=100000/\R (.own (ds++es))
 | _,_=>False
def Xd {ta tb:TE}{a b:PTE} (ha:SndE K mg E ta a) (hb:SndE K mg E tb b):SndE K mg E (tOp rCat ta tb) (p2 a b fCat):=by
 refine se_2 ha hb fun H0 H H2 Z x y v u R Q s0 s1 hm tx ty h q=>?_;unfold fCat at h;split at h
 ·rename_i ds es e1 e2;obtain⟨l,us,rfl,hl,r⟩:=(tx.items s0 hm s1 h.1).1 e1;obtain⟨m,ws,rfl,hm',r'⟩:=(ty.items s0 hm s1 h.2.1).1 e2;have hz:us.length+ws.length<=sizeLine:=by rw[r.len,r'.len];exact Y7 h.2.2.1 (by decide)
  exact⟨l,m,us,ws,rfl,rfl,hl,hm',hz,fun p np=>q _ _ _ h.2.2.2 (UB np) (KJ s1 np (r.append r'))⟩
 ·exact h.elim
def Cw (i:Nat) (a:PTE):PTS:=fun R γ=>match γ[i]? with
 | some (some (.own (.lst ds)))=>a γ (fun s=>match s.shd with
  | some d=>ds.length<10000000/\R.nx (γ.set i (some (.own (ds++[d]))))
  | none=>False) (R.ex γ)
 | some (some (.own (.lsA x ds)))=>a γ (fun s=>match s.shd with
  | some d=>ds.length<10000000/\R.nx (γ.set i (some (.own (.lsA x (ds++[d])))))
  | none=>False) (R.ex γ)
 | _=>False
def P2 (i:Nat) {te:TE}{a:PTE} (ha:SndE K mg E te a):SndS K mg E (Nv (tBM K "list" BF (tVar i) (UJ te tNil))) (Cw i a):=by
 intro H0 B H σ γ R D hB env h e;unfold Cw at h;split at h
 ·rename_i ds hi;obtain⟨v,hv,b,rfl,hb0,us,hb,rb⟩:=env.slot i _ hi;refine⟨_,hv,.inl ⟨rfl,us,SqL.of hb⟩,ha H0 B H σ γ _ _ _ env h (fun s u H1 h1 S1 t1=>?_) fun c H' hc S'=>e.ex σ γ c H' hc (env.grow S') (Fr.grow S')⟩;have env1:=env.grow S1;split at h1
  ·rename_i d e2;have rd:=t1.shd env1.same env.zm S1 e2;refine⟨b,us,u,rfl,rfl,S1 _ _ hb,by rw[rb.len];exact Qt h1.1 (by decide),?_⟩;obtain⟨e2,f2⟩:=env1.mutate (es:=.lst (ds++[d])) (us:=.lst (us++[u])) hi hv trivial fun F H' SF hF=>⟨_,hF,Rps.mono SF (Rps.append (Rps.mono (JM S1 fun _ _ _ z=>z) rb) (.cons rd .nil))⟩;exact e.nx _ _ _ h1.2 e2 ((Fr.grow S1).trans f2)
  ·exact h1.elim
 ·rename_i x ds hi;obtain⟨v,hv,b,rfl,hb0,rfl,us,hb,rb⟩:=env.slot i _ hi;refine⟨_,hv,.inl ⟨rfl,us,SqL.of hb⟩,ha H0 B H σ γ _ _ _ env h (fun s u H1 h1 S1 t1=>?_) fun c H' hc S'=>e.ex σ γ c H' hc (env.grow S') (Fr.grow S')⟩;have env1:=env.grow S1;split at h1
  ·rename_i d e2;have rd:=t1.shd env1.same env.zm S1 e2;refine⟨b,us,u,rfl,rfl,S1 _ _ hb,by rw[rb.len];exact Qt h1.1 (by decide),?_⟩;obtain⟨e2,f2⟩:=env1.mutate (es:=.lsA b (ds++[d])) (us:=.lst (us++[u])) hi hv trivial fun F H' SF hF=>⟨rfl,_,hF,Rps.mono SF (Rps.append (Rps.mono (JM S1 fun _ _ _ z=>z) rb) (.cons rd .nil))⟩;exact e.nx _ _ _ h1.2 e2 ((Fr.grow S1).trans f2)
  ·exact h1.elim
 ·exact h.elim
end
section
variable {X:Cx}{K:Za}
def Kb (hu:X.A.in1.units<cLine) (hK:X.K=K:=by rfl):OpR X (compareOp .In) (fun x y H Q=>rIn K false x y H Q\/rInP false x y H Q):=(Oc hK).or (GW hu)
def B9 (hu:X.A.in1.units<cLine) (hK:X.K=K:=by rfl):OpR X (compareOp .NotIn) (fun x y H Q=>rIn K true x y H Q\/rInP true x y H Q):=(IQ hK).or (M2 hu)
def PM (hu:X.A.units<cLine) (hK:X.K=K:=by rfl):OpR X (compareOp .Eq) (fun x y H Q=>rEq x y H Q\/rEqL K false x y H Q):=by subst hK;exact op_eq.or (Mx hu)
def Zas (hu:X.A.units<cLine) (hK:X.K=K:=by rfl):OpR X (compareOp .NotEq) (fun x y H Q=>rNe x y H Q\/rEqL K true x y H Q):=by subst hK;exact op_ne.or (Zeh hu)
def Ue {e:Expr}{te:TE} (ha:PE X e te) (hK:X.K=K:=by rfl) (he:∀whole,isTrue e X.env whole=(do let v ←whole;standAt e.pos;holding [v] (truthy v)):=by intro _;rfl):PT X e (tTru K te):=by
 subst hK;exact HK ha he
def KS (hK:X.K=K:=by rfl):UF X (.type "list") (fun xs H Q=>∃p ys,xs=[.ref p]/\(SqL K H p ys\/SqT K H p ys)/\∀l,H l=none->Q (.ref l) (upd H l (.lst ys))):=by subst hK;exact MO
def Ca (hK:X.K=K:=by rfl):UF X (.type "tuple") (fun xs H Q=>∃p ys,xs=[.ref p]/\((SqL K H p ys/\∀l,H l=none->Q (.ref l) (upd H l (.tup ys)))\/(SqT K H p ys/\Q (.ref p) H))):=by subst hK;exact IP
def Kl (hK:X.K=K:=by rfl):UF X (.builtin "isinstance") (fun xs H Q=>∃x n t b,xs=[x,.ty n]/\TyOf K H x t/\PySem.W.kitOne K t (.type n)=some b/\Q (.bl b) H):=by subst hK;exact Zdn
def Xg (hK:X.K=K:=by rfl):SlR X (rSlL K):=by subst hK;exact O8
def Bm (hc:X.calm=true) {w:World} (hK:X.K=K:=by rfl) (hw:X.w=w:=by rfl):UF X (.builtin "sorted") (fun xs H Q=>∃(p:Addr) (js:List Int),xs=[.ref p]/\js.length<64/\(SqL K H p (js.map V.int)\/H p=some (SetH w p js))/\
  ∀(l:Addr) (ns:List Int),H l=none->ns.Perm js->ns.Pairwise (·<=·)->Q (.ref l) (upd H l (.lst (ns.map V.int)))):=by subst hK;subst hw;exact EL hc
def Ul {tg l:Expr}{tl:TE} (hl:PE X l tl) (hK:X.K=K:=by rfl):PI X tg l (T5 K tl):=by subst hK;exact Dj hl
end
section
variable {P:Program}{w:World}{K:Za}{mg:Str->Option Value}{base:Heap}{H H':Hp}
def OC {CX:CXT}{k:Nat}{x:Str}{ps:List Str}{sp:Sp}{c:Pc} (C:Callee P w K mg base CX k x ps sp)
  (h:∀ds R X vs H (Q:VK) (E:XK),Rps K H ds vs->c ds R X->(∀s v H',R s->Same H H'->TV K (fun b=>Mut (H b)) H H H' s v->Q v H')->(∀e H',X e->Same H H'->E (.ref (ExcR.J3 mg e)) none H')->sp vs H Q E) :
  Callee P w K mg base CX k x ps (spOf mg c K):=by
 obtain⟨f,fd,F,rest⟩:=C.ex;exact⟨f,fd,F.imp fun vs H Q E ⟨ds,R,X,r,hc,hQ,hX⟩=>h ds R X vs H Q E r hc hQ hX,rest⟩
def Rp.scr_inv {ns:List Int}{v:V} (h:Rp K H (.scr ns) v):∃a,v=.ref a/\SqL K H a (ns.map V.int):=by
 cases h with
 | scr h=>exact⟨_,rfl,h⟩
def Rp.ints_inv {ns:List Int}{v:V} (h:Rp K H (.lst (ns.map D.int)) v):∃a,v=.ref a/\H a=some (.lst (ns.map V.int)):=by
 obtain⟨a,vs,rfl,h1,r⟩:=h.lst_inv;rw[r.ints] at h1;exact⟨a,rfl,h1⟩
def Rp.pairs_inv {ps:List (Int×Int)}{v:V} (h:Rp K H (.lst (ps.map prD)) v):∃a,v=.ref a/\LAt Xk H a ps:=by
 obtain⟨a,vs,rfl,h1,r⟩:=h.lst_inv;exact⟨a,rfl,vs,h1,r.lv⟩
def Zbo {a:Addr}{ns:List Int} (n:H a=none) (h:H' a=some (.lst (ns.map V.int))):TV K (fun b=>Mut (H b)) H H H' (.own (ns.map D.int)) (.ref a):=⟨a,rfl,(fun _ e=>e▸n),_,h,Rps.of_ints ns⟩
def Pi:∀(ns:List Int),imms (ns.map D.int)=true
 | []=>by unfold List.map imms;rfl
 | n::r=>by rw[YA];unfold imms;rw[Pi r];unfold imm;rfl
def Zco (p:Int×Int):imm (prD p)=true:=by unfold prD imm imms imm imms imm imms;rfl
def XU:∀(ps:List (Int×Int)),imms (ps.map prD)=true
 | []=>by unfold List.map imms;rfl
 | p::r=>by rw[YA];unfold imms;rw[XU r,Zco];rfl
def DQ {α:Type}{f:α->D}{xs:List α}{i:Nat} (h:i<xs.length):(xs.map f).getD i .non=f xs[i]:=by
 rw[Y1,Yz,Yo h];rfl
def Ko {α:Type}{f:α->D}{xs:List α}{i:Int} (h0:0<=i) (h:i<(xs.length:Int)):atI (xs.map f) i=some (f (xs[i.toNat]'(by omega))):=by
 have h':i.toNat<xs.length:=by omega
 exact Kx (TH h0 (Yo h'))
def B7 {α:Type}{f:α->D}{xs:List α}{i:Nat} (h:i<xs.length):atI (xs.map f) (i:Int)=some (f xs[i]):=Kx (Ta (Yo h))
def UG {α:Type}{φ:List (Option Nat)}{γ:Γ}{g:PTG}{c:PTT}{e:PTE}{s:S}{R:S->Prop}{xs:List α}{emb:α->D} (f:α->Option D) (hz:xs.length<=100000)
  (turn:∀x∈xs,g (s.sub (emb x)) (atP φ γ) fun γ2=>c γ2 (fun b=>if b=true then e γ2 (fun s=>∃d,s.shd=some d/\f x=some d) (fun _=>False) else f x=none) fun _=>False)
  (done:R (.own (xs.filterMap f))) :
  CompW φ γ g c e (xs.map emb).length (fun i=>s.sub ((xs.map emb).getD i .non)) R:=by
 rw[Yn];refine⟨⟨hz,fun i=>(xs[i]?).bind f,fun i hi=>?_,by rw[LD];exact done⟩⟩;have e1:(xs[i]?).bind f=f xs[i]:=by rw[Yo hi];rfl
 have t:=turn xs[i] (YH hi);rw[←e1] at t;rw[←DQ (f:=emb) hi] at t;exact t
def Bw {φ:List (Option Nat)}{γ:Γ}{g:PTG}{c:PTT}{e:PTE}{item:Nat->S}{R:S->Prop}{n:Nat} (f:Nat->Option D) (hz:n<=100000)
  (turn:∀i,i<n->g (item i) (atP φ γ) fun γ2=>c γ2 (fun b=>if b=true then e γ2 (fun s=>∃d,s.shd=some d/\f i=some d) (fun _=>False) else f i=none) fun _=>False)
  (done:R (.own ((List.range n).filterMap f))) :
  CompW φ γ g c e n item R:=⟨⟨hz,f,turn,done⟩⟩
def X1 {α:Type}{js:List Nat}{γ:Γ}{g:PTG}{body:PTS}{s:S}{R:PEnds}{xs:List α}{emb:α->D} (inv:Nat->Γ->Prop) (h0:inv 0 (clr js γ))
  (turn:∀(i:Nat) (hi:i<xs.length) γ',inv i γ'->g (s.sub (emb xs[i])) γ' fun γ2=>body { R with nx:=fun γ3=>inv (i+1) (clr js γ3),ct:=fun γ3=>inv (i+1) (clr js γ3),bk:=R.nx } γ2)
  (done:∀γ',inv xs.length γ'->R.nx γ') :
  ForW js γ g body R (xs.map emb).length (fun i=>s.sub ((xs.map emb).getD i .non)):=by
 refine⟨⟨inv,h0,fun i γ' hi h=>?_,fun γ' h=>?_⟩⟩
 ·rw[Yn] at hi;have t:=turn i hi γ' h;rw[←DQ (f:=emb) hi] at t;exact t
 ·rw[Yn] at h;exact done γ' h
def XM {js:List Nat}{γ:Γ}{g:PTG}{body:PTS}{R:PEnds}{n:Nat}{item:Nat->S} (inv:Nat->Γ->Prop) (h0:inv 0 (clr js γ))
  (turn:∀(i:Nat) γ',i<n->inv i γ'->g (item i) γ' fun γ2=>body { R with nx:=fun γ3=>inv (i+1) (clr js γ3),ct:=fun γ3=>inv (i+1) (clr js γ3),bk:=R.nx } γ2)
  (done:∀γ',inv n γ'->R.nx γ'):ForW js γ g body R n item:=⟨⟨inv,h0,turn,done⟩⟩
def Bl {js:List Nat}{γ:Γ}{c:PTT}{body:PTS}{R:PEnds} (inv:Γ->Prop) (μ:Γ->Nat) (h0:inv (clr js γ))
  (turn:∀γ',inv γ'->c γ' (fun b=>if b=true then body { R with nx:=fun γ3=>inv (clr js γ3)/\μ (clr js γ3)<μ γ',ct:=fun γ3=>inv (clr js γ3)/\μ (clr js γ3)<μ γ',bk:=R.nx } γ' else R.nx γ') (R.ex γ')):WhileW js γ c body R:=⟨⟨inv,μ,h0,turn⟩⟩
def Kg {p q:PTS}{R:PEnds}{γ:Γ} (J:Γ->Prop) (h1:p { R with nx:=J } γ) (h2:∀γ',J γ'->q R γ'):JoinW p q R γ:=⟨⟨J,h1,h2⟩⟩
def X0 {α:Type} (c:α->Bool) (emb:α->D):∀ws:List α,ws.filterMap (fun q=>if c q=true then some (emb q) else none)=(ws.filter c).map emb
 | []=>rfl
 | q::r=>by
  by_cases h:c q=true
  ·rw[List.filterMap_cons_some (b:=emb q) (by rw[Yr h]),List.filter_cons_of_pos h,YA,X0 c emb r]
  ·rw[List.filterMap_cons_none (by rw[Yq h]),List.filter_cons_of_neg h,X0 c emb r]
def mapD {α:Type} (emb:α->D) (ws:List α):ws.filterMap (fun q=>some (emb q))=ws.map emb:=by rw[Qp]
def KW {α:Type} (f:α->D) (xs:List α) (lo hi:Option Int):cutD (xs.map f) lo hi=(cutD xs lo hi).map f:=by
 unfold cutD;rw[Yn,List.map_take,List.map_drop]
def Ba {α:Type} (xs:List α) {n:Int} (h:0<=n):cutD xs none (some n)=xs.take n.toNat:=by
 unfold cutD;have e:n=(n.toNat:Int):=by omega
 rw[HT.Ar,e,HT.Nj,List.drop_zero];rw[Nat.sub_zero,YY];by_cases c:n.toNat<=xs.length
 ·rw[Nat.min_eq_left c]
 ·rw[Nat.min_eq_right (by omega),Qo (Yx _),Qo (by omega)]
def PR {α:Type} (xs:List α) {n:Int} (h:0<=n):cutD xs (some n) none=xs.drop n.toNat:=by
 unfold cutD;have e:n=(n.toNat:Int):=by omega
 rw[HT.Ar,e,HT.Nj,YY];by_cases c:n.toNat<=xs.length
 ·rw[Nat.min_eq_left c,Qo (by rw[QI];omega)]
 ·rw[Nat.min_eq_right (by omega),List.drop_of_length_le (Yx _),List.drop_of_length_le (by omega)];simp
def Fq (K:Za):Sp:=fun vs H Q _=>∃(a:Addr) (ns:List Int),vs=[.ref a]/\SqL K H a (ns.map V.int)/\∀H',Q (.bl true) H'
def G5:Pc:=fun ds R _=>∃ns:List Int,ds=[.scr ns]/\R (.sh (.bl true))
def HC {vs:List V}{Q:VK}{Ec:XK} (h:Fq K vs H Q Ec):spOf mg G5 K vs H Q Ec:=by
 obtain⟨a,ns,rfl,hS,q⟩:=h;refine⟨[.scr ns],fun s=>s=.sh (.bl true),fun _=>False,.cons (.scr hS) .nil,⟨ns,rfl,rfl⟩,fun s v H' e S1 tv=>?_,fun _ _ z=>z.elim⟩;subst e;cases tv
 exact q H'
end
section
variable {K:Za}{mg:Str->Option Value}{E:L2.St->XK}{H0 H H1 H':Hp}{B Z Z':Addr->Prop}{σ:L2.St}{γ:Γ}
def TY:D->Option V
 | .int i=>some (.int i) | .bl b=>some (.bl b) | .non=>some .non | .str x=>some (.str x)|_=>none
def vD:V->D
 | .int i=>.int i | .bl b=>.bl b | .str x=>.str x|_=>.non
def TX:V->Bool
 | .int _=>true | .bl _=>true | .str _=>true | .non=>true|_=>false
def B6 {v:V} (h:TX v=true):Rp K H (vD v) v:=by
 cases v with
 | int i=>exact .int i
 | bl b=>exact .bl b
 | str x=>exact .str x
 | non=>exact .non
 | _=>cases h
def FK {d:D}{v u:V} (h:Rp K H d v) (e:TY d=some u):v=u:=by
 cases h with
 | int i=>cases e;rfl
 | bl b=>cases e;rfl
 | non=>cases e;rfl
 | str x=>cases e;rfl
 | _=>cases e
def keyD:D->Option Key
 | .int i=>some (.inl i) | .str x=>some (.inr x)|_=>none
def PJ:List D->Option (List Key)
 | []=>some []
 | d::r=>match keyD d,PJ r with
  | some k,some ks=>some (k::ks)
  | _,_=>none
def P4:D->Option (List Key)
 | .tup ds=>PJ ds
 | _=>none
def Nh {d:D}{v:V}{k:Key} (h:Rp K H d v) (e:keyD d=some k):v=kV k:=by
 cases h with
 | int i=>cases e;rfl
 | str x=>cases e;rfl
 | _=>cases e
def Dg:∀{ds:List D}{vs:List V}{ks:List Key},Rps K H ds vs->PJ ds=some ks->vs=ks.map kV
 | [],_,_,.nil,e=>by cases e;rfl
 | d::r,_,ks,.cons h t,e=>by
  unfold PJ at e;split at e
  ·rename_i k js e1 e2;cases e
   rw[Nh h e1,Dg t e2];rfl
  ·cases e
def Nt {d:D}{v:V}{ks:List Key} (h:Rp K H d v) (e:P4 d=some ks):∃b,v=.ref b/\H b=some (.tup (ks.map kV)):=by
 cases h with
 | tup h r=>
  rw[Dg r e] at h;exact⟨_,rfl,h⟩
 | _=>cases e
def Rp.dK_inv {kvs:List (Key×V)}{v:V} (h:Rp K H (.dK kvs) v):∃a,v=.ref a/\H a=some (.dK kvs):=by
 cases h with
 | dK h=>exact⟨_,rfl,h⟩
def Rp.dT_inv {kvs:List (List Key×V)}{v:V} (h:Rp K H (.dT kvs) v):∃a,v=.ref a/\H a=some (.dT kvs):=by
 cases h with
 | dT h=>exact⟨_,rfl,h⟩
def Mh:PTE:=fun _ R _=>R (.own (.dK []))
def Lr:PTE:=fun _ R _=>R (.own (.dT []))
def Zax:SndE K mg E DF Mh:=by
 intro H0 B H σ γ R X Q env p q _;intro l nl;exact q _ _ _ p (UB nl) ⟨l,rfl,(fun _ e=>e▸nl),Uj⟩
def O4:SndE K mg E CK Lr:=by
 intro H0 B H σ γ R X Q env p q _;intro l nl;exact q _ _ _ p (UB nl) ⟨l,rfl,(fun _ e=>e▸nl),Uj⟩
def A6:S->S->(S->Prop)->Prop:=fun x y R=>match x.d with
 | .dK kvs=>∃k v,keyD y.d=some k/\valV kvs k=some v/\TX v=true/\R (.sh (vD v))
 | .dT kvs=>∃k v,P4 y.d=some k/\valV kvs k=some v/\TX v=true/\R (.sh (vD v))
 | _=>False
def Tn {td ty:TE}{a b:PTE} (ha:SndE K mg E td a) (hb:SndE K mg E ty b):SndE K mg E (GR td ty) (p2 a b A6):=by
 show SndE K mg E (tOp (fun x y H Q=>∃a v,x=.ref a/\DGet H a y (some v)/\Q v H) td ty) _;refine se_2 ha hb fun H0 H H2 Z x y v u R Q s0 s1 hm tx ty h q=>?_;have rx:=tx.rp s0;have ry:=ty.rp s0;unfold A6 at h;split at h
 ·rename_i kvs e;rw[e] at rx;obtain⟨l,rfl,hl⟩:=rx.dK_inv;obtain⟨k,w,h1,h2,h3,h4⟩:=h;refine⟨l,w,rfl,?_,q _ _ H2 h4 (Same.refl _) (B6 h3)⟩;rw[Nh ry h1,←h2];exact DGet.k hl
 ·rename_i kvs e;rw[e] at rx;obtain⟨l,rfl,hl⟩:=rx.dT_inv;obtain⟨k,w,h1,h2,h3,h4⟩:=h;obtain⟨b,rfl,hb⟩:=Nt ry h1;refine⟨l,w,rfl,?_,q _ _ H2 h4 (Same.refl _) (B6 h3)⟩;rw[←h2];exact DGet.t hl hb
 ·exact h.elim
def fDIn (neg:Bool):S->S->(S->Prop)->Prop:=fun y x R=>match x.d with
 | .dK kvs=>∃k,keyD y.d=some k/\R (.sh (.bl (if neg then !(valV kvs k).isSome else(valV kvs k).isSome)))
 | .dT kvs=>∃k,P4 y.d=some k/\R (.sh (.bl (if neg then !(valV kvs k).isSome else(valV kvs k).isSome)))
 | _=>False
def Mo {td ty:TE}{a b:PTE} (ha:SndE K mg E ty a) (hb:SndE K mg E td b):SndE K mg E (Dk ty td) (p2 a b (fDIn true)):=by
 show SndE K mg E (tOp (fun y x H Q=>∃a o,x=.ref a/\DGet H a y o/\Q (.bl (!o.isSome)) H) ty td) _;refine se_2 ha hb fun H0 H H2 Z y x u v R Q s0 s1 hm ty tx h q=>?_;have rx:=tx.rp s0;have ry:=ty.rp s0;unfold fDIn at h;split at h
 ·rename_i kvs e;rw[e] at rx;obtain⟨l,rfl,hl⟩:=rx.dK_inv;obtain⟨k,h1,h4⟩:=h;refine⟨l,_,rfl,?_,q _ _ H2 h4 (Same.refl _) (.bl _)⟩;rw[Nh ry h1];exact DGet.k hl
 ·rename_i kvs e;rw[e] at rx;obtain⟨l,rfl,hl⟩:=rx.dT_inv;obtain⟨k,h1,h4⟩:=h;obtain⟨b,rfl,hb⟩:=Nt ry h1;exact⟨l,_,rfl,DGet.t hl hb,q _ _ H2 h4 (Same.refl _) (.bl _)⟩
 ·exact h.elim
def EW (i:Nat) (b a:PTE):PTS:=fun R γ=>match γ[i]? with
 | some (some (.own (.dK kvs)))=>a γ (fun s=>b γ (fun y=>∃k u,keyD y.d=some k/\TY s.d=some u/\kvs.length<100000/\R.nx (γ.set i (some (.own (.dK (putK kvs k u)))))) (R.ex γ)) (R.ex γ)
 | some (some (.own (.dT kvs)))=>a γ (fun s=>b γ (fun y=>∃k u,P4 y.d=some k/\TY s.d=some u/\kvs.length<100000/\R.nx (γ.set i (some (.own (.dT (putK kvs k u)))))) (R.ex γ)) (R.ex γ)
 | _=>False
def Sr (i:Nat) {ty tv:TE}{a b:PTE} (hb:SndE K mg E ty b) (ha:SndE K mg E tv a):SndS K mg E (D3 (tVar i) ty tv) (EW i b a):=by
 intro H0 B H σ γ R D hB env h e;have hx:∀c H',R.ex γ c->Same H H'->E σ (.ref (ExcR.J3 mg c)) none H':=fun c H' hc S'=>e.ex σ γ c H' hc (env.grow S') (Fr.grow S');unfold EW at h;split at h
 ·rename_i kvs hi;obtain⟨v,hv,l,rfl,hb0,hl⟩:=env.slot i _ hi;refine ha H0 B H σ γ _ _ _ env h (fun s u H1 h1 S1 t1=>⟨_,hv,?_⟩) hx;have env1:=env.grow S1;refine hb H0 B H1 σ γ _ _ _ env1 h1 (fun y w H2 h2 S2 t2=>?_) fun c H' hc S'=>hx c H' hc (S1.trans S');obtain⟨k,z,k1,k2,k3,k4⟩:=h2;have env2:=env1.grow S2;have eu:=FK (t1.rp env1.same) k2;have ew:=Nh (t2.rp env2.same) k1;subst eu ew;refine⟨l,_,rfl,DPut.k (S2 _ _ (S1 _ _ hl)) (Qt k3 (by decide)),?_⟩;obtain⟨e2,f2⟩:=env2.mutate (es:=.dK (putK kvs k u)) (us:=.dK (putK kvs k u)) hi hv trivial fun F H' SF hF=>hF;exact e.nx _ _ _ k4 e2 ((Fr.grow (S1.trans S2)).trans f2)
 ·rename_i kvs hi;obtain⟨v,hv,l,rfl,hb0,hl⟩:=env.slot i _ hi;refine ha H0 B H σ γ _ _ _ env h (fun s u H1 h1 S1 t1=>⟨_,hv,?_⟩) hx;have env1:=env.grow S1;refine hb H0 B H1 σ γ _ _ _ env1 h1 (fun y w H2 h2 S2 t2=>?_) fun c H' hc S'=>hx c H' hc (S1.trans S');obtain⟨k,z,k1,k2,k3,k4⟩:=h2;have env2:=env1.grow S2;have eu:=FK (t1.rp env1.same) k2;obtain⟨b',rfl,hb'⟩:=Nt (t2.rp env2.same) k1;subst eu;refine⟨l,_,rfl,DPut.t (S2 _ _ (S1 _ _ hl)) hb' (Qt k3 (by decide)),?_⟩;obtain⟨e2,f2⟩:=env2.mutate (es:=.dT (putK kvs k u)) (us:=.dT (putK kvs k u)) hi hv trivial fun F H' SF hF=>hF;exact e.nx _ _ _ k4 e2 ((Fr.grow (S1.trans S2)).trans f2)
 ·exact h.elim
def Zcc (a:PTE):PTS:=fun R γ=>a γ (fun s=>match s.shd with|some d=>R.rt (.sh d)|none=>False) (R.ex γ)
def DM {te:TE}{a:PTE} (ha:SndE K mg E te a):SndS K mg E (tRet te) (Zcc a):=by
 intro H0 B H σ γ R D hB env h e;refine ha H0 B H σ γ _ _ _ env h (fun s v H1 h1 S1 t1=>?_) fun c H' hc S'=>e.ex σ γ c H' hc (env.grow S') (Fr.grow S');split at h1
 ·rename_i d hd;have r:=t1.shd (env.grow S1).same env.zm S1 hd;exact e.rt (.sh d) v H1 h1 (env.same.trans S1) (Rp.mono (JM (Same.refl _) fun b _ _ z y=>z (.inl y)) r)
 ·exact h1.elim
def Aa (i:Nat) (γ:Γ):Nat:=match γ[i]? with
 | some (some (.own (.lst ds)))=>ds.length
 | _=>0
def UR {α:Type} (d:α) (ds:List α):atI (d::ds) 0=some d:=TH (by decide) rfl
def em (l:Int) (p:List Int):D:=.lst ((l::p).map D.int)
def Bk (l:Int) (p:List Int):atI ((l::p).map D.int) (-1)=some (.int (Ud l p)):=by
 refine Kx ?_;unfold atI ixN;rw[Yq (by omega),Yr (by rw[YC];omega)];have e:(-1+((l::p).length:Int)).toNat=p.length:=by rw[YC];omega
 rw[e];exact Fb l p
end
section
variable {K:Za}{mg:Str->Option Value}{E:L2.St->XK}{H0 H H1 H':Hp}{B Z Z':Addr->Prop}{σ:L2.St}{γ:Γ}
def GF:List S->(S->Prop)->Prop
 | [s],R=>∃ns:List Int,s.d=.lst (ns.map D.int)/\R (.sh (.int ns.sum))
 | _,_=>False
def Ae {ta:TA}{r:PTA} (hr:SndA K mg E ta r):SndE K mg E (tCB (fun xs H Q=>∃(p:Addr) (ns:List Int),xs=[.ref p]/\SqL K H p (ns.map V.int)/\Q (.int ns.sum) H) ta) (pCB GF r):=by
 refine XF hr fun H0 H H1 Z ss vs R Q s0 s1 hm tv h q=>?_;unfold GF at h;split at h
 ·obtain⟨v,rfl,t1⟩:=tv.one_inv;obtain⟨ns,e,hR⟩:=h;have rv:=t1.rp s0;rw[e] at rv;obtain⟨a,rfl,ha⟩:=rv.ints_inv;exact⟨a,ns,rfl,SqL.of ha,q _ _ H1 hR (Same.refl _) (.int _)⟩
 ·exact h.elim
def Dr:List S->(S->Prop)->Prop
 | [s],R=>∃ns:List Int,s.d=.lst (ns.map D.int)/\0<ns.length/\∀m,m∈ns->(∀a∈ns,m<=a)->R (.sh (.int m))
 | _,_=>False
def IX {ta:TA}{r:PTA} (hr:SndA K mg E ta r):SndE K mg E (tCB (fun xs H Q=>∃(p:Addr) (ns:List Int),xs=[.ref p]/\SqL K H p (ns.map V.int)/\0<ns.length/\∀M,M∈ns->(∀a∈ns,M<=a)->Q (.int M) H) ta) (pCB Dr r):=by
 refine XF hr fun H0 H H1 Z ss vs R Q s0 s1 hm tv h q=>?_;unfold Dr at h;split at h
 ·obtain⟨v,rfl,t1⟩:=tv.one_inv;obtain⟨ns,e,hne,hR⟩:=h;have rv:=t1.rp s0;rw[e] at rv;obtain⟨a,rfl,ha⟩:=rv.ints_inv;exact⟨a,ns,rfl,SqL.of ha,hne,fun m h1 h2=>q _ _ H1 (hR m h1 h2) (Same.refl _) (.int _)⟩
 ·exact h.elim
def Ds:List S->(S->Prop)->Prop
 | [s],R=>∃bs:List Bool,s.d=.lst (bs.map D.bl)/\R (.sh (.bl (bs.any id)))
 | _,_=>False
def Rps.bls {K:Za}{H:Hp}:∀{js:List Bool}{vs:List V},Rps K H (js.map D.bl) vs->vs=js.map V.bl
 | [],_,.nil=>rfl
 | j::r,_,.cons h t=>by rw[Rp.bl_inv h,Rps.bls t];rfl
def Ei {ta:TA}{r:PTA} (hr:SndA K mg E ta r):SndE K mg E (tCB (fun xs H Q=>∃(p:Addr) (bs:List Bool),xs=[.ref p]/\SqL K H p (bs.map V.bl)/\Q (.bl (bs.any id)) H) ta) (pCB Ds r):=by
 refine XF hr fun H0 H H1 Z ss vs R Q s0 s1 hm tv h q=>?_;unfold Ds at h;split at h
 ·obtain⟨v,rfl,t1⟩:=tv.one_inv;obtain⟨bs,e,hR⟩:=h;have rv:=t1.rp s0;rw[e] at rv;obtain⟨a,us,rfl,ha,r1⟩:=rv.lst_inv;rw[r1.bls] at ha;exact⟨a,bs,rfl,SqL.of ha,q _ _ H1 hR (Same.refl _) (.bl _)⟩
 ·exact h.elim
def fEqE (neg:Bool):S->S->(S->Prop)->Prop:=fun x y R=>match x.d,y.d with
 | .lst ds,.lst []=>R (.sh (.bl (if neg then !ds.isEmpty else ds.isEmpty)))
 | _,_=>False
def Pz {neg:Bool}{ta tb:TE}{a b:PTE} (ha:SndE K mg E ta a) (hb:SndE K mg E tb b):SndE K mg E (tOp (rEqE K neg) ta tb) (p2 a b (fEqE neg)):=by
 refine se_2 ha hb fun H0 H H2 Z x y v u R Q s0 s1 hm tx ty h q=>?_;have rx:=tx.rp s0;have ry:=ty.rp s0;unfold fEqE at h;split at h
 ·rename_i ds e1 e2;rw[e1] at rx;rw[e2] at ry;obtain⟨l,us,rfl,hl,r⟩:=rx.lst_inv;obtain⟨m,ws,rfl,hm',r'⟩:=ry.lst_inv;cases r'
  refine⟨l,m,us,rfl,rfl,SqL.of hl,SqL.of hm',?_⟩;rw[Sq r.len];exact q _ _ H2 h (Same.refl _) (.bl _)
 ·exact h.elim
def SA (x y:Int) {k:Int} (h:k=0\/k=1):atI [D.int x,D.int y] k=some (.int (if k=0 then x else y)):=by
 rcases h with rfl|rfl
 ·rfl
 ·rfl
def Kq {α:Type} (xs:List α) (lo hi:Option Int):(cutD xs lo hi).Sublist xs:=(QA _ _).trans (List.drop_sublist _ _)
end
end Pu
namespace PySem
open Sem (wp)
structure VPairs {K:Type} (es:List DictEntry) (kvs:List (K×Value)):Prop where
 length:es.length=kvs.length
 get?:∀{i:Nat} {e:DictEntry} {k:K} {v:Value},es[i]?=some e->kvs[i]?=some (k,v)->True/\e.val=v
def VDict {K:Type} (h:Heap) (a:Addr) (kvs:List (K×Value)) (ep:Nat):Prop:=
 ∃o es,h.get? a=some o/\o.ExactDict/\o.data=.dict es ep/\True/\VPairs es.toList kvs/\True
section
variable {prog:Program}{w:World}{K:Type}{A:Around}{E:Value->Shared->Prop}{s:Shared}
def IT (d:Addr) (hd:(d==sysModules)=false) :
  MeetsIn prog w (Builtin.«dict.values» ⟨[.ref d],[]⟩) (fun _ R s=>s.TypeIs (.ref d) "dict"/\
   R (.ok (.ret (.ref s.heap.objs.size))) { s with heap:=s.heap.push { cls:=.type "dict_values",data:=.fields #[.ref d] } }):=
 .of_wp fun A R s ⟨hm,h⟩=>by
  refine Yp ?_;unfold Builtin.Dict.noArgs;refine Yp (wpAny_notOrdered_dict hm ?_);show wpAny _ _ (pure d) _ _ s;refine Yt ?_;show wpAny _ _ (Builtin.Dict.showsAll d >>= _) _ _ s;unfold Builtin.Dict.showsAll;rw[Yq (by rw[hd];exact Y9)];refine Yp (Yt ?_);exact Yp (Wl (Yt ⟨_,rfl,h⟩))
def R1 {v d:Addr}{kvs:List (K×Value)}{ep:Nat}{Q:Value->Shared->Prop} (hv:s.heap.IsValuesView v d) (hm:VDict s.heap d kvs ep)
  (hQ:Q (.ref s.heap.objs.size) { s with heap:=s.heap.push { cls:=.type "dict_valueiterator",data:=.fields #[.ref d,.int 0 0,.int kvs.length 0,.int ep 0] } }) :
  wpAny (model prog w) A (pyIter (.ref v)) Q E s:=by
 obtain⟨ov,hov,hcv,hdv⟩:=id hv;obtain⟨o,es,ho,hc,hdat,hk,hp,hn⟩:=id hm;refine wpAny_pyIter_slot hv.typeIs F.slot_dict_values_iter (WM F.slot_dict_values_iter hv.typeIs F.entry_dict_values_iter ?_ (F.args_dict_values_iter_1 _));unfold Builtin.«dict_values.__iter__»;refine Yp (Yt ?_);refine Yp ?_;unfold Builtin.Dict_items.dictOf;refine Yp (Vc hov hdv (x:=.ref d) rfl (Yt ?_));refine Yp ?_;unfold Builtin.Dict_items.newIterator;refine Yp (wpAny_dictEntries ho hdat ?_);refine Yp (wpAny_dictEpoch ho hdat ?_);have hsz:es.size=kvs.length:=by rw[←hp.length];simp
 have hown:Builtin.Dict_items.ownsTuple "dict_valueiterator"=false:=by decide
 simp only[hown,Q5,QJ];refine Wl (Yt ⟨_,rfl, "dict_valueiterator",_,⟨_,Y6 _ rfl,rfl⟩,F.slot_dict_valueiterator_next.lookup,?_⟩);simpa [rawInt,hsz] using hQ
def OO {it d:Addr}{i ep:Nat}{kvs:List (K×Value)}{k:K}{v:Value}{Q:Option Value->Shared->Prop} (hit:s.heap.IsValIter it d i kvs.length ep)
  (hm:VDict s.heap d kvs ep) (hx:kvs[i]?=some (k,v))
  (hQ:∀h',h'.IsValIter it d (i+1) kvs.length ep->Heap.SameBut it s.heap h'->Q (some v) { s with heap:=h' }) :
  wpAny (model prog w) A (pyNext (.ref it)) Q E s:=by
 obtain⟨o,ho,hc,hd⟩:=id hit;obtain⟨od,es,hod,hcd,hdd,hk,hp,hn⟩:=id hm;unfold pyNext
 refine Yp (wpAny_attempt (Q9 (name:=Str.ofString "__next__") hit.typeIs WH
  (WM WH hit.typeIs F.entry_dict_valueiterator_next ?_ (F.args_dict_valueiterator_next_1 _))))
 refine Yp (Yt ?_);refine Yp ?_;refine Yp ?_
 first|refine Yp (WJ hit.typeIs (Yt ?_))|refine Yp (Qg hit.typeIs (Yt ?_))
 refine Yp (wpAny_fieldsOf ho hd ?_);have hown:Builtin.Dict_items.ownsTuple "dict_valueiterator"=false:=by decide
 simp only[hown,Q5,QJ];show wpAny _ _ (if (Value.ref d==Value.none)=true then _ else _) _ _ s;rw[Yq (show ¬((Value.ref d==Value.none)=true) from Y9)]
 refine Yp (Yt ?_);refine Yp (wpAny_dictEntries hod hdd ?_);have hsz:es.size=kvs.length:=by rw[←hp.length];simp
 rw[Yq (by rw[hsz];simp)];refine Yp (Yt ?_);refine Yp (wpAny_dictEpoch hod hdd ?_);rw[Yq (by simp)];refine Yt ?_
 have hlt:i<kvs.length:=by
  rcases Nat.lt_or_ge i kvs.length with h|h
  ·exact h
  ·simp[WS h] at hx
 have hlt':i<es.size:=by rw[hsz];exact hlt
 have hval:es[i].val=v:=(hp.get? (e:=es[i]) (by simp[hlt']) hx).2;simp only[show ¬((i:Int)<0) from by omega,QJ,YY,W1 hlt']
 refine Yp ?_
 first|refine Yp (WJ hit.typeIs (Yt ?_))|refine Yp (Qg hit.typeIs (Yt ?_))
 refine Yp (QM hit.typeIs ?_);show wpAny _ _ (setField (.ref it) 1 (rawInt ((i:Int)+1)) >>= _) _ _ s;refine Yp (WD ho hd (by simp) ?_)
 have hit':(s.heap.update it (Obj.mapFields (·.setIfInBounds 1 (rawInt ((i:Int)+1))))).IsValIter it d (i+1) kvs.length ep:=
  ⟨_,Wn _ ho (WE (Wq hd _)),(QC ..).trans hc,by rw[Wq hd];simp[rawInt]⟩
 refine Yp (Qz ?_);refine Yp (QM (s:={ s with heap:=s.heap.update it (Obj.mapFields (·.setIfInBounds 1 (rawInt ((i:Int)+1)))) }) hit'.typeIs ?_)
 refine Yp (QM (s:={ s with heap:=s.heap.update it (Obj.mapFields (·.setIfInBounds 1 (rawInt ((i:Int)+1)))) }) hit'.typeIs ?_)
 show wpAny _ _ (pure es[i].val) _ _ _;exact Yt (Yt ⟨_,rfl,Yt (hval▸hQ _ hit' (Wu ..))⟩)
def Ih {it d:Addr}{i ep:Nat}{kvs:List (K×Value)}{Q:Option Value->Shared->Prop} (hh:A.handled=none) (hit:s.heap.IsValIter it d i kvs.length ep)
  (hm:VDict s.heap d kvs ep) (hx:kvs[i]?=none)
  (hQ:∀h',Heap.ExtBut it s.heap h'->Q none { s with heap:=h' }):wpAny (model prog w) A (pyNext (.ref it)) Q E s:=by
 obtain⟨o,ho,hc,hd⟩:=id hit;obtain⟨od,es,hod,hcd,hdd,hk,hp,hn⟩:=id hm;unfold pyNext
 refine Yp (wpAny_attempt (Q9 (name:=Str.ofString "__next__") hit.typeIs WH
  (WM WH hit.typeIs F.entry_dict_valueiterator_next ?_ (F.args_dict_valueiterator_next_1 _))))
 refine Yp (Yt ?_);refine Yp ?_;refine Yp ?_
 first|refine Yp (WJ hit.typeIs (Yt ?_))|refine Yp (Qg hit.typeIs (Yt ?_))
 refine Yp (wpAny_fieldsOf ho hd ?_);have hown:Builtin.Dict_items.ownsTuple "dict_valueiterator"=false:=by decide
 simp only[hown,Q5,QJ];show wpAny _ _ (if (Value.ref d==Value.none)=true then _ else _) _ _ s;rw[Yq (show ¬((Value.ref d==Value.none)=true) from Y9)]
 refine Yp (Yt ?_);refine Yp (wpAny_dictEntries hod hdd ?_);have hsz:es.size=kvs.length:=by rw[←hp.length];simp
 rw[Yq (by rw[hsz];simp)];refine Yp (Yt ?_);refine Yp (wpAny_dictEpoch hod hdd ?_);rw[Yq (by simp)];refine Yt ?_;have hge:es.size<=i:=by rw[hsz];simpa using hx
 simp only[show ¬((i:Int)<0) from by omega,QJ,YY,QG hge]
 refine Yp ?_
 first|refine Yp (WJ hit.typeIs (Yt ?_))|refine Yp (Qg hit.typeIs (Yt ?_))
 show wpAny _ _ (setField (.ref it) 0 .none >>= _) _ _ s;refine Yp (WD ho hd (by simp) ?_);show wpAny _ _ (newExc (.type "StopIteration") [] >>= _) _ _ _;refine Yp ?_;simp only[newExc,newTuple];refine Yp (Wl ?_ (by size_fits));refine Yp (m:=firstArgMember _ _) (wpAny_of_eq (a:=Value.none) (by first|rfl|(simp only[firstArgMember];rfl)) ?_)
 refine Wl ?_ (by size_fits);simp only[raiseNew];refine Yp (wpAny_handled ?_);rw[show A.in1.handled=none from hh]
 refine Yp (Yt (wpAny_throw ?_));refine Yp (wpAny_isInstance (T:="StopIteration") (b:=true) ⟨_,Y6 _ rfl,rfl⟩ isSubtype_stop ?_);exact Yt (hQ _ (((Wu ..).extBut.push _).push _))
end
end PySem
namespace Own
open PySem PySem.Spec PyProof.Rows L2
def EJ (K:Za):R2:=fun x y H Q=>∃a b xs ys,x=.ref a/\y=.ref b/\SqT K H a xs/\SqT K H b ys/\xs.length+ys.length<=sizeLine/\
 (xs=[]->Q (.ref b) H)/\(xs≠[]->ys=[]->Q (.ref a) H)/\(xs≠[]->ys≠[]->∀p,H p=none->Q (.ref p) (upd H p (.tup (xs++ys))))
section
variable {X:Cx}{K:Za}
def Zec (hK:X.K=K:=by rfl):OpR X (binaryOp .Add) (EJ K):=by
 subst hK;intro pins s σ H x y v u Q I rx ry h;obtain⟨a,b,xs,ys,rfl,rfl,ha,hb,hz,q0,q1,q2⟩:=h;cases rx
 cases ry
 by_cases hx:xs=[]
 ·obtain⟨its,r1,p1,_⟩:=I.tuple ha;obtain⟨its2,r2,p2,_⟩:=I.tuple hb;have e:its=[]:=r1.nil_iff.mpr hx;obtain⟨⟨cls,dd,data,sl⟩,ho,hc,n,hd⟩:=id p1;obtain⟨⟨cls2,dd2,data2,sl2⟩,ho2,hc2,n2,hd2⟩:=id p2;simp only at hc hd hc2 hd2;subst hc hd hc2 hd2
  exact concat_meets ⟨_,ho,rfl⟩ ⟨_,ho2,rfl⟩ noFill_tuple_add seq_tuple_add QF Q8 (Q3 _ _)
   (tuple_addW0 a b its.toArray its2.toArray n n2 dd dd2 sl sl2 (by simp[e])) ⟨ho,ho2,⟨.ref b,H,I,rfl,q0 hx⟩⟩
 ·exact LX pins s σ H (.ref a) (.ref b) _ _ Q I rfl rfl ⟨a,b,xs,ys,rfl,rfl,ha,hb,hx,hz,q1 hx,q2 hx⟩
def Zbk {b:Addr}{x:V}{ws:List (Value×Value)} (h:VV [(.ref b,x)] ws):∃r,ws=[(.ref b,r)]/\RelV x r:=by
 cases h with
 | cons h t=>
  cases t
  rename_i y;obtain⟨u,r⟩:=y;obtain⟨h1,h2⟩:=h;cases (show u=Value.ref b from h1)
  exact⟨r,rfl,h2⟩
def Ac (tk tv:TE):TE:=fun σ H Q=>∀p,H p=none->tk σ (upd H p (.dT [])) fun y H1=>tv σ H1 fun x H2=>H2 p=some (.dT [])/\∃b ks,y=.ref b/\H2 b=some (.tup (ks.map kV))/\Q (.ref p) (upd H2 p (.dT [(ks,x)]))
def Zdz {k v:Expr}{tk tv:TE}{pos:Pos} (hu:X.A.units+1<cLine) (hk:PE X k tk) (hv:PE X v tv):PE X (.Dict [some k] [v] pos) (Ac tk tv):=by
 intro pins s σ H Q I q;have hn:=I.hok.fresh (Yx s.heap.objs.size);have I1:=I.laid (a:=s.heap.objs.size) (o:=.dT []) (h':=s.heap.push { cls:=.type "dict",data:=.dict #[] }) (t':=s.toks) (fun _ _ q=>Yu _ q) (Yx _) (Gd s.heap I.big)
 refine wpAny_Dict_any rfl rfl (by simp) (by simp) (thn ((RI hk hv Hj) pins _ σ _ (fun ps H2=>match ps with
  | [(y,x)]=>H2 s.heap.objs.size=some (.dT [])/\∃b ks,y=.ref b/\H2 b=some (.tup (ks.map kV))/\Q (.ref s.heap.objs.size) (upd H2 s.heap.objs.size (.dT [(ks,x)]))
  | _=>False) I1 (q _ hn)) fun ws s2 ⟨ps,H2,I2,rel,h2⟩=>?_)
 split at h2
 ·rename_i y x;obtain⟨e,b,ks,ey,eb,q2⟩:=h2;subst ey;obtain⟨wv,ew,rv⟩:=Zbk rel;subst ew;obtain⟨z,hd,xs,rel',dd⟩:=NS I2.hok e;cases rel'
  unfold storeAll;rw[QU];refine Yp (Yp (wpAny_dictSet_heap (hsz:=Wy _) (show(tupleKind _).room X.A from Nat.lt_of_succ_lt hu) (TB I2.hok eb) dd fun h' dd' hs=>Yt ?_))
  dsimp only
  rw[List.forIn_nil];refine Yt ?_;obtain⟨qo,es,ep,hq,h2,h3,h4,_,h5⟩:=dd';refine⟨.ref s.heap.objs.size,_,Sj (ob:=.dT [(ks,x)]) I2 (by rw[e];exact True.intro) hs ⟨qo,hq⟩ ⟨(by show 1<=sizeLine;decide),hd,[(ks,b,wv)],?_,qo,es,ep,hq,h2,h3,h4,h5⟩,rfl,q2⟩;refine .cons ⟨rfl,?_,rv⟩ .nil;rw[JW (DA eb e (fun z=>nomatch z))];exact eb
 ·exact h2.elim
end
section
variable {prog:Program}{w:World}{A:Around}{K:Type}{d r:Addr}{kvs:List (K×Value)}{ep:Nat}{h h':Heap}
def VDict.at (x:VDict h d kvs ep) (e:∀o,h.get? d=some o->h'.get? d=some o):VDict h' d kvs ep:=let ⟨o,es,ho,r⟩:=x;⟨o,es,e _ ho,r⟩
def VDict.lt (x:VDict h d kvs ep):d<h.objs.size:=let ⟨_,_,ho,_⟩:=x;Y3 ho
def M5 (hh:A.handled=none) (I d:Addr) (hne:d≠I) (kvs:List (K×Value)) (ep:Nat) :
  Walks prog w A I [I,d] [I] kvs.length (fun i v=>∃k,kvs[i]?=some (k,v)) (fun i h=>h.IsValIter I d i kvs.length ep/\VDict h d kvs ep) where
 sub:=fun b hb=>by simp at hb;simp[hb]
 frame:=fun _ _ _ st hk=>⟨st.1.at fun o e=>hk I (by simp) o e,VDict.at st.2 fun o e=>hk d (by simp) o e⟩
 item:=fun i s Q E hi st hQ=>by
  refine OO (k:=(kvs[i]).1) (v:=(kvs[i]).2) st.1 st.2 (by simp[hi]) fun h' hit' hs'=>?_;exact hQ _ h' s.toks ⟨(kvs[i]).1,by simp[hi]⟩ ⟨hit',VDict.at st.2 fun o e=>hs'.extBut d o hne e⟩ fun b o hb e=>hs'.extBut b o (fun h=>hb (by simp[h])) e
 done:=fun s Q E st hQ=>Ih hh st.1 st.2 (by simp) fun h' he'=>hQ h' s.toks fun b o hb e=>he' b o (fun h=>hb (by simp[h])) e
 self:=fun _ _ _ _ st hQ=>wpAny_pyIter_valiter st.1 hQ
def O5:PySem.W.KdlSrc prog w "dict_values" r d kvs.length (fun i v=>∃k,kvs[i]?=some (k,v)) (fun h=>h.IsValuesView r d/\VDict h d kvs ep) where
 type:=fun _ hm=>hm.1.typeIs
 there:=fun _ hm=>⟨let ⟨_,ho,_⟩:=hm.1;Y3 ho,VDict.lt hm.2⟩
 keep:=fun _ _ hm hk=>⟨let ⟨o,ho,x⟩:=hm.1;⟨o,hk r (.inl rfl) o ho,x⟩,VDict.at hm.2 fun o e=>hk d (.inr rfl) o e⟩
 notList:=by decide
 notTuple:=by decide
 hint:=fun _ _ _ _ hm hq=>PySem.W.kdl_hint_values hm.1.typeIs hq
 iter:=fun _ _ hh hm=>⟨_,_,(fun _ _ hq=>R1 hm.1 hm.2 hq),M5 hh _ d (YL (VDict.lt hm.2)) kvs ep,⟨⟨_,Y6 _ rfl,rfl,rfl⟩,VDict.at hm.2 fun o e=>Yu _ e⟩⟩
end
def Tu (v d:Addr):HO:=.ext fun h=>h.IsValuesView v d
def NX:V->List V->Hp->VK->Prop:=fun x vs H Q=>∃d kvs,x=.ref d/\vs=[]/\H d=some (.dT kvs)/\∀v,H v=none->Q (.ref v) (upd H v (Tu v d))
section
variable {X:Cx}
def OH:MtR X "dict.values" NX:=by
 intro pins s σ H x xs v us Q I rx rv h;obtain⟨d,kvs,rfl,rfl,hd,q⟩:=h;cases rx
 have hus:=rv.zero;subst hus;obtain⟨z,lo,xs,rel,dd⟩:=NS I.hok hd;obtain⟨o,es,ep,ho,hx,_⟩:=id dd;refine call_meetsIn PySem.F.slot_dict_values ⟨o,ho,hx.1⟩ PySem.F.entry_dict_values (PySem.F.args_dict_values_1 _) (IT d lo) ⟨⟨o,ho,hx.1⟩,?_⟩;refine⟨.ref s.heap.objs.size,_,I.laid (a:=s.heap.objs.size) (o:=Tu s.heap.objs.size d) (t':=s.toks) (fun _ _ q=>Yu _ q) (Yx _) ⟨⟨_,Y6 _ rfl,rfl,rfl⟩,⟨_,Y6 _ rfl⟩,fun h1 h2 ⟨o,ho,r⟩ e=>⟨o,e o ho,r⟩⟩,rfl,q _ (I.hok.fresh (Yx _))⟩
def Zbx {K:Za}{o:Expr}{to:TE}{name:Str}{apos cpos:Pos} (ho:PE X o to) (hK:X.K=K:=by rfl) (hn:name = "values":=by rfl)
  (hbase:attributeBase o name X.env (eval o X.env)=eval o X.env:=by rfl) (hline:(apos.endLine==cpos.line)=true:=by rfl):PE X (.Call (.Attribute o name apos) [] [] cpos) (tBM0 K "dict" NX to):=by
 subst hK hn;exact Td PySem.F.plainAttrs_dict PySem.F.slot_dict_values PySem.F.type_dict_values OH ho hbase hline
def NV {H:Hp}:∀{kvs:List (List Key×V)}{xs:List (List Key×Addr×Value)},KT H kvs xs->Vals (kvs.map (·.2)) (xs.map (·.2.2))
 | _,_,.nil=>.nil
 | _,_,.cons h r=>.cons h.2.2 (NV r)
def Hu (hc:X.calm=true):UF X (.type "list") (fun xs H Q=>∃(v d:Addr) (kvs:List (List Key×V)),xs=[.ref v]/\H v=some (Tu v d)/\H d=some (.dT kvs)/\∀l,H l=none->Q (.ref l) (upd H l (.lst (kvs.map (·.2))))):=by
 intro pins s σ H xs us Q I rv h;obtain⟨v,d,kvs,rfl,hv,hd,q⟩:=h;obtain⟨u,rfl,ru⟩:=rv.one;obtain rfl:u=Value.ref v:=ru;obtain⟨z,lo,xs,rel,dd⟩:=NS I.hok hd;obtain⟨o,es,ep,ho,hx,hdat,he,hk,hn⟩:=id dd;have view:s.heap.IsValuesView v d:=(I.hok v _ hv).1;have hl:xs.length=kvs.length:=by simpa using(NV rel).length.symm
 have vd:VDict s.heap d (xs.map fun x=>((),x.2.2)) ep:=by
  refine⟨o,es,ho,hx,hdat,trivial,⟨by rw[he,Yn,Yn],fun {i e k v} h1 h2=>⟨trivial,?_⟩⟩,trivial⟩;rw[he,Yz] at h1;rw[Yz] at h2;cases hi:xs[i]? with
  | none=>rw[hi] at h1;cases h1
  | some x=>
   rw[hi] at h1 h2;cases h1
   cases h2
   rfl
 refine PySem.W.kdl_call O5 (I.ok.hd hc) ⟨view,vd⟩ (by rw[Yn];omega) fun h' tk acc' c' hk hD hacc=>?_;refine⟨.ref s.heap.objs.size,upd H s.heap.objs.size (.lst (kvs.map (·.2))),?_,rfl,q _ (I.hok.fresh (Yx _))⟩;have ev:=PySem.W.kdl_vals_eq (kvs:=xs.map fun x=>((),x.2.2)) acc'.toList (by rw[Wb];exact hacc.1) fun j u hu=>hacc.2 j u (by rw[←hu,Ww]);refine I.laid (t':=tk) hk (Yx _) ⟨by rw[Yn];exact z,acc'.toList,c',?_,by simpa using hD⟩;rw[ev,Wh];exact NV rel
end
end Own
namespace Pu
open PySem PySem.Spec PyProof.Rows L2 Own M
section
variable {K:Za}{mg:Str->Option Value}{E:L2.St->XK}{H0 H H1 H':Hp}{B Z Z':Addr->Prop}{σ:L2.St}{γ:Γ}
def tupD:Option D->Option (List D)
 | some (.tup ds)=>some ds|_=>none
def Bj {o:Option D}{ds:List D} (h:tupD o=some ds):o=some (.tup ds):=by
 unfold tupD at h;split at h
 ·cases h;rfl
 ·cases h
def O0:S->S->(S->Prop)->Prop:=fun x y R=>∃ds es,tupD x.shd=some ds/\tupD y.shd=some es/\ds.length+es.length<=100000/\R (.sh (.tup (ds++es)))
def Io {ta tb:TE}{a b:PTE} (ha:SndE K mg E ta a) (hb:SndE K mg E tb b):SndE K mg E (tOp (EJ K) ta tb) (p2 a b O0):=by
 refine se_2 ha hb fun H0 H H2 Z x y v u R Q s0 s1 hm tx ty h q=>?_;obtain⟨ds,es,e1,e2,hz,h⟩:=h;have hm':∀b,Z b->Mut (H2 b):=fun b z=>XG s1 (hm b z);have r1:=tx.shd s0 hm s1 (Bj e1);have r2:=ty.shd s0 hm s1 (Bj e2);obtain⟨l,us,rfl,h1,k1⟩:=Rp.tup_inv r1;obtain⟨m,ws,rfl,h2,k2⟩:=Rp.tup_inv r2;refine⟨l,m,us,ws,rfl,rfl,SqT.of (off_sub _ _ h1),SqT.of (off_sub _ _ h2),by rw[k1.len,k2.len];exact Y7 hz (by decide),fun e=>?_,fun _ e=>?_,fun _ _ p np=>?_⟩
 ·subst e;cases k1
  exact q _ _ _ h (Same.refl _) r2
 ·subst e;cases k2
  refine q _ _ _ h (Same.refl _) ?_;rw[We];exact r1
 ·refine q _ _ _ h (UB np) (.tup (Uu Uj fun z=>?_) (Rps.mono (JM (UB np) fun _ _ _ z=>z) (k1.append k2)))
  have:=hm' p z
  rw[np] at this;exact this
def pIT (a:PTE):PTI:=fun γ R X=>a γ (fun s=>∃ds,tupD s.shd=some ds/\R ds.length fun i=>.sh (ds.getD i .non)) X
def TL {te:TE}{a:PTE} (ha:SndE K mg E te a):SndI K mg E (iTup K te) (pIT a):=by
 intro H0 B H σ γ R X Q env h q qx;refine ha H0 B H σ γ _ X _ env h (fun s v H1 h1 S1 t1=>?_) qx;have env1:=env.grow S1;obtain⟨ds,ed,h1⟩:=h1;have r1:=t1.shd env1.same env.zm S1 (Bj ed);obtain⟨l,vs,rfl,hl,k1⟩:=Rp.tup_inv r1;refine⟨l,rfl,⟨vs,SqT.of (off_sub _ _ hl)⟩,q _ _ _ H1 h1 S1 ⟨fun i H' Z' hi lt=>?_,fun H' Z' lt=>?_⟩⟩
 ·have hd:ds[i]?=some (ds.getD i .non):=by rw[Y1,Yo hi];rfl
  obtain⟨u,hu,tu⟩:=k1.get hd;have k:=off_sub _ _ (lt.off _ _ hl);refine⟨⟨vs,u,SqT.of k,hu⟩,fun x H'' y=>?_⟩;obtain⟨rfl,y⟩:=y
  have:=y vs (SqT.of k)
  rw[hu] at this;cases this
  exact⟨Same.refl _,Rp.mono lt.off tu⟩
 ·exact⟨vs,SqT.of (off_sub _ _ (lt.off _ _ hl)),by rw[k1.len];exact Yx _⟩
def PK:List (List Key×V)->Bool
 | []=>true
 | p::r=>TX p.2&&PK r
def Cm:∀{kvs:List (List Key×V)},PK kvs=true->Rps K H (kvs.map fun p=>vD p.2) (kvs.map (·.2))
 | [],_=>.nil
 | p::r,h=>by
  unfold PK at h;rw[Wm] at h;exact .cons (B6 h.1) (Cm h.2)
def Zcl:List V->Hp->VK->Prop:=fun xs H Q=>∃(v d:Addr) (kvs:List (List Key×V)),xs=[.ref v]/\H v=some (Tu v d)/\H d=some (.dT kvs)/\∀l,H l=none->Q (.ref l) (upd H l (.lst (kvs.map (·.2))))
def Rz (a:PTE):PTE:=fun γ R X=>a γ (fun s=>∃kvs,s.d=.dT kvs/\PK kvs=true/\R (.own (.lst (kvs.map fun p=>vD p.2)))) X
def Zek {te:TE}{a:PTE} (ha:SndE K mg E te a):SndE K mg E (tCB Zcl (UJ (tBM0 K "dict" NX te) tNil)) (Rz a):=by
 intro H0 B H σ γ R X Q env h q qx;refine ha H0 B H σ γ _ X _ env h (fun s v H1 h1 S1 t1=>?_) qx;obtain⟨kvs,e,hs,hR⟩:=h1;have env1:=env.grow S1;have rx:=t1.rp env1.same;rw[e] at rx;obtain⟨l,rfl,hl⟩:=rx.dT_inv;refine⟨.inr (.inr (.inl ⟨rfl,.inr ⟨kvs,hl⟩⟩)),l,kvs,rfl,rfl,hl,fun p np=>?_⟩;refine⟨p,l,kvs,rfl,Uj,by rw[JW (Xs hl np)];exact hl,fun m nm=>?_⟩;have S2:Same H1 (upd H1 p (Tu p l)):=UB np;exact q _ _ _ hR ((S1.trans S2).trans (UB nm)) ⟨m,rfl,(fun _ e=>e▸(S1.trans S2).free nm),_,Uj,Cm hs⟩
def Lw (a b:PTE):PTE:=fun γ R X=>a γ (fun y=>b γ (fun x=>∃ks u,P4 y.d=some ks/\TY x.d=some u/\R (.own (.dT [(ks,u)]))) X) X
def Mq {tk tv:TE}{a b:PTE} (ha:SndE K mg E tk a) (hb:SndE K mg E tv b):SndE K mg E (Ac tk tv) (Lw a b):=by
 intro H0 B H σ γ R X Q env h q qx;intro p np;have S0:Same H (upd H p (.dT [])):=UB np;have env0:=env.grow S0;refine ha H0 B _ σ γ _ X _ env0 h (fun y v H1 h1 S1 t1=>?_) fun c H' hc S'=>qx c H' hc (S0.trans S');have env1:=env0.grow S1;refine hb H0 B H1 σ γ _ X _ env1 h1 (fun x w H2 h2 S2 t2=>?_) fun c H' hc S'=>qx c H' hc ((S0.trans S1).trans S');have env2:=env1.grow S2;obtain⟨ks,u,k1,k2,k3⟩:=h2;have eu:=FK (t2.rp env2.same) k2;obtain⟨b',rfl,hb'⟩:=Nt (Rp.mono S2 (t1.rp env1.same)) k1;subst eu;refine⟨S2 _ _ (S1 _ _ Uj),b',ks,rfl,hb',q _ _ _ k3 (fun c o hc=>?_) ⟨p,rfl,(fun _ e=>e▸np),Uj⟩⟩
 have:c≠p:=fun e=>by subst e;rw[np] at hc;cases hc
 rw[JW this];exact S2 _ _ (S1 _ _ (S0 _ _ hc))
end
section
variable {X:Cx}{K:Za}
def PY {tg l:Expr}{tl:TE} (hl:PE X l tl) (hK:X.K=K:=by rfl):PI X tg l (iTup K tl):=by subst hK;exact Zbd hl
end
end Pu
namespace M
open PySem PySem.Spec PyProof.Rows L2 Own Pu
def tD (ms:List Int):D:=.tup (ms.map D.int)
def kT (ms:List Int):List Key:=ms.map Sum.inl
def Zc9 (ms:List Int):arg (tD ms)=.sh (tD ms):=by
 unfold arg tD imm;rw[Pi]
def PU {N:List Str}{ms:List Int}{ds:List D}:XE N (tD ms::ds)=some (.sh (tD ms))::(ds.map (fun d=>some (arg d))++List.replicate (N.length-(ds.length+1)) none):=by
 unfold XE;rw[YA,Zc9];rfl
def NC (ms:List Int):P4 (tD ms)=some (kT ms):=by
 show PJ (ms.map D.int)=some (ms.map Sum.inl)
 induction ms with
 | nil=>rfl
 | cons m r ih=>
  rw[YA,YA];unfold PJ;rw[ih];rfl
def Ms (ms:List Int):tupD (some (tD ms))=some (ms.map D.int):=rfl
def JO (ms:List Int) (h:Int):List Int:=ms.filter fun m=>decide (m≠h)
def Kc (ws:List (Int×Int)) (ms:List Int) (h:Int):Bool:=!(ws.any fun q=>decide (q.1=h)&&decide (q.2∈ms))
def firstM (ws:List (Int×Int)) (ms:List Int) (h:Int):Bool:=!(ws.any fun q=>decide (q.2=h)&&decide (q.1∈ms))
def JX (hs:List Int):List (List Int):=hs.foldl (fun S h=>S++S.map (·++[h])) [[]]
def KH (hs:List Int) (h:Int):JX (hs++[h])=JX hs++(JX hs).map (·++[h]):=by
 unfold JX;rw[List.foldl_append];rfl
def PL {P:List Int->Prop} (h0:P []) (h1:∀r h,P r->P (r++[h])) (l:List Int):P l:=by
 have key:∀r:List Int,P r.reverse:=fun r=>by
  induction r with
  | nil=>exact h0
  | cons a r ih=>rw[List.reverse_cons];exact h1 _ _ ih
 rw[←List.reverse_reverse l];exact key _
def FT (hs:List Int):(JX hs).length=2 ^ hs.length:=by
 refine PL (P:=fun hs=>(JX hs).length=2 ^ hs.length) rfl (fun r h ih=>?_) hs;rw[KH,Yy,Yn,ih,Yy,YZ,Nat.pow_succ];omega
def Ts (hs:List Int):∀ms∈JX hs,ms.Sublist hs:=by
 refine PL (P:=fun hs=>∀ms∈JX hs,ms.Sublist hs) (fun ms h=>?_) (fun r h ih ms hm=>?_) hs
 ·have:ms=[]:=by simpa [JX] using h
  subst this;exact .slnil
 ·rw[KH,YJ] at hm;rcases hm with hm|hm
  ·exact(ih _ hm).trans (List.sublist_append_left _ _)
  ·obtain⟨n,hn,rfl⟩:=YT.mp hm;exact(ih _ hn).append (List.Sublist.refl _)
def oc (c:Int->Int->Int):List Int->Int
 | []=>0
 | a::r=>(r.map (c a)).sum+oc c r
def Keeps (ws:List (Int×Int)) (o:List Int):Prop:=o.Pairwise fun a b=>(b,a)∉ws
structure Least (ws:List (Int×Int)) (c:Int->Int->Int) (ms:List Int) (v:Int):Prop where
 is:∃o:List Int,o.Perm ms/\Keeps ws o/\oc c o=v
 le:∀o:List Int,o.Perm ms->Keeps ws o->v<=oc c o
def Least.uniq {ws:List (Int×Int)}{c:Int->Int->Int}{ms:List Int}{v u:Int} (h:Least ws c ms v) (k:Least ws c ms u):v=u:=by
 obtain⟨o,o1,o2,o3⟩:=h.is;obtain⟨p,p1,p2,p3⟩:=k.is
 have:=h.le p p1 p2
 have:=k.le o o1 o2
 omega
def N8 (c:Int->Int->Int) (l:Int):∀o:List Int,oc c (o++[l])=oc c o+(o.map (c · l)).sum
 | []=>by simp[oc]
 | a::r=>by
  rw[WC];unfold oc;rw[N8 c l r];simp only[YD,YA,Vn,List.sum_append,WT,List.sum_nil];omega
def PD {f:Int->Int}{xs ys:List Int} (h:xs.Perm ys):(xs.map f).sum=(ys.map f).sum:=by
 induction h with
 | nil=>rfl
 | cons x _ ih=>rw[YA,YA,WT,WT,ih]
 | swap x y l=>
  simp only[YA,WT];omega
 | trans _ _ i1 i2=>exact i1.trans i2
def Kk {ms:List Int}{h:Int} (nd:ms.Nodup) (hm:h∈ms):ms.Perm (h::JO ms h):=by
 have e:JO ms h=ms.erase h:=by
  unfold JO;rw[nd.erase_eq_filter];congr 1;funext m;by_cases z:m=h<;>simp[z,bne]
 rw[e];exact List.perm_cons_erase hm
def less_sub {ms:List Int}{h:Int}:(JO ms h).Sublist ms:=Va
def lastM_iff {ws:List (Int×Int)}{ms:List Int}{h:Int}:Kc ws ms h=true↔∀b∈ms,(h,b)∉ws:=by
 unfold Kc;rw[Vk,Vh];constructor
 ·intro k b hb hw;exact k _ hw (by simp[hb])
 ·intro k q hq z;simp only[Wm,Qr] at z;obtain⟨z1,z2⟩:=z;subst z1;exact k q.2 z2 hq
def firstM_iff {ws:List (Int×Int)}{ms:List Int}{h:Int}:firstM ws ms h=true↔∀b∈ms,(b,h)∉ws:=by
 unfold firstM;rw[Vk,Vh];constructor
 ·intro k b hb hw;exact k _ hw (by simp[hb])
 ·intro k q hq z;simp only[Wm,Qr] at z;obtain⟨z1,z2⟩:=z;subst z1;exact k q.1 z2 hq
def Zby {ws:List (Int×Int)}{c:Int->Int->Int}{ms:List Int}{vs:Int->Int}{M:Int} (nd:ms.Nodup) (hw:∀q∈ws,q.1≠q.2) (hv:∀l∈ms,Least ws c (JO ms l) (vs l))
  (h1:∃l∈ms,Kc ws ms l=true/\M=vs l+((JO ms l).map (c · l)).sum) (h2:∀l∈ms,Kc ws ms l=true->M<=vs l+((JO ms l).map (c · l)).sum):Least ws c ms M:=by
 constructor
 ·obtain⟨l,hl,hlast,e⟩:=h1;obtain⟨o,o1,o2,o3⟩:=(hv l hl).is;refine⟨o++[l],?_,?_,?_⟩
  ·exact(List.perm_append_singleton l o).trans (((List.Perm.cons l o1)).trans (Kk nd hl).symm)
  ·refine QV.mpr ⟨o2,List.pairwise_singleton _ _,fun a ha b hb=>?_⟩;rw[Y0.mp hb];exact lastM_iff.mp hlast a (less_sub.subset (o1.mem_iff.mp ha))
  ·rw[N8,o3,e,PD o1]
 ·intro o o1 o2;rcases Wo o with rfl|⟨p,l,rfl⟩
  ·obtain⟨l,hl,_⟩:=h1;rw[o1.nil_eq.symm] at hl;cases hl
  ·rw[W3] at o1 o2 ⊢;have hl:l∈ms:=o1.mem_iff.mp (by simp);obtain⟨k1,_,k2⟩:=QV.mp o2
   have pp:p.Perm (JO ms l):=by
    have:=((List.perm_append_singleton l p).symm.trans o1).trans (Kk nd hl)
    exact this.cons_inv
   have hlast:Kc ws ms l=true:=lastM_iff.mpr fun b hb=>by
    rcases Y5.mp ((Kk nd hl).mem_iff.mp hb) with e|hb'
    ·subst e;exact fun z=>hw _ z rfl
    ·exact k2 b (pp.mem_iff.mpr hb') l (Y0.mpr rfl)
   have a1:=h2 l hl hlast;have a2:=(hv l hl).le p pp k1;rw[N8,PD pp];omega
def DY (a b:List Int) (l:Int):JO (a++b) l=JO a l++JO b l:=List.filter_append ..
def FZ {a:List Int}{l:Int} (h:l∉a):JO a l=a:=List.filter_eq_self.mpr fun m hm=>Ys fun e=>h (e▸hm)
def MD (hs:List Int):∃T,JX hs=[]::T:=by
 refine PL (P:=fun hs=>∃T,JX hs=[]::T) ⟨[],rfl⟩ (fun r h ⟨T,e⟩=>?_) hs;rw[KH,e];exact⟨_,rfl⟩
def FQ (hs:List Int):(JX hs).getLast?=some hs:=by
 refine PL (P:=fun hs=>(JX hs).getLast?=some hs) rfl (fun r h e=>?_) hs;rw[KH,List.getLast?_append,List.getLast?_map,e];rfl
def Da {hs:List Int}:hs.Nodup->(JX hs).Nodup:=by
 refine PL (P:=fun hs=>hs.Nodup->(JX hs).Nodup) (fun _=>by simp[JX]) (fun r h ih nd=>?_) hs;obtain⟨n1,_,n2⟩:=W8.mp nd;rw[KH];refine W8.mpr ⟨ih n1,?_,fun a ha b hb e=>?_⟩
 ·exact List.Pairwise.map _ (fun a b hne e=>hne (List.append_cancel_right e)) (ih n1)
 ·obtain⟨c,hc,rfl⟩:=YT.mp hb;subst e;exact n2 h ((Ts r _ ha).subset (by simp)) h (by simp) rfl
def CN {hs:List Int}:hs.Nodup->∀(k:Nat) (ms:List Int),(JX hs)[k]?=some ms->∀l∈ms,∃j:Nat,j<k/\(JX hs)[j]?=some (JO ms l):=by
 refine PL (P:=fun hs=>hs.Nodup->∀(k:Nat) (ms:List Int),(JX hs)[k]?=some ms->∀l∈ms,∃j:Nat,j<k/\(JX hs)[j]?=some (JO ms l)) (fun _ k ms e l hl=>?_) (fun r h ih nd k ms e l hl=>?_) hs
 ·have:ms=[]:=by
   have:=YE e
   simpa [JX] using this
  subst this;cases hl
 ·obtain⟨n1,_,n2⟩:=W8.mp nd;rw[KH] at e ⊢;by_cases hk:k<(JX r).length
  ·rw[YQ hk] at e;obtain⟨j,hj,ej⟩:=ih n1 k ms e l hl;exact⟨j,hj,by rw[YQ (by omega)];exact ej⟩
  ·rw[YN (by omega),Yz] at e;cases q:(JX r)[k-(JX r).length]? with
   | none=>rw[q] at e;cases e
   | some n=>
    rw[q] at e;cases e
    have hh:h∉n:=fun z=>n2 h ((Ts r n (YE q)).subset z) h (by simp) rfl;by_cases el:l=h
    ·subst el
     have e1:JO (n++[l]) l=n:=by
      rw[DY,FZ hh];simp[JO]
     obtain⟨j,hj,ej⟩:=W6.mp (YE q);refine⟨j,by omega,?_⟩;rw[YQ hj,e1,Yo hj,ej]
    ·have hln:l∈n:=by
      rcases YJ.mp hl with z|z
      ·exact z
      ·exact absurd (Y0.mp z) el
     have e1:JO (n++[h]) l=JO n l++[h]:=by
      rw[DY];congr 1;exact FZ fun z=>el (Y0.mp z)
     obtain⟨j,hj,ej⟩:=ih n1 _ n q l hln;refine⟨(JX r).length+j,by omega,?_⟩;rw[YN (by omega),Yz,Nat.add_sub_cancel_left,ej,e1];rfl
def NR {a b:List Int} (h:kT a=kT b):a=b:=List.map_inj_right (fun _ _=>Sum.inl.inj) |>.mp h
def AH (hs:List Int) (ws:List (Int×Int)):Prop:=∀ms:List Int,ms.Sublist hs->ms≠[]->∃l∈ms,∀b∈ms,(l,b)∉ws
structure Tab (ws:List (Int×Int)) (c:Int->Int->Int) (S:List (List Int)) (kvs:List (List Key×V)):Prop where
 keys:kvs.map (·.1)=S.map kT
 val:∀ms∈S,∃v,valV kvs (kT ms)=some (.int v)/\Least ws c ms v
def MM (ws:List (Int×Int)) (c:Int->Int->Int):Tab ws c [[]] [([],.int 0)]:=by
 refine⟨rfl,fun ms hm=>?_⟩;rw[Y0.mp hm];refine⟨0,rfl,⟨[],.refl _,.nil,rfl⟩,fun o ho _=>?_⟩;rw[ho.eq_nil];exact Int.le_refl _
def Tab.put {ws:List (Int×Int)}{c:Int->Int->Int}{S:List (List Int)}{kvs:List (List Key×V)}{ms:List Int}{v:Int} (T:Tab ws c S kvs) (hn:ms∉S) (L:Least ws c ms v):Tab ws c (S++[ms]) (putK kvs (kT ms) (.int v)):=by
 have no:valV kvs (kT ms)=none:=by
  cases e:valV kvs (kT ms) with
  | none=>rfl
  | some u=>
   unfold valV at e;cases q:kvs.find? (fun kv=>decide (kv.1=kT ms)) with
   | none=>rw[q] at e;cases e
   | some x=>
    have h1:=List.mem_of_find?_eq_some q;have h2:=List.find?_some q;have h3:x.1∈kvs.map (·.1):=YT.mpr ⟨x,h1,rfl⟩;rw[T.keys,Yv h2] at h3;obtain⟨n,hn',e'⟩:=YT.mp h3;rw[NR e'] at hn';exact absurd hn' hn
 constructor
 ·rw[Zc4 _ no,YD,YD,T.keys];rfl
 ·intro n hn';rw[N1];by_cases e:n=ms
  ·subst e;exact⟨v,Yr rfl,L⟩
  ·rw[Yq fun z=>e (NR z)];rcases YJ.mp hn' with z|z
   ·exact T.val n z
   ·exact absurd (Y0.mp z) e
open Classical in
def CB {ms:List Int}{P:Int->Int->Prop} (h:∀l∈ms,∃v,P l v):∃f:Int->Int,∀l∈ms,P l (f l):=
 ⟨fun l=>if hl:l∈ms then Classical.choose (h l hl) else 0,fun l hl=>by
  simp only[dif_pos hl];exact Classical.choose_spec (h l hl)⟩
def IA {ls:List Int}{ws:List (Int×Int)}{r:List Int} (R:Ring ls (ws.map fun q=>(q.2,q.1)) r):Ring ls ws r.reverse:=by
 have sw:∀{x y:Int},(x,y)∈(ws.map fun q=>(q.2,q.1))->(y,x)∈ws:=fun h=>by
  obtain⟨q,hq,e⟩:=YT.mp h;cases e
  exact hq
 refine⟨by rw[Vb];exact R.two,List.pairwise_reverse.mpr (R.nodup.imp fun h=>Ne.symm h),fun x hx=>R.sub x (List.mem_reverse.mp hx),fun i x y h1 h2=>?_,fun x y h1 h2=>?_⟩
 ·have hi:i+1<r.length:=by
   have:=(YG.mp h2).1
   rw[Vb] at this;exact this
  rw[QN (by omega)] at h1 h2;exact sw (R.chain (r.length-1-(i+1)) y x h2 (by rw[←h1];congr 1;omega))
 ·have two:=R.two;rw[QN (by omega)] at h1;rw[Vb,QN (by omega)] at h2;exact sw (R.last y x (by rw[←h2];congr 1;omega) (by rw[←h1];congr 1))
def Di {hs:List Int}{ws:List (Int×Int)} (hu:∀q∈ws,q.1≠q.2) (h:¬ ∃r,Ring hs ws r):AH hs ws:=fun ms hm hne=>by
 refine YV fun z=>h ?_
 have h1:∀x∈ms,∃y∈ms,(y,x)∈(ws.map fun q=>(q.2,q.1)):=fun x hx=>by
  refine YV fun k=>z ⟨x,hx,fun b hb hw=>k ⟨b,hb,YT.mpr ⟨_,hw,rfl⟩⟩⟩
 obtain⟨r,R⟩:=AL (ws:=ws.map fun q=>(q.2,q.1)) (fun q hq=>by
  obtain⟨p,hp,e⟩:=YT.mp hq;subst e;exact fun e=>hu p hp e.symm) hne h1
 have F:=IA R;exact⟨_,F.two,F.nodup,fun x hx=>hm.subset (F.sub x hx),F.chain,F.last⟩
def Cs:∀{kvs:List (List Key×V)},(kvs.map (·.1)).Nodup->∀p∈kvs,valV kvs p.1=some p.2
 | [],_,p,h=>by cases h
 | q::r,nd,p,h=>by
  rw[YA,YX] at nd;rcases Y5.mp h with e|h
  ·rw[e];exact Xz rfl
  ·rw[Xy fun e=>nd.1 (YT.mpr ⟨p,h,e.symm⟩)];exact Cs nd.2 p h
def TabV (ws:List (Int×Int)) (c:Int->Int->Int) (S:List (List Int)) (vs:List Int):Prop:=vs.length=S.length/\∀(i:Nat) (ms:List Int) (v:Int),S[i]?=some ms->vs[i]?=some v->Least ws c ms v
def Tab.vals {ws:List (Int×Int)}{c:Int->Int->Int}{S:List (List Int)}{kvs:List (List Key×V)} (T:Tab ws c S kvs) (nd:S.Nodup):∃vs:List Int,kvs.map (·.2)=vs.map V.int/\TabV ws c S vs:=by
 have nk:(kvs.map (·.1)).Nodup:=by
  rw[T.keys];exact List.Pairwise.map _ (fun a b hne e=>hne (NR e)) nd
 have hk:∀p∈kvs,∃ms∈S,p.1=kT ms/\∃v,p.2=.int v/\Least ws c ms v:=fun p hp=>by
  have h1:p.1∈kvs.map (·.1):=YT.mpr ⟨p,hp,rfl⟩;rw[T.keys] at h1;obtain⟨ms,hm,e⟩:=YT.mp h1;obtain⟨v,h2,h3⟩:=T.val ms hm;rw[e,Cs nk p hp] at h2;exact⟨ms,hm,e.symm,v,Y2 h2,h3⟩
 have hl:kvs.length=S.length:=by
  have:=YS List.length T.keys
  rw[Yn,Yn] at this;exact this
 refine⟨kvs.map fun p=>match p.2 with | .int v=>v|_=>0,?_,by rw[Yn,hl],fun i ms v h1 h2=>?_⟩
 ·rw[Wh];refine List.map_congr_left fun p hp=>?_;obtain⟨ms,_,_,v,e,_⟩:=hk p hp;show p.2=V.int (match p.2 with | .int v=>v|_=>0)
  rw[e]
 ·rw[Yz] at h2;cases q:kvs[i]? with
  | none=>rw[q] at h2;cases h2
  | some p=>
   rw[q] at h2;obtain⟨ms',hm',e1,u,e2,L⟩:=hk p (YE q);have h3:(kvs.map (·.1))[i]?=some p.1:=by rw[Yz,q];rfl
   rw[T.keys,Yz,h1] at h3;have e3:ms=ms':=NR ((Y2 h3).trans e1);subst e3
   have e4:u=v:=by
    have:=Y2 h2
    simp only[e2] at this;exact this
   rw[←e4];exact L
def Au:∀{kvs:List (List Key×V)}{vs:List Int},kvs.map (·.2)=vs.map V.int->PK kvs=true/\kvs.map (fun p=>vD p.2)=vs.map D.int
 | [],[],_=>⟨rfl,rfl⟩
 | p::r,v::vs,h=>by
  rw[YA,YA,Qm] at h;obtain⟨h1,h2⟩:=Au h.2;unfold PK;rw[h1,YA,YA,h2,h.1];exact⟨rfl,rfl⟩
structure Best (ws:List (Int×Int)) (c:Int->Int->Int) (ms o:List Int):Prop where
 perm:o.Perm ms
 keeps:Keeps ws o
 le:∀p:List Int,p.Perm ms->Keeps ws p->oc c o<=oc c p
 first:∀p:List Int,p.Perm ms->Keeps ws p->oc c p=oc c o->o=p\/sl o p
def MT (ws:List (Int×Int)) (c:Int->Int->Int):Best ws c [] []:=by
 refine⟨.refl _,.nil,fun p hp _=>?_,fun p hp _ _=>.inl hp.eq_nil.symm⟩;rw[hp.eq_nil];exact Int.le_refl _
def DE {ws:List (Int×Int)}{c:Int->Int->Int}{ms:List Int}{vs:Int->Int}{V g:Int}{p:List Int} (nd:ms.Nodup) (hu:∀q∈ws,q.1≠q.2) (hv:∀l∈ms,Least ws c (JO ms l) (vs l)) (hV:Least ws c ms V)
  (hp:(g::p).Perm ms) (hk:Keeps ws (g::p)) (e:oc c (g::p)=V):g∈ms/\firstM ws ms g=true/\vs g+((JO ms g).map (c g)).sum=V/\p.Perm (JO ms g)/\oc c p=vs g:=by
 have hg:g∈ms:=hp.mem_iff.mp (YK ..);have pp:p.Perm (JO ms g):=(hp.trans (Kk nd hg)).cons_inv;obtain⟨k1,k2⟩:=WN.mp hk
 have hf:firstM ws ms g=true:=firstM_iff.mpr fun b hb=>by
  rcases Y5.mp ((Kk nd hg).mem_iff.mp hb) with e|hb'
  ·subst e;exact fun z=>hu _ z rfl
  ·exact k1 b (pp.mem_iff.mpr hb')
 have a1:=(hv g hg).le p pp k2;obtain⟨o,o1,o2,o3⟩:=(hv g hg).is;have a2:=hV.le (g::o) ((List.Perm.cons g o1).trans (Kk nd hg).symm) (WN.mpr ⟨fun b hb=>firstM_iff.mp hf b (less_sub.subset (o1.mem_iff.mp hb)),o2⟩);have e1:oc c (g::p)=(p.map (c g)).sum+oc c p:=rfl;have e2:oc c (g::o)=(o.map (c g)).sum+oc c o:=rfl;have s1:=PD (f:=c g) pp;have s2:=PD (f:=c g) o1;exact⟨hg,hf,by omega,pp,by omega⟩
def HN {ws:List (Int×Int)}{c:Int->Int->Int}{ms o:List Int}{vs:Int->Int}{V f:Int} (nd:ms.Nodup) (hu:∀q∈ws,q.1≠q.2) (hv:∀l∈ms,Least ws c (JO ms l) (vs l)) (hV:Least ws c ms V)
  (hf:f∈ms) (h1:firstM ws ms f=true) (h2:vs f+((JO ms f).map (c f)).sum=V) (h3:∀g∈ms,firstM ws ms g=true->vs g+((JO ms g).map (c g)).sum=V->f<=g) (B:Best ws c (JO ms f) o):Best ws c ms (f::o):=by
 have eo:oc c o=vs f:=by
  obtain⟨p,p1,p2,p3⟩:=(hv f hf).is
  have:=(hv f hf).le o B.perm B.keeps
  have:=B.le p p1 p2
  omega
 have es:=PD (f:=c f) B.perm
 have e:oc c (f::o)=V:=by
  show(o.map (c f)).sum+oc c o=V;omega
 refine⟨(List.Perm.cons f B.perm).trans (Kk nd hf).symm,WN.mpr ⟨fun b hb=>firstM_iff.mp h1 b (less_sub.subset (B.perm.mem_iff.mp hb)),B.keeps⟩,fun p p1 p2=>?_,fun p p1 p2 p3=>?_⟩
 ·rw[e];exact hV.le p p1 p2
 ·cases p with
  | nil=>rw[p1.nil_eq.symm] at hf;cases hf
  | cons g p=>
   obtain⟨q1,q2,q3,q4,q5⟩:=DE nd hu hv hV p1 p2 (p3.trans e);have hle:=h3 g q1 q2 q3;by_cases eg:f=g
   ·subst eg;rcases B.first p q4 (WN.mp p2).2 (q5.trans eo.symm) with z|z
    ·exact .inl (by rw[z])
    ·exact .inr (sl_cons.mpr z)
   ·exact .inr (.inl (by omega))
end M
namespace Pu
open PySem PySem.Spec PyProof.Rows L2 Own
section
variable {K:Za}{mg:Str->Option Value}{E:L2.St->XK}{H0 H H1 H':Hp}{B Z Z':Addr->Prop}{σ:L2.St}{γ:Γ}
def O.from:O->O->Prop
 | .ins x _ _ cs,.ins x' _ _ cs'=>x'=x/\∀c∈cs,∃c'∈cs',c'.1=c.1
 | .lsA x _,.lsA x' _=>x'=x
 | _,_=>False
def O.from_adr {o o':O}{a:Addr} (h:o.from o'):∀b,o.adr a b->o'.adr a b:=by
 unfold O.from at h
 split at h
 ·intro b hb;rcases hb with hb|⟨c,hc,hb⟩
  ·exact .inl (hb.trans h.1.symm)
  ·obtain⟨c',q1,q2⟩:=h.2 c hc;exact .inr ⟨c',q1,hb.trans q2.symm⟩
 ·intro b hb;exact(show b=_ from hb).trans h.symm
 ·exact h.elim
def O.from_at {o o':O}{a a':Addr}{F F' H H':Hp} (h:o.from o') (h1:OR K F H a o) (h2:OR K F' H' a' o'):a'=a:=by
 unfold O.from at h
 split at h
 ·exact h2.1.trans (h.1.trans h1.1.symm)
 ·exact h2.1.trans (h.trans h1.1.symm)
 ·exact h.elim
abbrev Pw:=O->List S->(O->D->Prop)->(O->Str->Prop)->Prop
def S.pass:S->Option S
 | .sh d=>some (.sh d) | .own o=>some (.sh o.d)
 | .bor d=>match imm d with|true=>some (.sh d)|false=>some (.bor d)
 | .tmp d=>match imm d with|true=>some (.sh d)|false=>none
 | .view _=>none
def S.flat:S->Prop
 | .sh _=>True | .bor _=>True|_=>False
def passes:List S->Option (List S)
 | []=>some []
 | s::r=>match s.pass,passes r with|some s',some r'=>some (s'::r')|_,_=>none
structure After (K:Za) (B:Addr->Prop) (H:Hp) (a:Addr) (o o':O) (H':Hp):Prop where
 same:Same (off (o.adr a) H) H'
 old:∀b,o.adr a b->o'.adr a b
 new:∀b,o'.adr a b->o.adr a b\/H b=none
 at_:OR K (off (fun b=>B b\/o'.adr a b) H') H' a o'
def spW (mg:Str->Option Value) (c:Pw) (K:Za):Sp:=fun vs H Q E=>∃(o:O) (a:Addr) (ss:List S) (us:List V) (B:Addr->Prop) (R:O->D->Prop) (X:O->Str->Prop),
 vs=.ref a::us/\(∀b,B b->Mut (H b)/\¬o.adr a b)/\OR K (off (fun b=>B b\/o.adr a b) H) H a o/\TVs K (fun b=>B b\/o.adr a b) (off (o.adr a) H) H H ss us/\(∀s∈ss,s.flat)/\c o ss R X/\
 (∀o' d v H',R o' d->After K B H a o o' H'->Rp K (off (fun b=>B b\/o'.adr a b) H') d v->Q v H')/\∀o' e H',X o' e->After K B H a o o' H'->E (.ref (ExcR.J3 mg e)) none H'
def TVs.get:∀{ss:List S}{vs:List V}{i:Nat}{s:S},TVs K Z H0 H H' ss vs->ss[i]?=some s->∃v,vs[i]?=some v/\TV K Z H0 H H' s v
 | _,_,_,_,.nil,e=>by simp at e
 | _,_,0,_,.cons h _,e=>by simp at e;subst e;exact⟨_,rfl,h⟩
 | _,_,i+1,s,.cons _ r,e=>by
  obtain⟨v,h1,h2⟩:=TVs.get (i:=i) (s:=s) r (by simpa using e);exact⟨v,by simpa using h1,h2⟩
def Kt (N:List Str) (o:O) (ss:List S):Γ:=some (.own o)::(ss.map some++List.replicate (N.length-(ss.length+1)) none)
def L7 {N:List Str}{o:O}{a:Addr}{ss:List S}{us:List V} (hB:∀b,B b->Mut (H b)/\¬o.adr a b) (ho:OR K (off (fun b=>B b\/o.adr a b) H) H a o) (r:TVs K (fun b=>B b\/o.adr a b) (off (o.adr a) H) H H ss us) (hf:∀s∈ss,s.flat) (hn:ss.length+1<=N.length) :
  EnvR K (off (o.adr a) H) B H (start N (.ref a::us)) (Kt N o ss):=by
 have hlen:=r.len
 have get:∀(i:Nat) (s:S),(Kt N o ss)[i+1]?=some (some s)->ss[i]?=some s:=fun i s h=>by
  unfold Kt at h;rw[Wd] at h;by_cases hi:i<ss.length
  ·rw[YQ (by rw[Yn];exact hi),Yz,Yo hi] at h;rw[Yo hi];exact YS some (Y2 (Y2 h))
  ·rw[YN (by rw[Yn];omega),WK] at h;split at h<;>cases h
 have noown:∀(i:Nat) (es:O),(Kt N o ss)[i+1]?≠some (some (.own es)):=fun i es h=>hf _ (YE (get i _ h))
 have st0:(start N (V.ref a::us))[0]?=some (some (.ref a)):=by
  unfold L2.start;rfl
 have hz:∀b,zof B (Kt N o ss) (start N (V.ref a::us)) b->B b\/o.adr a b:=fun b z=>by
  rcases z with z|⟨i,es,a',h1,h2,h3⟩
  ·exact .inl z
  ·cases i with
   | zero=>
    rw[st0] at h2;cases h2
    have:o=es:=by
     have h1:some (some (S.own o))=some (some (S.own es)):=h1;cases h1
     rfl
    subst this;exact .inr h3
   | succ i=>exact absurd h1 (noown i es)
 refine⟨off_sub,?_,fun b h=>(hB b h).1,fun i j x x' es es' b h1 h2 _ _ _ _=>?_,fun i s h=>?_⟩
 ·unfold L2.start Kt;simp[hlen]
 ·cases i with
  | succ i=>exact absurd h1 (noown i es)
  | zero=>
   cases j with
   | zero=>rfl
   | succ j=>exact absurd h2 (noown j es')
 ·cases i with
  | zero=>
   have h:some (some (S.own o))=some (some s):=h;cases h
   refine⟨_,st0,a,rfl,fun b hb=>?_,ho.mono (JM (Same.refl _) fun b _ _ z y=>z (hz b y)) fun _ _ _ q=>q⟩;unfold off;rw[Yr hb]
  | succ i=>
   have hs:=get i s h;obtain⟨v,hv,tv⟩:=r.get hs;refine⟨v,?_,?_⟩
   ·unfold L2.start;rw[YQ (by rw[Yn,YC];have:=(YG.mp hv).1;omega),Yz,Wd,hv];rfl
   ·have:=hf s (YE hs)
    cases s with
    | bor d=>exact tv
    | sh d=>exact Rp.mono (JM (Same.refl _) fun b _ _ z y=>z (hz b y)) tv
    | own _=>exact this.elim
    | view _=>exact this.elim
    | tmp _=>exact this.elim
def finW (o:O) (R:O->D->Prop) (γ:Γ) (d:D):Prop:=∃o',γ[0]?=some (some (.own o'))/\o.from o'/\R o' d
def finX (o:O) (X:O->Str->Prop) (γ:Γ) (e:Str):Prop:=∃o',γ[0]?=some (some (.own o'))/\o.from o'/\X o' e
def DU (o:O) (R:O->D->Prop) (X:O->Str->Prop):PEnds:={ nx:=fun γ=>finW o R γ .non,rt:=fun _=>False,ex:=finX o X,rv:=finW o R }
def Bt {a:Addr}{o o':O}{σ':L2.St}{γ':Γ} (ho:OR K (off (fun b=>B b\/o.adr a b) H) H a o) (e:EnvR K (off (o.adr a) H) B H' σ' γ') (h:γ'[0]?=some (some (.own o'))) (k:o.from o'):After K B H a o o' H'/\∀b,B b\/o'.adr a b->zof B γ' σ' b:=by
 obtain⟨v,h1,a',rfl,h2,h3⟩:=e.slot 0 _ h;have ea:=O.from_at k ho h3;subst ea;have hz:∀b,B b\/o'.adr a' b->zof B γ' σ' b:=fun b z=>z.imp id fun z=>⟨0,o',a',h,h1,z⟩;refine⟨⟨e.same,O.from_adr k,fun b hb=>?_,h3.mono (JM (Same.refl _) fun b _ _ z y=>z (hz b y)) fun _ _ _ q=>q⟩,hz⟩
 have:=h2 b hb
 unfold off at this;by_cases q:o.adr a' b
 ·exact .inl q
 ·rw[Yq q] at this;exact .inr this
def LU {c:Pw}{N:List Str}{t:TS}{p:PTS}{vs:List V}{Q:VK}{Ec:XK}{n:Nat} (h:spW mg c K vs H Q Ec) (snd:SndS K mg (fun _=>Ec) t p) (hn:n+1<=N.length)
  (hp:∀o ss R X,c o ss R X->ss.length=n/\p (DU o R X) (Kt N o ss)):t { nx:=fun _ H'=>Q .non H',rt:=Q } (start N vs) H:=by
 obtain⟨o,a,ss,us,B,R,X,rfl,hB,ho,r,hf,hc,hQ,hX⟩:=h;obtain⟨e,hp⟩:=hp o ss R X hc;have env:=L7 (N:=N) hB ho r hf (by rw[e];exact hn);refine snd _ B H _ _ _ _ (fun b z=>?_) env hp ⟨fun σ' γ' H' h1 e1 f1=>?_,fun _ _ _ z=>z.elim,fun σ' γ' c H' h1 e1 f1=>?_,fun _ _ _ z=>z.elim,fun _ _ _ z=>z.elim,fun σ' γ' d v H' h1 e1 f1 rd=>?_⟩
 ·obtain⟨q1,q2⟩:=hB b z;obtain⟨x,hx⟩:=Km q1;exact⟨x,Uu hx q2⟩
 ·obtain⟨o',q1,q2,q3⟩:=h1;exact hQ o' .non .non H' q3 (Bt ho e1 q1 q2).1 .non
 ·obtain⟨o',q1,q2,q3⟩:=h1;exact hX o' c H' q3 (Bt ho e1 q1 q2).1
 ·obtain⟨o',q1,q2,q3⟩:=h1;obtain⟨k1,k2⟩:=Bt ho e1 q1 q2;exact hQ o' d v H' q3 k1 (Rp.mono (JM (Same.refl _) fun b _ _ z y=>z (k2 b y)) rd)
def IZ {c:Pw}{vs:List V}{Q:VK}{Ec:XK}{n:Nat} (h:spW mg c K vs H Q Ec) (hn:∀o ss R X,c o ss R X->ss.length=n):vs.length=n+1:=by
 obtain⟨o,a,ss,us,B,R,X,rfl,_,_,r,_,hc,_⟩:=h;rw[YC,r.len,hn o ss R X hc]
abbrev PTW:=Γ->(Γ->D->Prop)->(Γ->Str->Prop)->Prop
def SndW (K:Za) (mg:Str->Option Value) (E:L2.St->XK) (t:TE) (p:PTW):Prop:=∀(H0:Hp) (B:Addr->Prop) (H:Hp) (σ:L2.St) (γ:Γ) (R:Γ->D->Prop) (X:Γ->Str->Prop) (Q:VK),(∀b,B b->∃o,H0 b=some o)->EnvR K H0 B H σ γ->p γ R X->
 (∀γ' d v H',R γ' d->EnvR K H0 B H' σ γ'->Fr B H σ γ H' σ γ'->Rp K (off (zof B γ' σ) H') d v->Q v H')->(∀γ' c H',X γ' c->EnvR K H0 B H' σ γ'->Fr B H σ γ H' σ γ'->E σ (.ref (ExcR.J3 mg c)) none H')->t σ H Q
variable {te:TE}{w:PTW}
def HX (w:PTW) (g:PTG):PTS:=fun R γ=>w γ (fun γ' d=>g (.sh d) γ' R.nx) R.ex
def Zb8 {is:List Nat}{g:TG}{pg:PTG} (hw:SndW K mg E te w) (hg:KQ K is g pg):SndS K mg E (tAsg te g) (HX w pg):=by
 intro H0 B H σ γ R D hB env h e;refine hw H0 B H σ γ _ _ _ hB env h (fun γ' d v H1 h1 e1 f1 rd=>?_) fun γ' c H' hc e' f'=>e.ex σ γ' c H' hc e' f';exact hg H0 B H1 H1 σ γ' (.sh d) v _ _ e1 (Same.refl _) rd h1 fun σ2 γ2 h2 e2 f2 _=>e.nx σ2 γ2 H1 h2 e2 (f1.trans f2)
def Hg (w:PTW):PTS:=fun R γ=>w γ (fun γ' _=>R.nx γ') R.ex
def Pg (hw:SndW K mg E te w):SndS K mg E (Nv te) (Hg w):=by
 intro H0 B H σ γ R D hB env h e;exact hw H0 B H σ γ _ _ _ hB env h (fun γ' d v H1 h1 e1 f1 _=>e.nx σ γ' H1 h1 e1 f1) fun γ' c H' hc e' f'=>e.ex σ γ' c H' hc e' f'
def Zc5 (w:PTW):PTS:=fun R γ=>w γ R.rv R.ex
def XI (hw:SndW K mg E te w):SndS K mg E (tRet te) (Zc5 w):=by
 intro H0 B H σ γ R D hB env h e;exact hw H0 B H σ γ _ _ _ hB env h (fun γ' d v H1 h1 e1 f1 rd=>e.rv σ γ' d v H1 h1 e1 f1 rd) fun γ' c H' hc e' f'=>e.ex σ γ' c H' hc e' f'
def MP (a:PTE):PTS:=fun R γ=>a γ (fun s=>match s.shd with|some d=>R.rv γ d|none=>False) (R.ex γ)
def PB {a:PTE} (ha:SndE K mg E te a):SndS K mg E (tRet te) (MP a):=by
 intro H0 B H σ γ R D hB env h e;refine ha H0 B H σ γ _ _ _ env h (fun s v H1 h1 S1 t1=>?_) fun c H' hc S'=>e.ex σ γ c H' hc (env.grow S') (Fr.grow S');split at h1
 ·rename_i d ed;exact e.rv σ γ d v H1 h1 (env.grow S1) (Fr.grow S1) (t1.shd (env.grow S1).same env.zm S1 ed)
 ·exact h1.elim
def RC {s s':S} (h:s.pass=some s'):s'.flat:=by
 cases s with
 | sh d=>cases h;trivial
 | own o=>cases h;trivial
 | bor d=>unfold S.pass at h;cases q:imm d<;>simp[q] at h<;>subst h<;>trivial
 | tmp d=>
  unfold S.pass at h;cases q:imm d<;>simp[q] at h
  subst h;trivial
 | view o=>cases h
def Te:∀{ss ss':List S},passes ss=some ss'->∀s∈ss',s.flat
 | [],_,h=>by cases h;simp
 | s::r,_,h=>by
  unfold passes at h;split at h
  ·rename_i s1 r1 e1 e2;cases h
   intro x hx;rcases Y5.mp hx with rfl|hx
   ·exact RC e1
   ·exact Te e2 x hx
  ·cases h
def TV.pass {s s':S}{v:V}{P W:Addr->Prop}{HB:Hp} (h0:Same H0 H') (hm:∀b,Z b->Mut (H b)) (S1:Same H H') (hb:Same H0 (off P HB)) (hs:Same (off Z H') (off W HB)) (h:TV K Z H0 H H' s v) (e:s.pass=some s'):TV K W (off P HB) HB HB s' v:=by
 have shd:∀d,s.shd=some d->Rp K (off W HB) d v:=fun d ed=>Rp.mono hs (h.shd h0 hm S1 ed);cases s with
 | sh d=>cases e;exact shd _ rfl
 | own o=>cases e;exact shd _ rfl
 | view o=>cases e
 | tmp d=>
  unfold S.pass at e;cases q:imm d with
  | false=>simp[q] at e
  | true=>simp[q] at e;subst e;exact shd d (by unfold S.shd;simp[q])
 | bor d=>
  unfold S.pass at e;cases q:imm d with
  | false=>simp[q] at e;subst e;exact Rp.mono hb h
  | true=>simp[q] at e;subst e;exact shd d (by unfold S.shd;simp[q])
def TVs.pass {P W:Addr->Prop}{HB:Hp} (h0:Same H0 H') (hm:∀b,Z b->Mut (H b)) (S1:Same H H') (hb:Same H0 (off P HB)) (hs:Same (off Z H') (off W HB)):∀{ss ss':List S}{vs:List V},TVs K Z H0 H H' ss vs->passes ss=some ss'->TVs K W (off P HB) HB HB ss' vs
 | _,_,_,.nil,e=>by cases e;exact .nil
 | _,_,_,.cons h r,e=>by
  unfold passes at e;split at e
  ·rename_i s1 r1 e1 e2;cases e
   exact .cons (h.pass h0 hm S1 hb hs e1) (TVs.pass h0 hm S1 hb hs r e2)
  ·cases e
def Fc {c:Pw}{i:Nat}{o:O}{a:Addr}{ss ss':List S}{us:List V}{R:Γ->D->Prop}{X:Γ->Str->Prop}{Q:VK}{Ec:XK} (env:EnvR K H0 B H σ γ) (hB:∀b,B b->∃o,H0 b=some o) (S1:Same H H1) (hi:γ[i]?=some (some (.own o))) (ha:σ[i]?=some (some (.ref a)))
  (t1:TVs K (zof B γ σ) H0 H H1 ss us) (hp:passes ss=some ss') (hc:c o ss' (fun o' d=>R (γ.set i (some (.own o'))) d) (fun o' e=>X (γ.set i (some (.own o'))) e))
  (q:∀γ' d v H',R γ' d->EnvR K H0 B H' σ γ'->Fr B H σ γ H' σ γ'->Rp K (off (zof B γ' σ) H') d v->Q v H') (qx:∀γ' c H',X γ' c->EnvR K H0 B H' σ γ'->Fr B H σ γ H' σ γ'->Ec (.ref (ExcR.J3 mg c)) none H'):spW mg c K (.ref a::us) H1 Q Ec:=by
 have env1:=env.grow S1;obtain⟨v,h1,a',ev,h3,h4⟩:=env1.slot i _ hi;rw[ha] at h1;cases h1
 cases ev
 have za:∀b,o.adr a b->zof B γ σ b:=fun b hb=>.inr ⟨i,o,a,hi,ha,hb⟩
 have aft:∀o' H',After K (fun b=>zof B γ σ b/\¬o.adr a b) H1 a o o' H'->EnvR K H0 B H' σ (γ.set i (some (.own o')))/\Fr B H σ γ H' σ (γ.set i (some (.own o')))/\∀b x,H' b=some x->¬((zof B γ σ b/\¬o.adr a b)\/o'.adr a b)->¬zof B (γ.set i (some (.own o'))) σ b:=fun o' H' A=>by
  have hzz:∀b x,H' b=some x->¬((zof B γ σ b/\¬o.adr a b)\/o'.adr a b)->¬zof B (γ.set i (some (.own o'))) σ b:=fun b x _ n z=>by
   rcases z with z|⟨j,fs,a',e1,e2,e3⟩
   ·refine n (.inl ⟨.inl z,fun w=>?_⟩);obtain⟨u,hu⟩:=hB b z;rw[h3 b w] at hu;cases hu
   ·rcases Uo e1 with⟨ej,q,_⟩|⟨nj,q⟩
    ·subst ej;cases q
     rw[ha] at e2;cases e2
     exact n (.inr e3)
    ·exact n (.inl ⟨.inr ⟨j,fs,a',q,e2,e3⟩,fun w=>nj (env.own j i a' a fs o b q hi e2 ha e3 w)⟩)
  obtain⟨k1,k2⟩:=env1.change (o':=o') (H':=H') hi ha (fun b x hx n=>A.same b x (Uu hx n)) (fun b hb=>A.at_.mut b (A.old b hb)) A.new (A.at_.mono (JM (Same.refl _) fun b x hx z=>hzz b x hx z) fun _ _ _ q=>q);exact⟨k1,(Fr.grow S1).trans k2,hzz⟩
 refine⟨o,a,ss',us,fun b=>zof B γ σ b/\¬o.adr a b,_,_,rfl,fun b hb=>⟨env1.zm b hb.1,hb.2⟩,h4.mono (JM (Same.refl _) fun b _ _ z y=>z (y.elim (fun y=>y.1) (za b))) fun _ _ _ q=>q,?_,Te hp,hc,fun o' d v H' hR A rd=>?_,fun o' e H' hX A=>?_⟩
 ·refine t1.pass env1.same env.zm S1 (fun b x hx=>Uu (env1.same b x hx) fun w=>?_) (JM (Same.refl _) fun b _ _ z y=>z (y.elim (fun y=>y.1) (za b))) hp;rw[h3 b w] at hx;cases hx
 ·obtain⟨k1,k2,k3⟩:=aft o' H' A;exact q _ d v H' hR k1 k2 (Rp.mono (fun b x h=>let ⟨p1,p2⟩:=X9 h;Uu p1 (k3 b x p1 p2)) rd)
 ·obtain⟨k1,k2,_⟩:=aft o' H' A;exact qx _ e H' hX k1 k2
def Zew (i:Nat) (c:Pw) (r:PTA):PTW:=fun γ R X=>match γ[i]? with
 | some (some (.own o))=>r γ (fun ss=>match passes ss with|some ss'=>c o ss' (fun o' d=>R (γ.set i (some (.own o'))) d) (fun o' e=>X (γ.set i (some (.own o'))) e)|none=>False) (X γ)
 | _=>False
def DW (i:Nat) (c:Pw) (r:PTA):PTW:=fun γ R X=>match γ[i]? with
 | some (some (.own o))=>r γ (fun ss=>match passes ss with|some ss'=>c o ss' (fun o' d=>R (γ.set i (some (.own o'))) d) (fun _ _=>False)|none=>False) (X γ)
 | _=>False
def Zat (i:Nat) {c:Pw}{ta:TA}{r:PTA} (hr:SndA K mg E ta r):SndW K mg E (K6 (spW mg c K) [] E0 (UJ (tVar i) ta)) (DW i c r):=by
 intro H0 B H σ γ R X Q hB env h q qx;unfold DW at h;split at h
 ·rename_i o hi;obtain⟨v,hv,a,rfl,_,_⟩:=env.slot i _ hi;refine⟨_,hv,hr H0 B H σ γ _ _ _ env h (fun ss us H1 h1 S1 t1=>?_) fun c H' hc S'=>qx γ c H' hc (env.grow S') (Fr.grow S')⟩;show spW mg c K ((V.ref a::us)++[]) H1 Q E0;rw[We];split at h1
  ·rename_i ss' ep;exact Fc (X:=fun _ _=>False) env hB S1 hi hv t1 ep h1 q fun _ _ _ z=>z.elim
  ·exact h1.elim
 ·exact h.elim
def fFld (C:Addr) (xs:List Str) (j:Nat):S->(S->Prop)->Prop
 | .view (.ins _ C' xs' cs),R=>C'=C/\xs'=xs/\∃c,cs[j]?=some c/\R (.view (.lst c.2))
 | .bor (.ins C' xs' ds),R=>C'=C/\xs'=xs/\∃d,ds[j]?=some d/\R (arg d)
 | _,_=>False
def pFld (C:Addr) (xs:List Str) (j:Nat) (a:PTE):PTE:=fun γ R X=>a γ (fun s=>fFld C xs j s R) X
def Rp.ins_inv {C:Addr}{xs:List Str}{ds:List D}{v:V} (h:Rp K H (.ins C xs ds) v):∃a dx vs,v=.ref a/\H a=some (.ins C dx (xs.zip vs))/\xs.length=vs.length/\Rps K H ds vs:=by
 cases h with
 | ins h e r=>exact⟨_,_,_,rfl,h,e,r⟩
def Pk (f:Str) (xs:List Str) (j:Nat):Prop:=∀vs:List V,xs.length=vs.length->(xs.zip vs).lookup f=vs[j]?
def P0 {C:Addr}{f:Str}{xs:List Str} (j:Nat) {a:PTE} (hc:Cls K C) (hn:NoAttr K C f) (hj:Pk f xs j) (ha:SndE K mg E te a):SndE K mg E (tFld K te f) (pFld C xs j a):=by
 intro H0 B H σ γ R X Q env p q qx;refine ha H0 B H σ γ _ X _ env p (fun s v H1 h1 S1 t1=>?_) qx;have env1:=env.grow S1;unfold fFld at h1;split at h1
 ·rename_i x C' xs' cs;obtain⟨rfl,rfl,c,ec,hR⟩:=h1;obtain⟨b,rfl,e1,e2,⟨dx,e3⟩,e4,e5⟩:=t1;obtain⟨us,u1,u2⟩:=e4 c (YE ec);refine⟨b,_,dx,_,_,rfl,e3,hc,hn,?_,q _ _ H1 hR S1 ⟨c.1,rfl,us,u1,u2⟩⟩;rw[hj _ (by rw[Yn];exact e2),Yz,ec];rfl
 ·rename_i C' xs' ds;obtain⟨rfl,rfl,d,ed,hR⟩:=h1;obtain⟨b,dx,vs,rfl,e1,e2,e3⟩:=Rp.ins_inv (show Rp K H0 (.ins C' xs' ds) v from t1)
  obtain⟨u,hu,ru⟩:=e3.get ed;refine⟨b,_,dx,_,u,rfl,env1.same _ _ e1,hc,hn,by rw[hj _ e2];exact hu,q _ _ H1 hR S1 (argR env1.zm env1.same ru)⟩
 ·exact h1.elim
def Gb (C:Addr) (xs:List Str) (c:Pc) (a:PTE) (r:PTA):PTE:=fun γ R X=>a γ (fun s=>match s.d with
 | .ins C' xs' ds=>C'=C/\xs'=xs/\r γ (fun ss=>c (.ins C' xs' ds::ss.map S.d) (fun s=>R s.back) X) X
 | _=>False) X
def UN (m:Str) (xs:List Str):Prop:=∀vs:List V,(xs.zip vs).lookup m=none
def Em (C:Addr) (m:Str) (sp:Sp) (E:L2.St->XK) (ta:TE) (t:TA):TE:=fun σ H Q=>ta σ H fun x H1=>∃a dx fs,x=.ref a/\H1 a=some (.ins C dx fs)/\fs.lookup m=none/\t σ H1 fun vs H2=>sp (x::(vs++[])) H2 Q (E σ)
def GT {C:Addr}{m:Str}{xs:List Str}{c:Pc}{ta:TA}{a:PTE}{r:PTA} (hx:UN m xs) (ha:SndE K mg E te a) (hr:SndA K mg E ta r):SndE K mg E (Em C m (spOf mg c K) E te ta) (Gb C xs c a r):=by
 intro H0 B H σ γ R X Q env p q qx;refine ha H0 B H σ γ _ X _ env p (fun s v H1 h1 S1 t1=>?_) qx;have env1:=env.grow S1;split at h1
 ·rename_i C' xs' ds ed;obtain⟨rfl,rfl,h1⟩:=h1;have rs:=t1.rp env1.same;rw[ed] at rs;obtain⟨b,dx,vs,rfl,e1,e2,e3⟩:=Rp.ins_inv rs;refine⟨b,dx,_,rfl,e1,hx vs,hr H0 B H1 σ γ _ X _ env1 h1 (fun ss us H2 h2 S2 t2=>?_) fun c H' hc S'=>qx c H' hc (S1.trans S')⟩;have env2:=env1.grow S2;rw[We];refine⟨_,_,X,Rps.cons (Rp.mono S2 rs) (t2.rps env2.same),h2,fun s v H' hs S3 tv=>q _ _ H' hs ((S1.trans S2).trans S3) (tv.back env2 (S1.trans S2) S3),fun e H' he S3=>qx e H' he ((S1.trans S2).trans S3)⟩
 ·exact h1.elim
def TC {C:Addr}{m:Str}{xs:List Str}{c:Pc}{ta:TA}{a:PTE}{r:PTA}{Ec:XK} (hx:UN m xs) (ha:SndE K mg (fun _=>Ec) te a) (hr:SndA K mg (fun _=>Ec) ta r):SndE K mg (fun _=>Ec) (Kr C m (spOf mg c K) [] Ec te ta) (Gb C xs c a r):=GT (E:=fun _=>Ec) hx ha hr
def Zcw (C:Addr) (xs:List Str) (c:Pc) (a:PTE) (r:PTA):PTE:=fun γ R X=>a γ (fun s=>match s.d with
 | .ins C' xs' ds=>C'=C/\xs'=xs/\r γ (fun ss=>c (.ins C' xs' ds::ss.map S.d) (fun s=>R s.back) fun _=>False) X
 | _=>False) X
def U3 {C:Addr}{m:Str}{xs:List Str}{c:Pc}{ta:TA}{a:PTE}{r:PTA} (hx:UN m xs) (ha:SndE K mg E te a) (hr:SndA K mg E ta r):SndE K mg E (Kr C m (spOf mg c K) [] E0 te ta) (Zcw C xs c a r):=by
 intro H0 B H σ γ R X Q env p q qx;refine ha H0 B H σ γ _ X _ env p (fun s v H1 h1 S1 t1=>?_) qx;have env1:=env.grow S1;split at h1
 ·rename_i C' xs' ds ed;obtain⟨rfl,rfl,h1⟩:=h1;have rs:=t1.rp env1.same;rw[ed] at rs;obtain⟨b,dx,vs,rfl,e1,e2,e3⟩:=Rp.ins_inv rs;refine⟨b,dx,_,rfl,e1,hx vs,hr H0 B H1 σ γ _ X _ env1 h1 (fun ss us H2 h2 S2 t2=>?_) fun c H' hc S'=>qx c H' hc (S1.trans S')⟩;have env2:=env1.grow S2;rw[We];exact⟨_,_,_,Rps.cons (Rp.mono S2 rs) (t2.rps env2.same),h2,fun s v H' hs S3 tv=>q _ _ H' hs ((S1.trans S2).trans S3) (tv.back env2 (S1.trans S2) S3),fun _ _ z=>z.elim⟩
 ·exact h1.elim
def BI (i:Nat) (C:Addr) (xs:List Str) (c:Pw) (r:PTA):PTW:=fun γ R X=>match γ[i]? with
 | some (some (.own (.ins x C' xs' cs)))=>C'=C/\xs'=xs/\r γ (fun ss=>match passes ss with|some ss'=>c (.ins x C' xs' cs) ss' (fun o' d=>R (γ.set i (some (.own o'))) d) (fun o' e=>X (γ.set i (some (.own o'))) e)|none=>False) (X γ)
 | _=>False
def Zav (i:Nat) {C:Addr}{m:Str}{xs:List Str}{c:Pw}{ta:TA}{r:PTA} (hx:UN m xs) (hr:SndA K mg E ta r):SndW K mg E (Em C m (spW mg c K) E (tVar i) ta) (BI i C xs c r):=by
 intro H0 B H σ γ R X Q hB env h q qx;unfold BI at h;split at h
 ·rename_i x C' xs' cs hi;obtain⟨rfl,rfl,h⟩:=h;obtain⟨v,hv,a,rfl,_,e1,e2,⟨dx,e3⟩,e4⟩:=env.slot i _ hi;refine⟨_,hv,a,dx,_,rfl,e3,hx _,hr H0 B H σ γ _ _ _ env h (fun ss us H1 h1 S1 t1=>?_) fun c H' hc S'=>qx γ c H' hc (env.grow S') (Fr.grow S')⟩;rw[We];split at h1
  ·rename_i ss' ep;exact Fc env hB S1 hi hv t1 ep h1 q qx
  ·exact h1.elim
 ·exact h.elim
def Tc (i:Nat) {C:Addr}{m:Str}{xs:List Str}{c:Pw}{ta:TA}{r:PTA}{Ec:XK} (hx:UN m xs) (hr:SndA K mg (fun _=>Ec) ta r):SndW K mg (fun _=>Ec) (Kr C m (spW mg c K) [] Ec (tVar i) ta) (BI i C xs c r):=Zav (E:=fun _=>Ec) i hx hr
def Ad (i:Nat) (C:Addr) (xs:List Str) (c:Pw) (r:PTA):PTW:=fun γ R X=>match γ[i]? with
 | some (some (.own (.ins x C' xs' cs)))=>C'=C/\xs'=xs/\r γ (fun ss=>match passes ss with|some ss'=>c (.ins x C' xs' cs) ss' (fun o' d=>R (γ.set i (some (.own o'))) d) (fun _ _=>False)|none=>False) (X γ)
 | _=>False
def P8 (i:Nat) {C:Addr}{m:Str}{xs:List Str}{c:Pw}{ta:TA}{r:PTA} (hx:UN m xs) (hr:SndA K mg E ta r):SndW K mg E (Kr C m (spW mg c K) [] E0 (tVar i) ta) (Ad i C xs c r):=by
 intro H0 B H σ γ R X Q hB env h q qx;unfold Ad at h;split at h
 ·rename_i x C' xs' cs hi;obtain⟨rfl,rfl,h⟩:=h;obtain⟨v,hv,a,rfl,_,e1,e2,⟨dx,e3⟩,e4⟩:=env.slot i _ hi;refine⟨_,hv,a,dx,_,rfl,e3,hx _,hr H0 B H σ γ _ _ _ env h (fun ss us H1 h1 S1 t1=>?_) fun c H' hc S'=>qx γ c H' hc (env.grow S') (Fr.grow S')⟩;rw[We];split at h1
  ·rename_i ss' ep;exact Fc (X:=fun _ _=>False) env hB S1 hi hv t1 ep h1 q fun _ _ _ z=>z.elim
  ·exact h1.elim
 ·exact h.elim
def AA {α:Type}:∀{l:List α}{i j:Nat}{x:α},l.Nodup->l[i]?=some x->l[j]?=some x->i=j
 | [],_,_,_,_,h,_=>by simp at h
 | y::r,0,0,_,_,_,_=>rfl
 | y::r,0,j+1,x,hn,h1,h2=>by
  have e:y=x:=by simpa using h1
  exact absurd (e▸YE (show r[j]?=some x by simpa using h2)) (YX.mp hn).1
 | y::r,i+1,0,x,hn,h1,h2=>by
  have e:y=x:=by simpa using h2
  exact absurd (e▸YE (show r[i]?=some x by simpa using h1)) (YX.mp hn).1
 | y::r,i+1,j+1,x,hn,h1,h2=>YS (· + 1) (AA (l:=r) (YX.mp hn).2 (by simpa using h1) (by simpa using h2))
def EnvR.cell {i j:Nat}{x C:Addr}{xs:List Str}{cs:List (Addr×List D)}{b:Addr}{ds es:List D}{us:List V} (env:EnvR K H0 B H σ γ) (hi:γ[i]?=some (some (.own (.ins x C xs cs)))) (hj:cs[j]?=some (b,ds)) (r:Rps K (off (zof B γ σ) H) es us) :
  EnvR K H0 B (upd H b (.lst us)) σ (γ.set i (some (.own (.ins x C xs (cs.set j (b,es))))))/\Fr B H σ γ (upd H b (.lst us)) σ (γ.set i (some (.own (.ins x C xs (cs.set j (b,es)))))):=by
 obtain⟨v,hv,a,rfl,e0,e1,e2,⟨dx,e3⟩,e4,e5⟩:=env.slot i _ hi;subst e1;have hjl:j<cs.length:=(YG.mp hj).1;have hbm:(b,ds)∈cs:=YE hj
 have hab:a≠b:=fun z=>by
  obtain⟨ws,w1,_⟩:=e4 _ hbm;rw[←show a=b from z,e3] at w1
  cases w1
 have em:(cs.set j (b,es)).map (·.1)=cs.map (·.1):=by
  apply Vj;intro k;rw[Yz,Yz,List.getElem?_set];by_cases e:j=k
  ·subst e;rw[Yr rfl,Yr hjl,hj];rfl
  ·rw[Yq e]
 have em2:(cs.set j (b,es)).map (fun c=>V.ref c.1)=cs.map fun c=>V.ref c.1:=by
  have:=YS (List.map V.ref) em
  rw[Wh,Wh] at this;exact this
 have adr:∀c,(O.ins a C xs (cs.set j (b,es))).adr a c->(O.ins a C xs cs).adr a c:=fun c hc=>by
  rcases hc with hc|⟨d,hd,hc⟩
  ·exact .inl hc
  ·have:d.1∈(cs.set j (b,es)).map (·.1):=List.mem_map_of_mem hd
   rw[em] at this;obtain⟨d',q1,q2⟩:=YT.mp this;exact .inr ⟨d',q1,hc.trans q2.symm⟩
 have zb:∀c,(O.ins a C xs cs).adr a c->zof B γ σ c:=fun c hc=>.inr ⟨i,_,a,hi,hv,hc⟩
 have So:Same (off (zof B γ σ) H) (off (zof B (γ.set i (some (.own (.ins a C xs (cs.set j (b,es)))))) σ) (upd H b (.lst us))):=fun c u h=>by
  obtain⟨q1,q2⟩:=X9 h;have nb:c≠b:=fun z=>q2 (zb c (.inr ⟨_,hbm,z⟩));refine Uu (by rw[JW nb];exact q1) fun z=>q2 ?_;rcases z with z|⟨k,fs,a',k1,k2,k3⟩
  ·exact .inl z
  ·rcases Uo k1 with⟨ek,q,_⟩|⟨_,q⟩
   ·subst ek;cases q
    rw[hv] at k2;cases k2
    exact zb c (adr c k3)
   ·exact .inr ⟨k,fs,a',q,k2,k3⟩
 refine env.change hi hv (fun c u hu n=>?_) (fun c hc=>?_) (fun c hc=>.inl (adr c hc)) ⟨rfl,by rw[W2];exact e2,⟨dx,?_⟩,fun c hc=>?_,by rw[em];exact e5⟩
 ·rw[JW fun z=>n (.inr ⟨_,hbm,z⟩)];exact hu
 ·by_cases z:c=b
  ·rw[z,Uj];trivial
  ·rw[JW z];exact env.zm c (zb c hc)
 ·rw[JW hab,em2];exact e3
 ·obtain⟨k,hk,ek⟩:=List.getElem_of_mem hc;have hk':(cs.set j (b,es))[k]?=some c:=by rw[Yo hk,ek]
  rcases Uo hk' with⟨_,q,_⟩|⟨nk,q⟩
  ·subst q;exact⟨us,Uj,Rps.mono So r⟩
  ·obtain⟨ws,w1,w2⟩:=e4 c (YE q)
   have nb:c.1≠b:=fun z=>nk (by
    have h1:(cs.map (·.1))[k]?=some b:=by rw[Yz,q];exact YS some z
    have h2:(cs.map (·.1))[j]?=some b:=by rw[Yz,hj];rfl
    exact AA e5 h1 h2)
   exact⟨ws,by rw[JW nb];exact w1,Rps.mono So w2⟩
def CG (i j:Nat) (C:Addr) (xs:List Str) (a:PTE):PTW:=fun γ R X=>match γ[i]? with
 | some (some (.own (.ins x C' xs' cs)))=>C'=C/\xs'=xs/\∃c,cs[j]?=some c/\a γ (fun s=>match s.shd with
  | some d=>c.2.length<10000000/\R (γ.set i (some (.own (.ins x C' xs' (cs.set j (c.1,c.2++[d])))))) .non
  | none=>False) (X γ)
 | _=>False
def F2 (i j:Nat) {C:Addr}{f:Str}{xs:List Str}{a:PTE} (hc:Cls K C) (hn:NoAttr K C f) (hj:Pk f xs j) (ha:SndE K mg E te a):SndW K mg E (tBM K "list" BF (tFld K (tVar i) f) (UJ te tNil)) (CG i j C xs a):=by
 intro H0 B H σ γ R X Q hB env h q qx;unfold CG at h;split at h
 ·rename_i x C' xs' cs hi;obtain⟨rfl,rfl,c,ec,h⟩:=h;obtain⟨v,hv,b,rfl,_,e1,e2,⟨dx,e3⟩,e4,e5⟩:=env.slot i _ hi;obtain⟨us,u1,u2⟩:=e4 c (YE ec);refine⟨_,hv,b,_,dx,_,V.ref c.1,rfl,e3,hc,hn,?_,.inl ⟨rfl,us,SqL.of u1⟩,ha H0 B H σ γ _ _ _ env h (fun s u H1 h1 S1 t1=>?_) fun c H' hc S'=>qx γ c H' hc (env.grow S') (Fr.grow S')⟩
  ·rw[hj _ (by rw[Yn];exact e2),Yz,ec];rfl
  ·have env1:=env.grow S1;split at h1
   ·rename_i d ed;have rd:=t1.shd env1.same env.zm S1 ed;refine⟨c.1,us,u,rfl,rfl,S1 _ _ u1,by rw[u2.len];exact Qt h1.1 (by decide),?_⟩;obtain⟨k1,k2⟩:=env1.cell (es:=c.2++[d]) (us:=us++[u]) hi ec (Rps.append (Rps.mono (JM S1 fun _ _ _ z=>z) u2) (.cons rd .nil));exact q _ _ _ _ h1.2 k1 ((Fr.grow S1).trans k2) .non
   ·exact h1.elim
 ·exact h.elim
def Ge (i j:Nat) (C:Addr) (xs:List Str):PTW:=fun γ R _=>match γ[i]? with
 | some (some (.own (.ins x C' xs' cs)))=>C'=C/\xs'=xs/\∃c d,cs[j]?=some c/\c.2[c.2.length-1]?=some d/\R (γ.set i (some (.own (.ins x C' xs' (cs.set j (c.1,c.2.dropLast)))))) d
 | _=>False
def Rps.dropLast:∀{ds:List D}{vs:List V},Rps K H ds vs->Rps K H ds.dropLast vs.dropLast
 | _,_,.nil=>.nil
 | _,_,.cons _ .nil=>.nil
 | _,_,.cons h (.cons h' r)=>.cons h (Rps.dropLast (.cons h' r))
def Sl (i j:Nat) {C:Addr}{f:Str}{xs:List Str} (hc:Cls K C) (hn:NoAttr K C f) (hj:Pk f xs j):SndW K mg E (tBM0 K "list" rPop (tFld K (tVar i) f)) (Ge i j C xs):=by
 intro H0 B H σ γ R X Q hB env h q qx;unfold Ge at h;split at h
 ·rename_i x C' xs' cs hi;obtain⟨rfl,rfl,c,d,ec,ed,h⟩:=h;obtain⟨v,hv,b,rfl,_,e1,e2,⟨dx,e3⟩,e4,e5⟩:=env.slot i _ hi;obtain⟨us,u1,u2⟩:=e4 c (YE ec);obtain⟨u,hu,ru⟩:=u2.get ed;refine⟨_,hv,b,_,dx,_,V.ref c.1,rfl,e3,hc,hn,?_,.inl ⟨rfl,us,SqL.of u1⟩,c.1,us,u,rfl,rfl,u1,by rw[u2.len];exact hu,?_⟩
  ·rw[hj _ (by rw[Yn];exact e2),Yz,ec];rfl
  ·obtain⟨k1,k2⟩:=env.cell (es:=c.2.dropLast) (us:=us.dropLast) hi ec (Rps.dropLast u2);exact q _ _ _ _ h k1 k2 (Rp.mono k2.off ru)
 ·exact h.elim
def NQ (f:Str) (xs:List Str):Prop:=∀(vs:List V) (y:V),xs.length=vs.length->putF f y (xs.zip vs)=(xs++[f]).zip (vs++[y])
def Zdd (i:Nat) (C:Addr) (f:Str) (xs:List Str) (a:PTE):PTS:=fun R γ=>a γ (fun s=>match s with
 | .own (.lst ds)=>(match γ[i]? with
  | some (some (.own (.ins x C' xs' cs)))=>C'=C/\xs'=xs/\xs.length<1000/\∀b,R.nx (γ.set i (some (.own (.ins x C' (xs++[f]) (cs++[(b,ds)])))))
  | _=>False)
 | _=>False) (R.ex γ)
def Sy (i:Nat) {C:Addr}{f:Str}{xs:List Str}{a:PTE} (hc:Cls K C) (hn:NoAttr K C f) (hp:NQ f xs) (ha:SndE K mg E te a):SndS K mg E (sFld K (tVar i) te f) (Zdd i C f xs a):=by
 intro H0 B H σ γ R D hB env h e;refine ha H0 B H σ γ _ _ _ env h (fun s v H1 h1 S1 t1=>?_) fun c H' hc S'=>e.ex σ γ c H' hc (env.grow S') (Fr.grow S');have env1:=env.grow S1;split at h1
 ·rename_i ds;split at h1
  ·rename_i x C' xs' cs hi;obtain⟨rfl,rfl,hl,h1⟩:=h1;obtain⟨u,hv,b,rfl,e0,e1,e2,⟨dx,e3⟩,e4,e5⟩:=env.slot i _ hi;subst e1;obtain⟨l,rfl,l0,vs,l1,l2⟩:=t1;have l0:H l=none:=l0 l rfl;have na:b≠l:=Xs e3 l0;refine⟨_,hv,b,_,dx,_,rfl,S1 _ _ e3,hc,hn,?_,?_⟩
   ·rw[List.length_zip,Yn];omega
   ·rw[hp _ _ (by rw[Yn];exact e2)]
    have nl:∀c∈cs,c.1≠l:=fun c hc=>by
     obtain⟨ws,w1,_⟩:=e4 c hc;exact Xs w1 l0
    have nb:∀c∈cs,c.1≠b:=fun c hc z=>by
     obtain⟨ws,w1,_⟩:=e4 c hc;rw[z,e3] at w1;cases w1
    have zb:∀c,(O.ins b C' xs' cs).adr b c->zof B γ σ c:=fun c hc=>.inr ⟨i,_,b,hi,hv,hc⟩
    have key:∀c u,H1 c=some u->¬(zof B γ σ c\/c=l)->¬zof B (γ.set i (some (.own (.ins b C' (xs'++[f]) (cs++[(l,ds)]))))) σ c:=fun c u _ n z=>by
     rcases z with z|⟨k,fs,a',k1,k2,k3⟩
     ·exact n (.inl (.inl z))
     ·rcases Uo k1 with⟨ek,q,_⟩|⟨_,q⟩
      ·subst ek;cases q
       rw[hv] at k2;cases k2
       rcases k3 with k3|⟨d,hd,k3⟩
       ·exact n (.inl (zb c (.inl k3)))
       ·rcases YJ.mp hd with hd|hd
        ·exact n (.inl (zb c (.inr ⟨d,hd,k3⟩)))
        ·rw[Y0] at hd;subst hd;exact n (.inr k3)
      ·exact n (.inl (.inr ⟨k,fs,a',q,k2,k3⟩))
    have So:Same (off (fun c=>zof B γ σ c\/c=l) H1) (off (zof B (γ.set i (some (.own (.ins b C' (xs'++[f]) (cs++[(l,ds)]))))) σ) (upd H1 b (.ins C' dx ((xs'++[f]).zip ((cs.map fun c=>V.ref c.1)++[.ref l]))))):=fun c u h=>by
     obtain⟨q1,q2⟩:=X9 h;exact Uu (by rw[JW fun z=>q2 (.inl (zb c (.inl z)))];exact q1) (key c u q1 q2)
    have S0:Same (off (zof B γ σ) H) (off (fun c=>zof B γ σ c\/c=l) H1):=JM S1 fun c u hc z y=>y.elim z fun y=>by rw[y,l0] at hc;cases hc
    obtain⟨k1,k2⟩:=env.change (o':=.ins b C' (xs'++[f]) (cs++[(l,ds)])) (H':=upd H1 b (.ins C' dx ((xs'++[f]).zip ((cs.map fun c=>V.ref c.1)++[.ref l])))) hi hv
     (fun c u hu n=>by rw[JW fun z=>n (.inl z)];exact S1 _ _ hu)
     (fun c hc=>by
      by_cases z:c=b
      ·rw[z,Uj];trivial
      ·rw[JW z];exact env1.zm c (zb c hc))
     (fun c hc=>by
      rcases hc with hc|⟨d,hd,hc⟩
      ·exact .inl (.inl hc)
      ·rcases YJ.mp hd with hd|hd
       ·exact .inl (.inr ⟨d,hd,hc⟩)
       ·rw[Y0] at hd;subst hd;exact .inr (by rw[show c=l from hc];exact l0))
     ⟨rfl,by rw[Yy,Yy,e2];rfl,⟨dx,by rw[Uj,YD];rfl⟩,fun c hc=>by
      rcases YJ.mp hc with hc|hc
      ·obtain⟨ws,w1,w2⟩:=e4 c hc;exact⟨ws,by rw[JW (nb c hc)];exact S1 _ _ w1,Rps.mono So (Rps.mono S0 w2)⟩
      ·rw[Y0] at hc;subst hc;exact⟨vs,by rw[JW (fun z=>na z.symm)];exact l1,Rps.mono So l2⟩,by
      rw[YD,W8]
      exact⟨e5,by simp,fun c hc d hd z=>by
       obtain⟨c',q1,q2⟩:=YT.mp hc
       have:d=l:=by simpa using hd
       exact nl c' q1 (q2.trans (z.trans this))⟩⟩
    exact e.nx _ _ _ (h1 l) k1 k2
  ·exact h1.elim
 ·exact h1.elim
def L8 {C:Addr}{c:Pw}{ss ss':List S}{us:List V}{R:S->Prop}{X:XR}{Q:VK}{Ec:XK} (env:EnvR K H0 B H σ γ) (S1:Same H H1) (t1:TVs K (zof B γ σ) H0 H H1 ss us) (ep:passes ss=some ss')
  (h1:∀x,c (.ins x C [] []) ss' (fun o' d=>d=.non/\R (.own o')) (fun _ e=>X e)) (q:∀s v H',R s->Same H H'->TV K (zof B γ σ) H0 H H' s v->Q v H') (qx:∀c H',X c->Same H H'->Ec (.ref (ExcR.J3 mg c)) none H') :
  ∀x dx,H1 x=none->H1 dx=none->dx≠x->spW mg c K (.ref x::us) (upd (upd H1 dx (.own x)) x (.ins C dx [])) (fun v H2=>v=.non/\Q (.ref x) H2) Ec:=by
 have env1:=env.grow S1;intro x dx nx ndx nex
 have S2:Same H1 (upd (upd H1 dx (.own x)) x (.ins C dx [])):=fun b o e=>by
  rw[JW (Xs e nx),JW (Xs e ndx)];exact e
 have aft:∀o' H',After K (zof B γ σ) (upd (upd H1 dx (.own x)) x (.ins C dx [])) x (.ins x C [] []) o' H'->Same H1 H'/\∀b,o'.adr x b->H b=none:=fun o' H' A=>by
  refine⟨fun b o e=>A.same b o (Uu (S2 b o e) fun z=>?_),fun b hb=>?_⟩
  ·rcases z with z|⟨c,hc,_⟩
   ·rw[z,nx] at e;cases e
   ·cases hc
  ·rcases A.new b hb with(z|⟨c,hc,_⟩)|z
   ·rw[z];exact S1.free nx
   ·cases hc
   ·exact S1.free (S2.free z)
 refine⟨.ins x C [] [],x,ss',us,zof B γ σ,_,_,rfl,fun b hb=>⟨XG S2 (env1.zm b hb),fun z=>?_⟩,⟨rfl,rfl,⟨dx,Uj⟩,(fun c hc=>by cases hc),Qc⟩,?_,Te ep,h1 x,fun o' d v H' hR A rd=>?_,fun o' e H' hX A=>?_⟩
 ·rcases z with z|⟨c,hc,_⟩
  ·have:=env1.zm b hb
   rw[z,nx] at this;exact this
  ·cases hc
 ·refine t1.pass env1.same env.zm S1 (fun b o e=>Uu (S2 _ _ (env1.same b o e)) fun z=>?_) (JM S2 fun b o e z y=>?_) ep
  ·rcases z with z|⟨c,hc,_⟩
   ·rw[z,(env1.same).free nx] at e;cases e
   ·cases hc
  ·rcases y with y|y|⟨c,hc,_⟩
   ·exact z y
   ·rw[y,nx] at e;cases e
   ·cases hc
 ·obtain⟨rfl,hR⟩:=hR;obtain⟨k1,k2⟩:=aft o' H' A;exact⟨Rp.non_inv rd,q _ _ H' hR (S1.trans k1) ⟨x,rfl,k2,A.at_⟩⟩
 ·exact qx e H' hX (S1.trans (aft o' H' A).1)
def Zdb (C:Addr) (c:Pw) (r:PTA):PTE:=fun γ R X=>r γ (fun ss=>match passes ss with|some ss'=>∀x,c (.ins x C [] []) ss' (fun o' d=>d=.non/\R (.own o')) (fun _ _=>False)|none=>False) X
def OF {C:Addr}{c:Pw}{ta:TA}{r:PTA} (hr:SndA K mg E ta r):SndE K mg E (BD C (spW mg c K) [] E0 ta) (Zdb C c r):=by
 intro H0 B H σ γ R X Q env p q qx;refine hr H0 B H σ γ _ X _ env p (fun ss us H1 h1 S1 t1=>?_) qx;split at h1
 ·rename_i ss' ep;rw[We];exact L8 (X:=fun _=>False) env S1 t1 ep h1 q fun _ _ z=>z.elim
 ·exact h1.elim
end
def len0 {α:Type}{us:List α} (h:us.length=0):∃_:True,us=[]:=⟨trivial,W7.mp h⟩
def len1 {α:Type}{us:List α} (h:us.length=1):∃a,us=[a]:=List.length_eq_one_iff.mp h
def len2 {α:Type}{us:List α} (h:us.length=2):∃a b,us=[a,b]:=by
 cases us with
 | nil=>cases h
 | cons a r=>obtain⟨b,rfl⟩:=len1 (us:=r) (by simpa using h);exact⟨a,b,rfl⟩
def len3 {α:Type}{us:List α} (h:us.length=3):∃a b c,us=[a,b,c]:=by
 cases us with
 | nil=>cases h
 | cons a r=>obtain⟨b,c,rfl⟩:=len2 (us:=r) (by simpa using h);exact⟨a,b,c,rfl⟩
def len4 {α:Type}{us:List α} (h:us.length=4):∃a b c d,us=[a,b,c,d]:=by
 cases us with
 | nil=>cases h
 | cons a r=>obtain⟨b,c,d,rfl⟩:=len3 (us:=r) (by simpa using h);exact⟨a,b,c,d,rfl⟩
def len5 {α:Type}{us:List α} (h:us.length=5):∃a b c d e,us=[a,b,c,d,e]:=by
 cases us with
 | nil=>cases h
 | cons a r=>obtain⟨b,c,d,e,rfl⟩:=len4 (us:=r) (by simpa using h);exact⟨a,b,c,d,e,rfl⟩
structure DefM (K:Za) (W:Addr->Prop) (x q:Str) (st:Stmt) (ps:List Str):Prop where
 ex:∃f fd,Fun K x q st f fd/\W f/\Binds K fd ps []
structure CalleeM (P:Program) (w:World) (K:Za) (mg:Str->Option Value) (base:Heap) (CX:CXT) (k:Nat) (W:Addr->Prop) (ps:List Str) (sp:Sp):Prop where
 ex:∃f fd,FnOk P w K mg base CX k f fd ps sp/\W f/\Binds K fd ps []
section
variable {P:Program}{w:World}{K:Za}{mg:Str->Option Value}{base:Heap}{W:Addr->Prop}
def DefM.ok {x q:Str}{st:Stmt}{N ps:List Str}{k:Nat}{sp:Sp} (D:DefM K W x q st ps) (S:FnScope N ps (J5 st)) (len:∀vs H Q E,sp vs H Q E->vs.length=ps.length)
  (hbody:∀(f:Addr) (cdv:Value) (A:Around) (outer:List Env) (s:Shared) (H:Hp) (vs:List V) (Q:VK) (E:XK),Room k (A.deeper (envOfC q (J5 st) s.heap.objs.size f cdv))->sp vs H Q E->
   ∃t,PSs (cxOf CX0 P w K mg base N q (J5 st) f cdv A outer s H E).nox (UH st) t/\t { nx:=fun _ H'=>Q .non H',rt:=Q } (start N vs) H):CalleeM P w K mg base CX0 (k+1) W ps sp:=by
 obtain⟨f,fd,F,hm,hb⟩:=D.ex;exact⟨f,fd,F.ok S len fun cdv A outer s H vs Q E hr h=>hbody f cdv A outer s H vs Q E hr h,hm,hb⟩
def DefM.okX {x q:Str}{st:Stmt}{N ps:List Str}{k:Nat}{sp:Sp} (D:DefM K W x q st ps) (S:FnScope N ps (J5 st)) (len:∀vs H Q E,sp vs H Q E->vs.length=ps.length)
  (hbody:∀(f:Addr) (cdv:Value) (A:Around) (outer:List Env) (s:Shared) (H:Hp) (vs:List V) (Q:VK) (E:XK),Room k (A.deeper (envOfC q (J5 st) s.heap.objs.size f cdv))->sp vs H Q E->
   ∃t,PSs (cxOf (ExcR.CXe P w) P w K mg base N q (J5 st) f cdv A outer s H E) (UH st) t/\t { nx:=fun _ H'=>Q .non H',rt:=Q } (start N vs) H):CalleeM P w K mg base (ExcR.CXe P w) (k+1) W ps sp:=by
 obtain⟨f,fd,F,hm,hb⟩:=D.ex;obtain⟨oc,od,kV,doc,pm,an,cdv,ct,osl,rfl,lk,hcd⟩:=F.ex;exact⟨f,_,Sz lk hcd S len fun A outer s H vs Q E hr hsp=>hbody f cdv A outer s H vs Q E hr hsp,hm,hb⟩
def BY {X:Cx}:Xx (ExcR.CXe P w) X E0:=fun _ _ _ _ _ _ _ h=>by
 obtain⟨a,T,C,H',_,_,z⟩:=h;exact z.elim
end
section
variable {X:Cx}{CX:CXT}{k:Nat}{Cc:Addr}{ps:List Str}{sp:Sp}{E:XK}{ES:L2.St->XK}{x m:Str}{p pos apos:Pos}{e o:Expr}{es:List Expr}{ta:TE}{t:TA}
def XS {pl:Sem Bool} (C:CalleeM X.prog X.w X.K X.mg X.base CX k (Meth X.K Cc m) ps sp) (c:Cls X.K Cc) (hr:Room k X.A) (hx:Xx CX X E) (he:PE X o ta) (ha:PA X (e::es) t)
  (hst:starEach (e::es) X.env=(false,eval e X.env)::starEach es X.env:=by rfl) (hpl:(backTo pos (starEach es X.env)).any (·.1)=false:=by rfl)
  (ht:eval (.Call (.Attribute o m apos) (e::es) [] pos) X.env=(do
   let ov ←eval o X.env
   standAt apos.atName
   let (f,first) ←holding [ov] (getMethod ov m pl)
   callWith pos f first (backTo pos (starEach (e::es) X.env)) (backToKw pos (keywordEach [] X.env))):=by rfl) :
  PE X (.Call (.Attribute o m apos) (e::es) [] pos) (Kr Cc m sp [] E ta t):=by
 obtain⟨f,fd,F,hm,hb⟩:=C.ex;exact Oi he c hm F hr hb .nil hx ha hst hpl ht
def Uh {pl:Sem Bool} (C:CalleeM X.prog X.w X.K X.mg X.base CX k (Meth X.K Cc m) ps sp) (c:Cls X.K Cc) (hr:Room k X.A) (hx:Xx CX X E) (he:PE X o ta)
  (ht:eval (.Call (.Attribute o m apos) [] [] pos) X.env=(do
   let ov ←eval o X.env
   standAt apos.atName
   let (f,first) ←holding [ov] (getMethod ov m pl)
   callWith pos f first (backTo pos (starEach [] X.env)) (backToKw pos (keywordEach [] X.env))):=by rfl) :
  PE X (.Call (.Attribute o m apos) [] [] pos) (Kr Cc m sp [] E ta tNil):=by
 obtain⟨f,fd,F,hm,hb⟩:=C.ex;exact O3 he c hm F hr hb .nil hx ht
def LL (C:CalleeM X.prog X.w X.K X.mg X.base CX k (Mk X.K Cc) ps sp) (hm:X.mg x=some (.ref Cc)) (hr:Room (k+1) X.A) (hx:Xx CX X E) (ha:PA X (e::es) t) (hg:Gl X x:=by rfl)
  (hdb:(x==("__debug__" : Str))=false:=by decide) (he:starEach (e::es) X.env=(false,eval e X.env)::starEach es X.env:=by rfl) (hpl:(backTo pos (starEach es X.env)).any (·.1)=false:=by rfl) :
  PE X (.Call (.Name x p) (e::es) [] pos) (BD Cc sp [] E t):=by
 obtain⟨f,fd,F,M,hb⟩:=C.ex;exact Zc3 M F hr hg hm hb .nil hx ha hdb he hpl
end
abbrev PTF:=Γ->Str->(Str->Prop)->XR->Prop
section
variable {K:Za}{mg:Str->Option Value}{E:L2.St->XK}{t:ExcR.TF}{p:PTF}{te:TE}{a:PTE}
def SndF (K:Za) (mg:Str->Option Value) (E:L2.St->XK) (t:ExcR.TF) (p:PTF):Prop:=∀(H0:Hp) (B:Addr->Prop) (H:Hp) (σ:L2.St) (γ:Γ) (out:Str) (R:Str->Prop) (X:XR) (Q:Str->Hp->Prop),EnvR K H0 B H σ γ->p γ out R X->
 (∀x H',R x->Same H H'->Q x H')->(∀c H',X c->Same H H'->E σ (.ref (ExcR.J3 mg c)) none H')->t σ H out Q
def HR:PTF:=fun _ out R _=>out.length<=sizeLine/\R out
def KD:SndF K mg E ExcR.fNil HR:=fun H0 B H σ γ out R X Q env h q _=>⟨h.1,q _ H h.2 (Same.refl _)⟩
def Li (x:Str) (p:PTF):PTF:=fun γ out R X=>(out++x).length<=sizeLine/\p γ (out++x) R X
def X6 {x:Str} (h:SndF K mg E t p):SndF K mg E (ExcR.fStr x t) (Li x p):=fun H0 B H σ γ out R X Q env hp q qx=>⟨hp.1,h H0 B H σ γ _ R X Q env hp.2 q qx⟩
def OP (a:PTE) (p:PTF):PTF:=fun γ out R X=>a γ (fun s=>match s.d with
 | .int i=>i.natAbs.log2<1920/\(out++(Str.ofString (toString i))).length<=sizeLine/\p γ (out++Str.ofString (toString i)) R X
 | .str x=>x.length<=sizeLine/\(out++x).length<=sizeLine/\p γ (out++x) R X
 | _=>False) X
def Pf (ha:SndE K mg E te a) (h:SndF K mg E t p):SndF K mg E (ExcR.fVal te t) (OP a p):=fun H0 B H σ γ out R X Q env hp q qx=>by
 refine ha H0 B H σ γ _ X _ env hp (fun s v H1 h1 S1 t1=>?_) qx;have env1:=env.grow S1;have rs:=t1.rp env1.same;split at h1
 ·rename_i i ei;rw[ei] at rs;exact .inl ⟨i,rs.int_inv,h1.1,h1.2.1,h H0 B H1 σ γ _ R X Q env1 h1.2.2 (fun x H' hx S'=>q x H' hx (S1.trans S')) fun c H' hc S'=>qx c H' hc (S1.trans S')⟩
 ·rename_i x ex;rw[ex] at rs;exact .inr ⟨x,rs.str_inv,h1.1,h1.2.1,h H0 B H1 σ γ _ R X Q env1 h1.2.2 (fun x H' hx S'=>q x H' hx (S1.trans S')) fun c H' hc S'=>qx c H' hc (S1.trans S')⟩
 ·exact h1.elim
def pF (p:PTF):PTE:=fun γ R X=>p γ Str.empty (fun x=>R (.sh (.str x))) X
def se_f (h:SndF K mg E t p):SndE K mg E (ExcR.tF t) (pF p):=fun H0 B H σ γ R X Q env hp q qx=>
 h H0 B H σ γ _ _ X _ env hp (fun x H' hx S'=>q _ _ H' hx S' (.str x)) qx
end
open M
abbrev plD (f:List (Int×Int)):D:=.lst (f.map prD)
abbrev dD (q:Str×List Int):D:=.tup (.str q.1::q.2.map D.int)
abbrev vF:List Str:=["book","fields","wished"]
abbrev vO (C x b1 b2 b3:Addr) (bk:List (Str×List Int)) (fs ws:List (List (Int×Int))):O:=.ins x C vF [(b1,bk.map dD),(b2,fs.map plD),(b3,ws.map plD)]
abbrev vilD (C:Addr) (bk:List (Str×List Int)) (fs ws:List (List (Int×Int))):D:=.ins C vF [.lst (bk.map dD),.lst (fs.map plD),.lst (ws.map plD)]
def PH {α:Type} (f:α->D) (xs:List α) (x:α):atI ((xs++[x]).map f) (-1)=some (f x):=by
 refine Kx ?_;unfold atI ixN;rw[Yq (by omega),Yr (by rw[Yy,YZ];omega)];show(xs++[x])[_]?=some x;have e:((-1:Int)+((xs++[x]).length:Int)).toNat=xs.length:=by rw[Yy,YZ];omega
 rw[e,YN (Yx _),Vo];rfl
def UC (e:Option Str) (X:Str->Prop) (R:Prop):Prop:=match e with|some c=>X c|none=>R
def Pt (h:Int):Option Str:=if 1<=h/\h<=10 then none else some "BadHolder"
def K5:List (Int×Int)->Option Str
 | []=>none
 | q::r=>if ¬(1<=q.1/\q.1<=10) then some "BadHolder" else if ¬(1<=q.2/\q.2<=1000) then some "BadWidth" else K5 r
def Pp (ps:List (Int×Int)):Option Str:=if 40<ps.length then some "TooManyStrips" else K5 ps
def G1:∀{ps:List (Int×Int)},Field ps->K5 ps=none
 | [],_=>rfl
 | q::r,h=>by
  obtain⟨h1,h2,h3,h4⟩:=h q YK;unfold K5;rw[Yq (fun z=>z ⟨h1,h2⟩),Yq (fun z=>z ⟨h3,h4⟩)];exact G1 fun x hx=>h x (YF _ hx)
def Rc {ps:List (Int×Int)} (h:Field ps) (hl:ps.length<=40):Pp ps=none:=by
 unfold Pp;rw[Yq (by omega)];exact G1 h
def Nd (ps:List (Int×Int)) (p:Int):Option Str:=if p<1\/(ps.length:Int)<p then some "NoStrip" else none
def atP1 (ps:List (Int×Int)) (p:Int):Int×Int:=ps.getD (p-1).toNat (0,0)
def UI (ps:List (Int×Int)) (p h:Int):Option Str:=if p<1\/(ps.length:Int)<p then some "NoStrip" else if ¬(1<=h/\h<=10) then some "BadHolder" else if (atP1 ps p).1=h then some "OwnStrip" else none
def XX (ps:List (Int×Int)) (p h:Int):List (Int×Int):=ps.set (p-1).toNat (h,(atP1 ps p).2)
def Cd {ps:List (Int×Int)}{p:Int}{x:Int×Int} (h1:1<=p) (h2:p<=ps.length):cutD (ps.map prD) none (some (p-1))++[prD x]++cutD (ps.map prD) (some p) none=(ps.set (p-1).toNat x).map prD:=by
 rw[KW,KW,Ba ps (by omega),PR ps (by omega)];have e:p.toNat=(p-1).toNat+1:=by omega
 rw[e,List.set_eq_take_append_cons_drop,Yr (by omega),YD,YA,Vi];rfl
def X8 {ps:List (Int×Int)}{p:Int} (h1:1<=p) (h2:p<=ps.length):atI (ps.map prD) (p-1)=some (prD (atP1 ps p)):=by
 rw[Ko (by omega) (by omega)];unfold atP1;rw[Y1,Yo (show(p-1).toNat<ps.length by omega)];rfl
def Lj (ps:List (Int×Int)) (p h:Int):(XX ps p h).length=ps.length:=W2 ..
def Im {ps:List (Int×Int)}{p h:Int} (hF:Field ps) (e:UI ps p h=none):Field (XX ps p h):=by
 unfold UI at e;split at e
 ·cases e
 ·split at e
  ·cases e
  ·rename_i c1 c2;have hl:(p-1).toNat<ps.length:=by omega
   intro q hq;unfold XX at hq;rcases List.mem_or_eq_of_mem_set hq with hq|rfl
   ·exact hF q hq
   ·have:atP1 ps p∈ps:=by
     unfold atP1;rw[Y1,Yo hl];exact YH hl
    obtain⟨_,_,w1,w2⟩:=hF _ this
    have:=Wg.mp c2
    exact⟨this.1,this.2,w1,w2⟩
def HM (q:Int×Int) (r:List (Int×Int)):K5 (q::r)=if ¬(1<=q.1/\q.1<=10) then some ("BadHolder" : Str) else if ¬(1<=q.2/\q.2<=1000) then some ("BadWidth" : Str) else K5 r:=rfl
def EZ (q:Str×List Int):imm (dD q)=true:=by
 unfold dD imm imms;rw[Pi];unfold imm;rfl
def GS:∀(bk:List (Str×List Int)),imms (bk.map dD)=true
 | []=>by unfold List.map imms;rfl
 | q::r=>by
  rw[YA];unfold imms;rw[EZ,GS r];rfl
def Ni (q:Str×List Int):arg (dD q)=.sh (dD q):=by
 unfold arg;rw[EZ]
def MC {N:List Str}{q:Str×List Int}{ds:List D}:XE N (dD q::ds)=some (.sh (dD q))::(ds.map (fun d=>some (arg d))++List.replicate (N.length-(ds.length+1)) none):=by
 unfold XE;rw[YA,Ni];rfl
def SB {q:Str×List Int}{i:Nat} (h:i<q.2.length):atI (.str q.1::q.2.map D.int) (1+(i:Int))=some (.int q.2[i]):=by
 have e:(1+(i:Int))=((i+1:Nat):Int):=by omega
 rw[e];exact Ta (by rw[Wd,Yz,Yo h];rfl)
def T9 (ps:List (Int×Int)) (p h:Int):List Bool:=if p<1\/(ps.length:Int)<p then[true,true,false,false] else if ¬(1<=h/\h<=10) then[true,false,true,false] else if (atP1 ps p).1=h then[true,false,false,true] else[]
def Zex (ps:List (Int×Int)) (p h:Int):(UI ps p h=some ("NoStrip" : Str)/\T9 ps p h=[true,true,false,false])\/(UI ps p h=some ("BadHolder" : Str)/\T9 ps p h=[true,false,true,false])\/(UI ps p h=some ("OwnStrip" : Str)/\T9 ps p h=[true,false,false,true])\/
  (UI ps p h=none/\T9 ps p h=[]/\1<=p/\p<=ps.length):=by
 unfold UI T9;by_cases c:p<1\/(ps.length:Int)<p
 ·rw[Yr c,Yr c];exact .inl ⟨rfl,rfl⟩
 ·rw[Yq c,Yq c];by_cases c2:1<=h/\h<=10
  ·rw[Yq (Wg.mpr c2),Yq (Wg.mpr c2)];by_cases c3:(atP1 ps p).1=h
   ·rw[Yr c3,Yr c3];exact .inr (.inr (.inl ⟨rfl,rfl⟩))
   ·rw[Yq c3,Yq c3];exact .inr (.inr (.inr ⟨rfl,rfl,by omega,by omega⟩))
  ·rw[Yr c2,Yr c2];exact .inr (.inl ⟨rfl,rfl⟩)
def UE (ps:List (Int×Int)) (p w:Int):Option Str:=if p<1\/(ps.length:Int)<p then some "NoStrip" else if w<1\/(atP1 ps p).2<=w then some "BadPart" else if 40<=ps.length then some "TooManyStrips" else none
def UO (ps:List (Int×Int)) (p w:Int):List (Int×Int):=ps.take (p-1).toNat++[((atP1 ps p).1,w),((atP1 ps p).1,(atP1 ps p).2-w)]++ps.drop p.toNat
def To (ps:List (Int×Int)) (p w:Int):List Bool:=if p<1\/(ps.length:Int)<p then[true,true,false,false] else if w<1\/(atP1 ps p).2<=w then[true,false,true,false] else if 40<=ps.length then[true,false,false,true] else[]
def R8 (ps:List (Int×Int)) (p w:Int):(UE ps p w=some ("NoStrip" : Str)/\To ps p w=[true,true,false,false])\/(UE ps p w=some ("BadPart" : Str)/\To ps p w=[true,false,true,false])\/(UE ps p w=some ("TooManyStrips" : Str)/\To ps p w=[true,false,false,true])\/
  (UE ps p w=none/\To ps p w=[]/\1<=p/\p<=ps.length/\1<=w/\w<(atP1 ps p).2/\ps.length<40):=by
 unfold UE To;by_cases c:p<1\/(ps.length:Int)<p
 ·rw[Yr c,Yr c];exact .inl ⟨rfl,rfl⟩
 ·rw[Yq c,Yq c];by_cases c2:w<1\/(atP1 ps p).2<=w
  ·rw[Yr c2,Yr c2];exact .inr (.inl ⟨rfl,rfl⟩)
  ·rw[Yq c2,Yq c2];by_cases c3:40<=ps.length
   ·rw[Yr c3,Yr c3];exact .inr (.inr (.inl ⟨rfl,rfl⟩))
   ·rw[Yq c3,Yq c3];exact .inr (.inr (.inr ⟨rfl,rfl,by omega,by omega,by omega,by omega,by omega⟩))
def Nm {ps:List (Int×Int)}{p:Int} (h1:1<=p) (h2:p<=ps.length):atP1 ps p∈ps:=by
 have hl:(p-1).toNat<ps.length:=by omega
 unfold atP1;rw[Y1,Yo hl];exact YH hl
def GP {ps:List (Int×Int)}{p w:Int} (h1:1<=p):cutD (ps.map prD) none (some (p-1))++[prD ((atP1 ps p).1,w),prD ((atP1 ps p).1,(atP1 ps p).2-w)]++cutD (ps.map prD) (some p) none=(UO ps p w).map prD:=by
 rw[KW,KW,Ba ps (by omega),PR ps (by omega)];unfold UO;rw[YD,YD];rfl
def Ij {ps:List (Int×Int)}{p w:Int} (h1:1<=p) (h2:p<=ps.length):(UO ps p w).length=ps.length+1:=by
 unfold UO;rw[Yy,Yy,Wr,QI];simp;omega
def MS {ps:List (Int×Int)}{p w:Int} (hF:Field ps) (h1:1<=p) (h2:p<=ps.length) (h3:1<=w) (h4:w<(atP1 ps p).2):Field (UO ps p w):=by
 obtain⟨a1,a2,a3,a4⟩:=hF _ (Nm h1 h2);intro q hq;unfold UO at hq;rcases YJ.mp hq with hq|hq
 ·rcases YJ.mp hq with hq|hq
  ·exact hF q (QX hq)
  ·rcases Y5.mp hq with rfl|hq
   ·exact⟨a1,a2,h3,by show w<=1000;omega⟩
   ·rw[Y0] at hq;subst hq;exact⟨a1,a2,by show 1<=_-w;omega,by show _-w<=1000;omega⟩
 ·exact hF q (List.mem_of_mem_drop hq)
def De:∀{a b:List Int},sl a b->¬sl b a
 | [],_,h,_=>by cases h
 | _::_,[],h,_=>by cases h
 | a::r,b::t,h,k=>by
  rcases h with h|⟨e,h⟩
  ·rcases k with k|⟨e,_⟩<;>omega
  ·rcases k with k|⟨_,k⟩
   ·omega
   ·exact De h k
def Best.uniq {ws:List (Int×Int)}{c:Int->Int->Int}{ms o p:List Int} (h:Best ws c ms o) (k:Best ws c ms p):o=p:=by
 have e:oc c p=oc c o:=by
  have h1:=h.le p k.perm k.keeps;have h2:=k.le o h.perm h.keeps;omega
 rcases h.first p k.perm k.keeps e with z|z
 ·exact z
 ·rcases k.first o h.perm h.keeps e.symm with y|y
  ·exact y.symm
  ·exact absurd y (De z)
def U2 (ws:List (Int×Int)) (a b:Int):Option Str:=if ¬(1<=a/\a<=10) then some "BadHolder" else if ¬(1<=b/\b<=10) then some "BadHolder" else if a=b then some "LikeHolders" else if (a,b)∈ws then some "WishStands" else if 20<=ws.length then some "TooManyWishes" else none
def Ux (ws:List (Int×Int)) (a b:Int):Option Str:=if (a,b)∈ws then none else some "NoWish"
def XN (ws:List (Int×Int)) (a b:Int):List (Int×Int):=ws.filter fun q=>!decide (q=(a,b))
def uniE (ps:List (Int×Int)) (p:Int):Option Str:=if p<1\/(ps.length:Int)<=p then some "NoStrip" else if ¬(atP1 ps p).1=(atP1 ps (p+1)).1 then some "UnlikeHolders" else if 1000<(atP1 ps p).2+(atP1 ps (p+1)).2 then some "TooWide" else none
def uniL (ps:List (Int×Int)) (p:Int):List (Int×Int):=ps.take (p-1).toNat++[((atP1 ps p).1,(atP1 ps p).2+(atP1 ps (p+1)).2)]++ps.drop (p+1).toNat
def Gp {ps:List (Int×Int)}{p:Int} (h1:1<=p):cutD (ps.map prD) none (some (p-1))++[prD ((atP1 ps p).1,(atP1 ps p).2+(atP1 ps (p+1)).2)]++cutD (ps.map prD) (some (p+1)) none=(uniL ps p).map prD:=by
 rw[KW,KW,Ba ps (by omega),PR ps (by omega)];unfold uniL;rw[YD,YD];rfl
def Zah {ps:List (Int×Int)}{p:Int} (h1:1<=p) (h2:p<ps.length):(uniL ps p).length+1=ps.length:=by
 unfold uniL;rw[Yy,Yy,Wr,QI];simp;omega
def Rh {ps:List (Int×Int)}{p:Int} (hF:Field ps) (e:uniE ps p=none):Field (uniL ps p):=by
 unfold uniE at e;split at e
 ·cases e
 split at e
 ·cases e
 split at e
 ·cases e
 rename_i c1 c2 c3;obtain⟨a1,a2,a3,a4⟩:=hF _ (Nm (ps:=ps) (p:=p) (by omega) (by omega));obtain⟨b1,b2,b3,b4⟩:=hF _ (Nm (ps:=ps) (p:=p+1) (by omega) (by omega));intro q hq;unfold uniL at hq;rcases YJ.mp hq with hq|hq
 ·rcases YJ.mp hq with hq|hq
  ·exact hF q (QX hq)
  ·rw[Y0] at hq;subst hq;exact⟨a1,a2,by show 1<=_+_;omega,by show _+_<=1000;omega⟩
 ·exact hF q (List.mem_of_mem_drop hq)
def HI {ws:List (Int×Int)}{a b:Int} (h:XW ws) (e:U2 ws a b=none):XW (ws++[(a,b)]):=by
 unfold U2 at e;split at e
 ·cases e
 split at e
 ·cases e
 split at e
 ·cases e
 split at e
 ·cases e
 split at e
 ·cases e
 rename_i c1 c2 c3 c4 c5;obtain⟨h1,h2,h3⟩:=h;have k1:=Wg.mp c1;have k2:=Wg.mp c2;refine⟨by rw[Yy,YZ];omega,?_,fun q hq=>?_⟩
 ·rw[W8];exact⟨h2,by simp,fun x hx y hy z=>by rw[Y0] at hy;subst hy;exact c4 (z▸hx)⟩
 ·rcases YJ.mp hq with hq|hq
  ·exact h3 q hq
  ·rw[Y0] at hq;subst hq;exact⟨⟨k1.1,k1.2,k2.1,k2.2⟩,c3⟩
def R4 {ws:List (Int×Int)}{a b:Int} (h:XW ws):XW (XN ws a b):=
 ⟨Y7 (Wk _ _) h.1,h.2.1.filter _,fun q hq=>h.2.2 q (YO.mp hq).1⟩
def Zd0:XW []:=⟨by decide,Qc,fun q hq=>by cases hq⟩
def Zb4 (m:List Int) (k:Int):Int:=1+(k*m.getD 1 0+m.getD 2 0) % 10
def uniK (ps:List (Int×Int)) (p:Int):List Bool:=if p<1\/(ps.length:Int)<=p then[true,true,false,false] else if ¬(atP1 ps p).1=(atP1 ps (p+1)).1 then[true,false,true,false] else if 1000<(atP1 ps p).2+(atP1 ps (p+1)).2 then[true,false,false,true] else[]
def GO (ps:List (Int×Int)) (p:Int):(uniE ps p=some ("NoStrip" : Str)/\uniK ps p=[true,true,false,false])\/(uniE ps p=some ("UnlikeHolders" : Str)/\uniK ps p=[true,false,true,false])\/(uniE ps p=some ("TooWide" : Str)/\uniK ps p=[true,false,false,true])\/
  (uniE ps p=none/\uniK ps p=[]/\1<=p/\p<ps.length):=by
 unfold uniE uniK;by_cases c:p<1\/(ps.length:Int)<=p
 ·rw[Yr c,Yr c];exact .inl ⟨rfl,rfl⟩
 ·rw[Yq c,Yq c];by_cases c2:(atP1 ps p).1=(atP1 ps (p+1)).1
  ·rw[Yq (Wg.mpr c2),Yq (Wg.mpr c2)];by_cases c3:1000<(atP1 ps p).2+(atP1 ps (p+1)).2
   ·rw[Yr c3,Yr c3];exact .inr (.inr (.inl ⟨rfl,rfl⟩))
   ·rw[Yq c3,Yq c3];exact .inr (.inr (.inr ⟨rfl,rfl,by omega,by omega⟩))
  ·rw[Yr c2,Yr c2];exact .inr (.inl ⟨rfl,rfl⟩)
def AC {ps:List (Int×Int)}{p:Int} (h1:1<=p) (h2:p<ps.length):atI (ps.map prD) p=some (prD (atP1 ps (p+1))):=by
 have:=X8 (ps:=ps) (p:=p+1) (by omega) (by omega)
 rwa[show p+1-1=p by omega] at this
abbrev d3 (k:Str) (a b:Int):D:=.tup [.str k,.int a,.int b]
def Mg {ps:List (Int×Int)}{p:Int} (e:uniE ps p=none):(atP1 ps p).1=(atP1 ps (p+1)).1:=by
 unfold uniE at e;split at e
 ·cases e
 split at e
 ·cases e
 rename_i c;exact Wg.mp c
end Pu
namespace M
open PySem PySem.Spec PyProof.Rows L2 Own Pu
def tpL (y:Int):List (Int×Int)->Int
 | []=>0
 | p::l=>(if p.1=y then p.2 else 0)+tpL y l
def pcL (x y:Int):List (Int×Int)->Int
 | []=>0
 | p::l=>(if x≠y/\p.1=y then p.2*tpL x l else 0)+pcL x y l
def S8 (y:Int) (p:Int×Int):∀l:List (Int×Int),tpL y (l++[p])=tpL y l+(if p.1=y then p.2 else 0)
 | []=>by simp[tpL]
 | q::l=>by
  rw[WC];unfold tpL;rw[S8 y p l];omega
def Dw (x y:Int) (p:Int×Int):∀l:List (Int×Int),pcL x y (l++[p])=pcL x y l+(if x≠y/\p.1=x then tpL y l*p.2 else 0)
 | []=>by simp[pcL,tpL]
 | q::l=>by
  rw[WC];unfold pcL;rw[Dw x y p l,S8];simp only[tpL];by_cases h:x≠y
  ·by_cases h1:q.1=y
   ·by_cases h2:p.1=x
    ·rw[Yr ⟨h,h1⟩,Yr h2,Yr ⟨h,h2⟩,Yr h1,Yr ⟨h,h1⟩,Yr ⟨h,h2⟩,Int.mul_add,Int.add_mul];omega
    ·rw[Yr ⟨h,h1⟩,Yq h2,Yq (fun z=>h2 z.2),Yr ⟨h,h1⟩,Yq (fun z=>h2 z.2),Qv];omega
   ·by_cases h2:p.1=x
    ·rw[Yq (fun z=>h1 z.2),Yr ⟨h,h2⟩,Yq h1,Yq (fun z=>h1 z.2),Yr ⟨h,h2⟩];simp only[Int.zero_add]
    ·rw[Yq (fun z=>h1 z.2),Yq (fun z=>h2 z.2),Yq (fun z=>h1 z.2),Yq (fun z=>h2 z.2)];omega
  ·rw[Yq (fun z=>h z.1),Yq (fun z=>h z.1),Yq (fun z=>h z.1),Yq (fun z=>h z.1)];omega
def Ey (ps:List (Int×Int)) (y:Int):∀n,n<=ps.length->tpM ps y n=tpL y (ps.take n)
 | 0,_=>by simp[tpM,tpL]
 | n+1,h=>by
  unfold tpM;rw[Ey ps y n (by omega),Wf (by omega),S8,Y1,Yo (by omega)];rfl
def CQ (ps:List (Int×Int)) (x y:Int):∀n,n<=ps.length->pcM ps x y n=pcL x y (ps.take n)
 | 0,_=>by simp[pcM,pcL]
 | n+1,h=>by
  unfold pcM;rw[CQ ps x y n (by omega),Wf (by omega),Dw,Ey ps y n (by omega),Y1,Yo (by omega)];rfl
def Il (c:Int->Int->Int):∀o:List Int,oc c o.reverse=oc (fun x y=>c y x) o
 | []=>rfl
 | a::r=>by
  rw[List.reverse_cons,N8,Il c r,PD (List.reverse_perm r)];simp only[oc];omega
def Gf (ps:List (Int×Int)):∀o:List Int,oc (fun x y=>pcM ps x y ps.length) o=ordM ps ps.length o
 | []=>rfl
 | a::r=>by
  unfold oc ordM;rw[Gf ps r]
def D6 {ps:List (Int×Int)}{o:List Int} (hF:Field ps) (h:o.Perm (JF ps)):oc (fun x y=>pcM ps x y ps.length) o=priM ps o ps.length:=by
 rw[Gf];refine DK (h.nodup_iff.mpr ((KB ps).imp (fun h=>Vp h))) ps.length fun j hj=>?_;rw[Y1,Yo hj];exact h.mem_iff.mpr ((BM hF).mpr (YT.mpr ⟨_,YH hj,rfl⟩))
def Gy {ps:List (Int×Int)}{o:List Int} (hF:Field ps) (h:o.Perm (JF ps)):∀p∈ps,p.1∈o:=fun p hp=>h.mem_iff.mpr ((BM hF).mpr (YT.mpr ⟨p,hp,rfl⟩))
end M
namespace Pu
open PySem PySem.Spec PyProof.Rows L2 Own
section
variable {K:Za}{mg:Str->Option Value}{E:L2.St->XK}
def rNeT (K:Za):R2:=fun x y H Q=>∃(p q:Addr) (xs ys:List V),x=.ref p/\y=.ref q/\SqT K H p xs/\SqT K H q ys/\xs.all Xe=true/\ys.all Xe=true/\Q (.bl (!eqL xs ys)) H
def Ex {X:Cx} (hu:X.A.units<cLine) (hK:X.K=K:=by rfl):OpR X (compareOp .NotEq) (rNeT K):=by
 subst hK;intro pins s σ H x y v u Q I rx ry h;obtain⟨p,q,xs,ys,rfl,rfl,hp,hq,f1,f2,k⟩:=h;obtain rfl:v=Value.ref p:=rx;obtain rfl:u=Value.ref q:=ry;obtain⟨us,r1,p1,_⟩:=I.tuple hp;obtain⟨ws,r2,p2,_⟩:=I.tuple hq;have l1:=r1.length;have l2:=r2.length;refine SeqAt.RcNeAt.tuples p1 p2 hu (fun j h1 h2=>Sk r1 r2 f1 f2 j h1 h2) _ _ _ _ ⟨.bl (!eqL xs ys),H,I,?_,k⟩;show _=Value.bool (!eqL xs ys);unfold eqL;rw[Y8,Y8,←l1,←l2];by_cases e:xs.length=ys.length
 ·rw[Ys e,Qi,←e,Nat.min_self,beq_self_eq_true,Bool.and_true]
 ·rw[YB e,Q7,WA.mpr e,Bool.and_false]
def fNeT:S->S->(S->Prop)->Prop:=fun x y R=>∃xs ys:List Int,x.d=.tup (xs.map D.int)/\y.d=.tup (ys.map D.int)/\R (.sh (.bl (!decide (xs=ys))))
def FY {ta tb:TE}{a b:PTE} (ha:SndE K mg E ta a) (hb:SndE K mg E tb b):SndE K mg E (tOp (rNeT K) ta tb) (p2 a b fNeT):=by
 refine se_2 ha hb fun H0 H H2 Z x y v u R Q s0 s1 hm tx ty h q=>?_;obtain⟨xs,ys,e1,e2,hR⟩:=h;have rx:=tx.rp s0;have ry:=ty.rp s0;rw[e1] at rx;rw[e2] at ry;obtain⟨p,us,rfl,hp,r1⟩:=Rp.tup_inv rx;obtain⟨p',ws,rfl,hp',r2⟩:=Rp.tup_inv ry;rw[r1.ints] at hp;rw[r2.ints] at hp';refine⟨p,p',_,_,rfl,rfl,SqT.of hp,SqT.of hp',K7 _,K7 _,?_⟩;rw[F0];exact q _ _ H2 hR (Same.refl _) (.bl _)
def A5:List S->(S->Prop)->Prop
 | [s],R=>(match s.d with | .int i=>R (.sh (.int i)) | .bl k=>R (.sh (.int (if k then 1 else 0)))|_=>False)
 | _,_=>False
def Hl {ta:TA}{r:PTA} (hr:SndA K mg E ta r):SndE K mg E (tCB (fun xs H Q=>(∃i,xs=[.int i]/\Q (.int i) H)\/∃k,xs=[.bl k]/\Q (.int (if k then 1 else 0)) H) ta) (pCB A5 r):=by
 refine XF hr fun H0 H H1 Z ss vs R Q s0 s1 hm tv h q=>?_;unfold A5 at h;split at h
 ·rename_i s;obtain⟨v,rfl,t1⟩:=tv.one_inv;have rv:=t1.rp s0;split at h
  ·rename_i i e;rw[e] at rv;exact .inl ⟨i,by rw[rv.int_inv],q _ _ H1 h (Same.refl _) (.int _)⟩
  ·rename_i k e;rw[e] at rv;exact .inr ⟨k,by rw[rv.bl_inv],q _ _ H1 h (Same.refl _) (.int _)⟩
  ·exact h.elim
 ·exact h.elim
def OS (p q:Int×Int):decide ([p.1,p.2]=[q.1,q.2])=decide (p=q):=by
 by_cases h:p=q
 ·rw[h,Ys rfl,Ys rfl]
 ·rw[YB h,YB];intro z;simp only[Qm,and_true] at z;exact h (Prod.ext z.1 z.2)
def Hf {p q:Int×Int}{R:S->Prop} (h:R (.sh (.bl (!decide (p=q))))):fNeT (.sh (prD p)) (.sh (prD q)) R:=by
 refine⟨[p.1,p.2],[q.1,q.2],rfl,rfl,?_⟩
 have e:decide ([p.1,p.2]=[q.1,q.2])=decide (p=q):=by
  by_cases h:p=q
  ·rw[h,Ys rfl,Ys rfl]
  ·rw[YB h,YB];intro z;simp only[Qm,and_true] at z;exact h (Prod.ext z.1 z.2)
 rw[e];exact h
end
structure DI (K:Za) (x:Str) (st:Stmt):Prop where
 ex:∃f fd,PySem.W.nsIn K mainGlobals x=some (some (.ref f))/\Fun K x x st f fd
structure MI (K:Za) (C:Addr) (m q:Str) (st:Stmt):Prop where
 ex:∃f fd,PySem.W.findIn K (.ref C) m=some (some (.ref f))/\PySem.W.isFn K (.ref f)=true/\Fun K m q st f fd
section
variable {K:Za}{h:Heap}{mg:Str->Option Value}
def di {x:Str}{st:Stmt}{f:Addr}{oc:Value}{od an:Option Addr}{osl:Array (Option Value)}{kV doc pm cdv ct:Value} (a:PySem.W.nsIn K mainGlobals x=some (some (.ref f))) (l:K.lookup f=some ⟨oc,od,.func (PySem.W.fnOf x x (XC st) (UH st) (J5 st) .none kV doc pm an cdv ct),osl⟩)
  (c:PySem.W.codeIn K cdv x=true) (k:PySem.W.keepIn K (.ref f)=true):DI K x st:=⟨f,_,a,Ft l c k⟩
def mi {C:Addr}{m q:Str}{st:Stmt}{f:Addr}{oc:Value}{od an:Option Addr}{osl:Array (Option Value)}{kV doc pm cdv ct:Value} (a:PySem.W.findIn K (.ref C) m=some (some (.ref f))) (i:PySem.W.isFn K (.ref f)=true) (l:K.lookup f=some ⟨oc,od,.func (PySem.W.fnOf m q (XC st) (UH st) (J5 st) .none kV doc pm an cdv ct),osl⟩)
  (c:PySem.W.codeIn K cdv q=true) (k:PySem.W.keepIn K (.ref f)=true):MI K C m q st:=⟨f,_,a,i,Ft l c k⟩
def DI.d {x:Str}{st:Stmt}{ps:List Str} (D:DI K x st) (X:K.In h) (G0:h.Ns mainGlobals mg)
  (b:∀(kV doc pm:Value) (an:Option Addr) (cdv ct:Value) (us:List Value),us.length=ps.length->bindArgs (PySem.W.fnOf x x (XC st) (UH st) (J5 st) .none kV doc pm an cdv ct) ⟨us,[]⟩=pure (ps.zip us)):Def K mg x st ps:=
 let ⟨_,_,a,F⟩:=D.ex
 ⟨_,_,F,Wv X G0 a,F.binds b⟩
def MI.d {C C':Addr}{m q:Str}{st:Stmt}{ps:List Str} (D:MI K C m q st) (e:C'=C)
  (b:∀(kV doc pm:Value) (an:Option Addr) (cdv ct:Value) (us:List Value),us.length=ps.length->bindArgs (PySem.W.fnOf m q (XC st) (UH st) (J5 st) .none kV doc pm an cdv ct) ⟨us,[]⟩=pure (ps.zip us)):DefM K (Meth K C' m) m q st ps:=
 let ⟨_,_,a,i,F⟩:=D.ex
 ⟨_,_,F,by rw[e];exact⟨a,i,F.kp⟩,F.binds b⟩
def MI.i {C C':Addr}{q:Str}{st:Stmt}{ps:List Str} (D:MI K C "__init__" q st) (e:C'=C) (mk:PySem.W.makesIn K C=true) (kc:PySem.W.keepIn K (.ref C)=true)
  (b:∀(kV doc pm:Value) (an:Option Addr) (cdv ct:Value) (us:List Value),us.length=ps.length->bindArgs (PySem.W.fnOf "__init__" q (XC st) (UH st) (J5 st) .none kV doc pm an cdv ct) ⟨us,[]⟩=pure (ps.zip us)):DefM K (Mk K C') "__init__" q st ps:=
 let ⟨_,_,a,i,F⟩:=D.ex
 ⟨_,_,F,by rw[e];exact⟨mk,a,i,kc⟩,F.binds b⟩
end
def fs {N P:List Str}{sc:Scope} (h1:sc.kind=.function:=by rfl) (h2:sc.isCoroutine=false:=by rfl) (h3:sc.isGenerator=false:=by rfl) (h4:N.Nodup:=by decide +kernel) (h5:N.take P.length=P:=by rfl) (h6:∀x∈P,sc.names.lookup x=some .local\/sc.names.lookup x=some .cell:=by decide +kernel) (h7:∀y∈sc.names,y.2≠.free:=by decide +kernel):FnScope N P sc:=⟨h1,h2,h3,h4,h5,h6,h7⟩
def pz {X:Cx}{pos:Pos}{x:Str}{e:Expr}{te:TE}{pos':Pos} (i:Nat) (hN:X.N.Nodup) (he:PE X e te) (hi:X.N[i]?=some x:=by rfl) (hx:Loc X.env.scope x:=by first|exact Or.inl rfl|exact Or.inr rfl) (hs:swapsWith e (some (.Name x pos')) pos.line X.env=pure false:=by rfl) (hf:X.fn x=true\/X.env.scope.names.lookup x=some .local:=by first|exact .inl rfl|exact .inr rfl|assumption) :
  PS X (.Assign [.Name x pos'] e pos) (tAsg te (P3 i)):=Zcn hN hi hx he hs hf
section
variable {K:Za}{mg:Str->Option Value}{E:L2.St->XK}{H0 H H1 H':Hp}{B Z Z':Addr->Prop}{σ:L2.St}{γ:Γ}
def EnvR.named {i:Nat}{a:Addr}{ds:List D} (env:EnvR K H0 B H σ γ) (hi:γ[i]?=some (some (.own (.lst ds)))) (ha:σ[i]?=some (some (.ref a))):EnvR K H0 B H σ (γ.set i (some (.own (.lsA a ds))))/\Fr B H σ γ H σ (γ.set i (some (.own (.lsA a ds)))):=by
 obtain⟨v,hv,b,rfl,hb0,us,hb,rb⟩:=env.slot i _ hi;rw[ha] at hv;cases hv
 have hz:∀b,zof B (γ.set i (some (.own (.lsA a ds)))) σ b->zof B γ σ b:=fun b z=>by
  rcases z with z|⟨j,fs,a',e1,e2,e3⟩
  ·exact .inl z
  ·rcases Uo e1 with⟨ej,q,_⟩|⟨_,e⟩
   ·subst ej;cases q
    rw[ha] at e2;cases e2
    exact .inr ⟨j,_,a,hi,ha,e3⟩
   ·exact .inr ⟨j,fs,a',e,e2,e3⟩
 exact env.change (o:=.lst ds) (o':=.lsA a ds) hi ha (fun _ _ h _=>h) (fun b h=>by rw[show b=a from h,hb];trivial) (fun b h=>.inl h) ⟨rfl,us,hb,Rps.mono (JM (Same.refl _) fun b _ _ z y=>z (hz b y)) rb⟩
def pNm (i:Nat) (p:PTS):PTS:=fun R γ=>match γ[i]? with
 | some (some (.own (.lst ds)))=>∀a,p R (γ.set i (some (.own (.lsA a ds))))
 | _=>p R γ
def Po (i:Nat) {t:TS}{p:PTS} (hp:SndS K mg E t p):SndS K mg E t (pNm i p):=by
 intro H0 B H σ γ R D hB env h e;unfold pNm at h;split at h
 ·rename_i ds hi;obtain⟨v,hv,b,rfl,hb0,us,hb,rb⟩:=env.slot i _ hi;obtain⟨e1,f1⟩:=env.named hi hv;exact hp H0 B H σ _ R D hB e1 (h b) (e.from f1)
 ·exact hp H0 B H σ γ R D hB env h e
def EnvR.change2 {i j:Nat}{a1 a2:Addr}{o1 o1' o2 o2':O} (E:EnvR K H0 B H σ γ) (hij:i≠j) (hi:γ[i]?=some (some (.own o1))) (hj:γ[j]?=some (some (.own o2))) (ha1:σ[i]?=some (some (.ref a1))) (ha2:σ[j]?=some (some (.ref a2)))
  (hH:∀b x,H b=some x->¬o1.adr a1 b->¬o2.adr a2 b->H' b=some x) (hm:∀b,o1.adr a1 b\/o2.adr a2 b->Mut (H' b)) (n1:∀b,o1'.adr a1 b->o1.adr a1 b\/H b=none) (n2:∀b,o2'.adr a2 b->o2.adr a2 b\/H b=none) (ap:∀b,o1'.adr a1 b->¬o2'.adr a2 b)
  (r1:OR K (Pu.off (zof B ((γ.set i (some (.own o1'))).set j (some (.own o2'))) σ) H') H' a1 o1') (r2:OR K (Pu.off (zof B ((γ.set i (some (.own o1'))).set j (some (.own o2'))) σ) H') H' a2 o2') :
  EnvR K H0 B H' σ ((γ.set i (some (.own o1'))).set j (some (.own o2')))/\Fr B H σ γ H' σ ((γ.set i (some (.own o1'))).set j (some (.own o2'))):=by
 generalize eg:(γ.set i (some (S.own o1'))).set j (some (.own o2'))=γ2 at r1 r2 ⊢
 have get:∀(k:Nat) (s:S),γ2[k]?=some (some s)->(k=j/\s=.own o2')\/(k=i/\k≠j/\s=.own o1')\/(k≠i/\k≠j/\γ[k]?=some (some s)):=fun k s h=>by
  rw[←eg] at h;rcases Uo h with⟨e1,e2,_⟩|⟨e1,e2⟩
  ·exact .inl ⟨e1,(Y2 e2).symm⟩
  ·rcases Uo e2 with⟨f1,f2,_⟩|⟨f1,f2⟩
   ·exact .inr (.inl ⟨f1,e1,(Y2 f2).symm⟩)
   ·exact .inr (.inr ⟨f1,e1,f2⟩)
 obtain⟨v1,q1,x1,rfl,h1,k1⟩:=E.slot i _ hi;rw[ha1] at q1;cases q1
 obtain⟨v2,q2,x2,rfl,h2,k2⟩:=E.slot j _ hj;rw[ha2] at q2;cases q2
 have za:∀b,o1.adr a1 b\/o2.adr a2 b->zof B γ σ b:=fun b hb=>hb.elim (fun hb=>.inr ⟨i,o1,a1,hi,ha1,hb⟩) fun hb=>.inr ⟨j,o2,a2,hj,ha2,hb⟩
 have hz:∀b x,H b=some x->zof B γ2 σ b->zof B γ σ b:=fun b x hx z=>by
  rcases z with z|⟨k,fs,a',e1,e2,e3⟩
  ·exact .inl z
  ·rcases get k _ e1 with⟨ek,es⟩|⟨ek,_,es⟩|⟨_,_,e⟩
   ·subst ek;cases es;rw[ha2] at e2;cases e2;rcases n2 b e3 with w|w
    ·exact za b (.inr w)
    ·rw[w] at hx;cases hx
   ·subst ek;cases es;rw[ha1] at e2;cases e2;rcases n1 b e3 with w|w
    ·exact za b (.inl w)
    ·rw[w] at hx;cases hx
   ·exact .inr ⟨k,fs,a',e,e2,e3⟩
 have hH':∀b x,H b=some x->¬(o1.adr a1 b\/o2.adr a2 b)->H' b=some x:=fun b x hx n=>hH b x hx (fun z=>n (.inl z)) fun z=>n (.inr z)
 have S1:Same (Pu.off (zof B γ σ) H) (Pu.off (zof B γ2 σ) H'):=fun b x h=>by
  obtain⟨q1,q2⟩:=X9 h;exact Uu (hH' b x q1 fun k=>q2 (za b k)) fun z=>q2 (hz b x q1 z)
 have old:∀(k:Nat) (ds:O) (a b:Addr),γ[k]?=some (some (.own ds))->σ[k]?=some (some (.ref a))->ds.adr a b->∃o,H b=some o:=fun k ds a b e1 e2 e3=>by
  obtain⟨u,q1,a',q2,_,q3⟩:=E.slot k _ e1;rw[e2] at q1;cases q1
  cases q2
  exact Km (q3.mut b e3)
 have apart1:∀(k:Nat) (ds:O) (a b:Addr),k≠i->γ[k]?=some (some (.own ds))->σ[k]?=some (some (.ref a))->ds.adr a b->¬o1'.adr a1 b:=fun k ds a b nk e1 e2 e3 w=>by
  rcases n1 b w with w|w
  ·exact nk (E.own k i a a1 ds o1 b e1 hi e2 ha1 e3 w)
  ·obtain⟨u,hu⟩:=old k ds a b e1 e2 e3;rw[w] at hu;cases hu
 have apart2:∀(k:Nat) (ds:O) (a b:Addr),k≠j->γ[k]?=some (some (.own ds))->σ[k]?=some (some (.ref a))->ds.adr a b->¬o2'.adr a2 b:=fun k ds a b nk e1 e2 e3 w=>by
  rcases n2 b w with w|w
  ·exact nk (E.own k j a a2 ds o2 b e1 hj e2 ha2 e3 w)
  ·obtain⟨u,hu⟩:=old k ds a b e1 e2 e3;rw[w] at hu;cases hu
 refine⟨⟨fun b x h=>?_,by rw[←eg,W2,W2];exact E.len,fun b hb=>?_,fun k l x x' fs fs' b e1 e2 e3 e4 e5 e6=>?_,fun k s h=>?_⟩,fun b x h z=>⟨?_,fun y=>z (hz b x h y)⟩⟩
 ·exact hH' b x (E.same b x h) fun k=>by
   rcases k with k|k
   ·rw[h1 b k] at h;cases h
   ·rw[h2 b k] at h;cases h
 ·by_cases k:o1.adr a1 b\/o2.adr a2 b
  ·exact hm b k
  ·have:=E.bm b hb
   obtain⟨x,hx⟩:=Km this;rw[hH' b x hx k,←hx];exact this
 ·rcases get k _ e1 with⟨ek,es⟩|⟨ek,nk,es⟩|⟨nk,nk',e⟩<;>rcases get l _ e2 with⟨el,et⟩|⟨el,nl,et⟩|⟨nl,nl',e'⟩
  ·rw[ek,el]
  ·subst ek el;cases es;cases et;rw[ha2] at e3;cases e3;rw[ha1] at e4;cases e4;exact absurd e5 (ap b e6)
  ·subst ek;cases es;rw[ha2] at e3;cases e3;exact absurd e5 (apart2 l fs' x' b nl' e' e4 e6)
  ·subst ek el;cases es;cases et;rw[ha1] at e3;cases e3;rw[ha2] at e4;cases e4;exact absurd e6 (ap b e5)
  ·rw[ek,el]
  ·subst ek;cases es;rw[ha1] at e3;cases e3;exact absurd e5 (apart1 l fs' x' b nl e' e4 e6)
  ·subst el;cases et;rw[ha2] at e4;cases e4;exact absurd e6 (apart2 k fs x b nk' e e3 e5)
  ·subst el;cases et;rw[ha1] at e4;cases e4;exact absurd e6 (apart1 k fs x b nk e e3 e5)
  ·exact E.own k l x x' fs fs' b e e' e3 e4 e5 e6
 ·rcases get k s h with⟨ek,es⟩|⟨ek,_,es⟩|⟨nk,nk',e⟩
  ·subst ek es;exact⟨_,ha2,a2,rfl,fun b hb=>(n2 b hb).elim (h2 b) fun w=>E.same.free w,r2⟩
  ·subst ek es;exact⟨_,ha1,a1,rfl,fun b hb=>(n1 b hb).elim (h1 b) fun w=>E.same.free w,r1⟩
  ·obtain⟨v,q1,q2⟩:=E.slot k s e;refine⟨v,q1,?_⟩;cases s with
   | bor d=>exact q2
   | sh d=>exact Rp.mono S1 q2
   | own fs=>
    obtain⟨x,rfl,e3,e4⟩:=q2;exact⟨x,rfl,e3,e4.mono S1 fun b hb y e2=>hH b y e2 (fun w=>nk (E.own k i x a1 fs o1 b e hi q1 ha1 hb w)) fun w=>nk' (E.own k j x a2 fs o2 b e hj q1 ha2 hb w)⟩
   | view ds=>exact q2
   | tmp d=>exact q2
 ·exact hH' b x h fun k=>z (za b k)
abbrev Pw2:=O->O->List S->(O->O->D->Prop)->(O->O->Str->Prop)->Prop
def two (o1 o2:O) (a1 a2:Addr):Addr->Prop:=fun b=>o1.adr a1 b\/o2.adr a2 b
structure After2 (K:Za) (B:Addr->Prop) (H:Hp) (a1 a2:Addr) (o1 o2 o1' o2':O) (H':Hp):Prop where
 same:Same (off (two o1 o2 a1 a2) H) H'
 old1:∀b,o1.adr a1 b->o1'.adr a1 b
 old2:∀b,o2.adr a2 b->o2'.adr a2 b
 new1:∀b,o1'.adr a1 b->o1.adr a1 b\/H b=none
 new2:∀b,o2'.adr a2 b->o2.adr a2 b\/H b=none
 apart:∀b,o1'.adr a1 b->¬o2'.adr a2 b
 at1:OR K (off (fun b=>B b\/two o1' o2' a1 a2 b) H') H' a1 o1'
 at2:OR K (off (fun b=>B b\/two o1' o2' a1 a2 b) H') H' a2 o2'
def spW2 (mg:Str->Option Value) (c:Pw2) (K:Za):Sp:=fun vs H Q E=>∃(o1 o2:O) (a1 a2:Addr) (ss:List S) (us:List V) (B:Addr->Prop) (R:O->O->D->Prop) (X:O->O->Str->Prop),
 vs=.ref a1 :: .ref a2::us/\(∀b,B b->Mut (H b)/\¬two o1 o2 a1 a2 b)/\(∀b,o1.adr a1 b->¬o2.adr a2 b)/\OR K (off (fun b=>B b\/two o1 o2 a1 a2 b) H) H a1 o1/\OR K (off (fun b=>B b\/two o1 o2 a1 a2 b) H) H a2 o2/\
 TVs K (fun b=>B b\/two o1 o2 a1 a2 b) (off (two o1 o2 a1 a2) H) H H ss us/\(∀s∈ss,s.flat)/\c o1 o2 ss R X/\
 (∀o1' o2' d v H',R o1' o2' d->After2 K B H a1 a2 o1 o2 o1' o2' H'->Rp K (off (fun b=>B b\/two o1' o2' a1 a2 b) H') d v->Q v H')/\∀o1' o2' e H',X o1' o2' e->After2 K B H a1 a2 o1 o2 o1' o2' H'->E (.ref (ExcR.J3 mg e)) none H'
def XJ (N:List Str) (o1 o2:O) (ss:List S):Γ:=some (.own o1)::some (.own o2)::(ss.map some++List.replicate (N.length-(ss.length+2)) none)
def Zd1 {N:List Str}{o1 o2:O}{a1 a2:Addr}{ss:List S}{us:List V} (hB:∀b,B b->Mut (H b)/\¬two o1 o2 a1 a2 b) (ap:∀b,o1.adr a1 b->¬o2.adr a2 b) (ho1:OR K (off (fun b=>B b\/two o1 o2 a1 a2 b) H) H a1 o1) (ho2:OR K (off (fun b=>B b\/two o1 o2 a1 a2 b) H) H a2 o2)
  (r:TVs K (fun b=>B b\/two o1 o2 a1 a2 b) (off (two o1 o2 a1 a2) H) H H ss us) (hf:∀s∈ss,s.flat) (hn:ss.length+2<=N.length) :
  EnvR K (off (two o1 o2 a1 a2) H) B H (start N (.ref a1 :: .ref a2::us)) (XJ N o1 o2 ss):=by
 have hlen:=r.len
 have get:∀(i:Nat) (s:S),(XJ N o1 o2 ss)[i+2]?=some (some s)->ss[i]?=some s:=fun i s h=>by
  unfold XJ at h;rw[Wd,Wd] at h;by_cases hi:i<ss.length
  ·rw[YQ (by rw[Yn];exact hi),Yz,Yo hi] at h;rw[Yo hi];exact YS some (Y2 (Y2 h))
  ·rw[YN (by rw[Yn];omega),WK] at h;split at h<;>cases h
 have noown:∀(i:Nat) (es:O),(XJ N o1 o2 ss)[i+2]?≠some (some (.own es)):=fun i es h=>hf _ (YE (get i _ h))
 have st0:(start N (V.ref a1::V.ref a2::us))[0]?=some (some (.ref a1)):=by
  unfold L2.start;rfl
 have st1:(start N (V.ref a1::V.ref a2::us))[1]?=some (some (.ref a2)):=by
  unfold L2.start;rfl
 have g0:∀s,(XJ N o1 o2 ss)[0]?=some (some s)->s=.own o1:=fun s h=>by
  have h:some (some (S.own o1))=some (some s):=h;cases h
  rfl
 have g1:∀s,(XJ N o1 o2 ss)[1]?=some (some s)->s=.own o2:=fun s h=>by
  have h:some (some (S.own o2))=some (some s):=h;cases h
  rfl
 have hz:∀b,zof B (XJ N o1 o2 ss) (start N (V.ref a1::V.ref a2::us)) b->B b\/two o1 o2 a1 a2 b:=fun b z=>by
  rcases z with z|⟨i,es,a',h1,h2,h3⟩
  ·exact .inl z
  ·match i,h1,h2 with
   | 0,h1,h2=>
    rw[st0] at h2;cases h2
    cases g0 _ h1
    exact .inr (.inl h3)
   | 1,h1,h2=>
    rw[st1] at h2;cases h2
    cases g1 _ h1
    exact .inr (.inr h3)
   | i+2,h1,_=>exact absurd h1 (noown i es)
 have toz:∀{o:O} {a:Addr},OR K (off (fun b=>B b\/two o1 o2 a1 a2 b) H) H a o->OR K (off (zof B (XJ N o1 o2 ss) (start N (V.ref a1::V.ref a2::us))) H) H a o:=fun h=>h.mono (JM (Same.refl _) fun b _ _ z y=>z (hz b y)) fun _ _ _ q=>q;refine⟨off_sub,?_,fun b h=>(hB b h).1,fun i j x x' es es' b h1 h2 h3 h4 h5 h6=>?_,fun i s h=>?_⟩
 ·unfold L2.start XJ;simp[hlen]
 ·match i,j,h1,h2,h3,h4 with
  | 0,0,_,_,_,_=>rfl
  | 1,1,_,_,_,_=>rfl
  | 0,1,h1,h2,h3,h4=>
   cases g0 _ h1
   cases g1 _ h2
   rw[st0] at h3;cases h3
   rw[st1] at h4;cases h4
   exact absurd h6 (ap b h5)
  | 1,0,h1,h2,h3,h4=>
   cases g1 _ h1
   cases g0 _ h2
   rw[st1] at h3;cases h3
   rw[st0] at h4;cases h4
   exact absurd h5 (ap b h6)
  | i+2,_,h1,_,_,_=>exact absurd h1 (noown i es)
  | 0,j+2,_,h2,_,_=>exact absurd h2 (noown j es')
  | 1,j+2,_,h2,_,_=>exact absurd h2 (noown j es')
 ·match i,h with
  | 0,h=>
   cases g0 _ h
   refine⟨_,st0,a1,rfl,fun b hb=>?_,toz ho1⟩;unfold off;rw[Yr (.inl hb)]
  | 1,h=>
   cases g1 _ h
   refine⟨_,st1,a2,rfl,fun b hb=>?_,toz ho2⟩;unfold off;rw[Yr (.inr hb)]
  | i+2,h=>
   have hs:=get i s h;obtain⟨v,hv,tv⟩:=r.get hs;refine⟨v,?_,?_⟩
   ·unfold L2.start;rw[YQ (by rw[Yn,YC,YC];have:=(YG.mp hv).1;omega),Yz,Wd,Wd,hv];rfl
   ·have:=hf s (YE hs)
    cases s with
    | bor d=>exact tv
    | sh d=>exact Rp.mono (JM (Same.refl _) fun b _ _ z y=>z (hz b y)) tv
    | own _=>exact this.elim
    | view _=>exact this.elim
    | tmp _=>exact this.elim
def E7 (o1 o2:O) (R:O->O->D->Prop) (γ:Γ) (d:D):Prop:=∃o1' o2',γ[0]?=some (some (.own o1'))/\γ[1]?=some (some (.own o2'))/\o1.from o1'/\o2.from o2'/\R o1' o2' d
def Ox (o1 o2:O) (X:O->O->Str->Prop) (γ:Γ) (e:Str):Prop:=∃o1' o2',γ[0]?=some (some (.own o1'))/\γ[1]?=some (some (.own o2'))/\o1.from o1'/\o2.from o2'/\X o1' o2' e
def CH (o1 o2:O) (R:O->O->D->Prop) (X:O->O->Str->Prop):PEnds:={ nx:=fun γ=>E7 o1 o2 R γ .non,rt:=fun _=>False,ex:=Ox o1 o2 X,rv:=E7 o1 o2 R }
def Be {a1 a2:Addr}{o1 o2 o1' o2':O}{σ':L2.St}{γ':Γ} (ho1:OR K (off (fun b=>B b\/two o1 o2 a1 a2 b) H) H a1 o1) (ho2:OR K (off (fun b=>B b\/two o1 o2 a1 a2 b) H) H a2 o2) (e:EnvR K (off (two o1 o2 a1 a2) H) B H' σ' γ') (h1:γ'[0]?=some (some (.own o1'))) (h2:γ'[1]?=some (some (.own o2'))) (k1:o1.from o1') (k2:o2.from o2') :
  After2 K B H a1 a2 o1 o2 o1' o2' H'/\∀b,B b\/two o1' o2' a1 a2 b->zof B γ' σ' b:=by
 obtain⟨v1,s1,x1,rfl,p1,q1⟩:=e.slot 0 _ h1;obtain rfl:=O.from_at k1 ho1 q1;obtain⟨v2,s2,x2,rfl,p2,q2⟩:=e.slot 1 _ h2;obtain rfl:=O.from_at k2 ho2 q2
 have hz:∀b,B b\/two o1' o2' x1 x2 b->zof B γ' σ' b:=fun b z=>by
  rcases z with z|z|z
  ·exact .inl z
  ·exact .inr ⟨0,o1',x1,h1,s1,z⟩
  ·exact .inr ⟨1,o2',x2,h2,s2,z⟩
 have ap:∀b,o1'.adr x1 b->¬o2'.adr x2 b:=fun b z y=>absurd (e.own 0 1 x1 x2 o1' o2' b h1 h2 s1 s2 z y) (by decide);have fromZ:∀{o:O} {a:Addr},OR K (off (zof B γ' σ') H') H' a o->OR K (off (fun b=>B b\/two o1' o2' x1 x2 b) H') H' a o:=fun h=>h.mono (JM (Same.refl _) fun b _ _ z y=>z (hz b y)) fun _ _ _ q=>q
 have free:∀b,off (two o1 o2 x1 x2) H b=none->two o1 o2 x1 x2 b\/H b=none:=fun b w=>by
  unfold off at w;by_cases q:two o1 o2 x1 x2 b
  ·exact .inl q
  ·rw[Yq q] at w;exact .inr w
 refine⟨⟨e.same,O.from_adr k1,O.from_adr k2,fun b hb=>?_,fun b hb=>?_,ap,fromZ q1,fromZ q2⟩,hz⟩
 ·rcases free b (p1 b hb) with(w|w)|w
  ·exact .inl w
  ·exact absurd (O.from_adr k2 b w) (ap b hb)
  ·exact .inr w
 ·rcases free b (p2 b hb) with(w|w)|w
  ·exact absurd hb (ap b (O.from_adr k1 b w))
  ·exact .inl w
  ·exact .inr w
def Lq {c:Pw2}{N:List Str}{t:TS}{p:PTS}{vs:List V}{Q:VK}{Ec:XK}{n:Nat} (h:spW2 mg c K vs H Q Ec) (snd:SndS K mg (fun _=>Ec) t p) (hn:n+2<=N.length)
  (hp:∀o1 o2 ss R X,c o1 o2 ss R X->ss.length=n/\p (CH o1 o2 R X) (XJ N o1 o2 ss)):t { nx:=fun _ H'=>Q .non H',rt:=Q } (start N vs) H:=by
 obtain⟨o1,o2,a1,a2,ss,us,B,R,X,rfl,hB,ap,ho1,ho2,r,hf,hc,hQ,hX⟩:=h;obtain⟨e,hp⟩:=hp o1 o2 ss R X hc;have env:=Zd1 (N:=N) hB ap ho1 ho2 r hf (by rw[e];exact hn);refine snd _ B H _ _ _ _ (fun b z=>?_) env hp ⟨fun σ' γ' H' h1 e1 f1=>?_,fun _ _ _ z=>z.elim,fun σ' γ' c H' h1 e1 f1=>?_,fun _ _ _ z=>z.elim,fun _ _ _ z=>z.elim,fun σ' γ' d v H' h1 e1 f1 rd=>?_⟩
 ·obtain⟨q1,q2⟩:=hB b z;obtain⟨x,hx⟩:=Km q1;exact⟨x,Uu hx q2⟩
 ·obtain⟨o1',o2',q1,q2,q3,q4,q5⟩:=h1;exact hQ o1' o2' .non .non H' q5 (Be ho1 ho2 e1 q1 q2 q3 q4).1 .non
 ·obtain⟨o1',o2',q1,q2,q3,q4,q5⟩:=h1;exact hX o1' o2' c H' q5 (Be ho1 ho2 e1 q1 q2 q3 q4).1
 ·obtain⟨o1',o2',q1,q2,q3,q4,q5⟩:=h1;obtain⟨k1,k2⟩:=Be ho1 ho2 e1 q1 q2 q3 q4;exact hQ o1' o2' d v H' q5 k1 (Rp.mono (JM (Same.refl _) fun b _ _ z y=>z (k2 b y)) rd)
def Rl {c:Pw2}{vs:List V}{Q:VK}{Ec:XK}{n:Nat} (h:spW2 mg c K vs H Q Ec) (hn:∀o1 o2 ss R X,c o1 o2 ss R X->ss.length=n):vs.length=n+2:=by
 obtain⟨o1,o2,a1,a2,ss,us,B,R,X,rfl,_,_,_,_,r,_,hc,_⟩:=h;rw[YC,YC,r.len,hn o1 o2 ss R X hc]
def IR {c:Pw2}{i j:Nat}{o1 o2:O}{a1 a2:Addr}{ss ss':List S}{us:List V}{R:Γ->D->Prop}{X:Γ->Str->Prop}{Q:VK}{Ec:XK} (env:EnvR K H0 B H σ γ) (hB:∀b,B b->∃o,H0 b=some o) (S1:Same H H1) (hij:i≠j) (hi:γ[i]?=some (some (.own o1))) (hj:γ[j]?=some (some (.own o2))) (ha1:σ[i]?=some (some (.ref a1))) (ha2:σ[j]?=some (some (.ref a2)))
  (t1:TVs K (zof B γ σ) H0 H H1 ss us) (hp:passes ss=some ss') (hc:c o1 o2 ss' (fun o1' o2' d=>R ((γ.set i (some (.own o1'))).set j (some (.own o2'))) d) (fun o1' o2' e=>X ((γ.set i (some (.own o1'))).set j (some (.own o2'))) e))
  (q:∀γ' d v H',R γ' d->EnvR K H0 B H' σ γ'->Fr B H σ γ H' σ γ'->Rp K (off (zof B γ' σ) H') d v->Q v H') (qx:∀γ' c H',X γ' c->EnvR K H0 B H' σ γ'->Fr B H σ γ H' σ γ'->Ec (.ref (ExcR.J3 mg c)) none H'):spW2 mg c K (.ref a1 :: .ref a2::us) H1 Q Ec:=by
 have env1:=env.grow S1;obtain⟨v1,h1,x1,e1,h3,h4⟩:=env1.slot i _ hi;rw[ha1] at h1;cases h1
 cases e1
 obtain⟨v2,h2,x2,e2,h5,h6⟩:=env1.slot j _ hj;rw[ha2] at h2;cases h2
 cases e2
 have ap:∀b,o1.adr a1 b->¬o2.adr a2 b:=fun b z y=>hij (env.own i j a1 a2 o1 o2 b hi hj ha1 ha2 z y);have za:∀b,two o1 o2 a1 a2 b->zof B γ σ b:=fun b hb=>hb.elim (fun hb=>.inr ⟨i,o1,a1,hi,ha1,hb⟩) fun hb=>.inr ⟨j,o2,a2,hj,ha2,hb⟩;have h0:∀b,two o1 o2 a1 a2 b->H0 b=none:=fun b hb=>hb.elim (h3 b) (h5 b);have down:∀{o:O} {a:Addr},OR K (off (zof B γ σ) H1) H1 a o->OR K (off (fun b=>(zof B γ σ b/\¬two o1 o2 a1 a2 b)\/two o1 o2 a1 a2 b) H1) H1 a o:=fun h=>h.mono (JM (Same.refl _) fun b _ _ z y=>z (y.elim (fun y=>y.1) (za b))) fun _ _ _ q=>q
 have aft:∀o1' o2' H',After2 K (fun b=>zof B γ σ b/\¬two o1 o2 a1 a2 b) H1 a1 a2 o1 o2 o1' o2' H'->EnvR K H0 B H' σ ((γ.set i (some (.own o1'))).set j (some (.own o2')))/\Fr B H σ γ H' σ ((γ.set i (some (.own o1'))).set j (some (.own o2')))/\∀b x,H' b=some x->¬((zof B γ σ b/\¬two o1 o2 a1 a2 b)\/two o1' o2' a1 a2 b)->¬zof B ((γ.set i (some (.own o1'))).set j (some (.own o2'))) σ b:=fun o1' o2' H' A=>by
  have hzz:∀b x,H' b=some x->¬((zof B γ σ b/\¬two o1 o2 a1 a2 b)\/two o1' o2' a1 a2 b)->¬zof B ((γ.set i (some (.own o1'))).set j (some (.own o2'))) σ b:=fun b x _ n z=>by
   rcases z with z|⟨k,fs,a',e1,e2,e3⟩
   ·refine n (.inl ⟨.inl z,fun w=>?_⟩);obtain⟨u,hu⟩:=hB b z;rw[h0 b w] at hu;cases hu
   ·rcases Uo e1 with⟨ek,q,_⟩|⟨nk,q⟩
    ·subst ek;cases q
     rw[ha2] at e2;cases e2
     exact n (.inr (.inr e3))
    ·rcases Uo q with⟨ek,q',_⟩|⟨nk',q'⟩
     ·subst ek;cases q'
      rw[ha1] at e2;cases e2
      exact n (.inr (.inl e3))
     ·refine n (.inl ⟨.inr ⟨k,fs,a',q',e2,e3⟩,fun w=>?_⟩);rcases w with w|w
      ·exact nk' (env.own k i a' a1 fs o1 b q' hi e2 ha1 e3 w)
      ·exact nk (env.own k j a' a2 fs o2 b q' hj e2 ha2 e3 w)
  have up:∀{o:O} {a:Addr},OR K (off (fun b=>(zof B γ σ b/\¬two o1 o2 a1 a2 b)\/two o1' o2' a1 a2 b) H') H' a o->OR K (off (zof B ((γ.set i (some (.own o1'))).set j (some (.own o2'))) σ) H') H' a o:=fun h=>h.mono (JM (Same.refl _) fun b x hx z=>hzz b x hx z) fun _ _ _ q=>q;obtain⟨k1,k2⟩:=env1.change2 (o1':=o1') (o2':=o2') (H':=H') hij hi hj ha1 ha2 (fun b x hx n1 n2=>A.same b x (Uu hx fun w=>w.elim n1 n2)) (fun b hb=>hb.elim (fun hb=>A.at1.mut b (A.old1 b hb)) fun hb=>A.at2.mut b (A.old2 b hb)) A.new1 A.new2 A.apart (up A.at1) (up A.at2);exact⟨k1,(Fr.grow S1).trans k2,hzz⟩
 refine⟨o1,o2,a1,a2,ss',us,fun b=>zof B γ σ b/\¬two o1 o2 a1 a2 b,_,_,rfl,fun b hb=>⟨env1.zm b hb.1,hb.2⟩,ap,down h4,down h6,?_,Te hp,hc,fun o1' o2' d v H' hR A rd=>?_,fun o1' o2' e H' hX A=>?_⟩
 ·refine t1.pass env1.same env.zm S1 (fun b x hx=>Uu (env1.same b x hx) fun w=>?_) (JM (Same.refl _) fun b _ _ z y=>z (y.elim (fun y=>y.1) (za b))) hp;rw[h0 b w] at hx;cases hx
 ·obtain⟨k1,k2,k3⟩:=aft o1' o2' H' A;exact q _ d v H' hR k1 k2 (Rp.mono (fun b x h=>let ⟨p1,p2⟩:=X9 h;Uu p1 (k3 b x p1 p2)) rd)
 ·obtain⟨k1,k2,_⟩:=aft o1' o2' H' A;exact qx _ e H' hX k1 k2
def Zet (i j:Nat) (c:Pw2) (r:PTA):PTW:=fun γ R X=>match γ[i]?,γ[j]? with
 | some (some (.own o1)),some (some (.own o2))=>r γ (fun ss=>match passes ss with|some ss'=>c o1 o2 ss' (fun o1' o2' d=>R ((γ.set i (some (.own o1'))).set j (some (.own o2'))) d) (fun o1' o2' e=>X ((γ.set i (some (.own o1'))).set j (some (.own o2'))) e)|none=>False) (X γ)
 | _,_=>False
def GJ (i j:Nat) (c:Pw2) (r:PTA):PTW:=fun γ R X=>match γ[i]?,γ[j]? with
 | some (some (.own o1)),some (some (.own o2))=>r γ (fun ss=>match passes ss with|some ss'=>c o1 o2 ss' (fun o1' o2' d=>R ((γ.set i (some (.own o1'))).set j (some (.own o2'))) d) (fun _ _ _=>False)|none=>False) (X γ)
 | _,_=>False
def PQ (i j:Nat) (hij:i≠j) {c:Pw2}{ta:TA}{r:PTA} (hr:SndA K mg E ta r):SndW K mg E (K6 (spW2 mg c K) [] E0 (UJ (tVar i) (UJ (tVar j) ta))) (GJ i j c r):=by
 intro H0 B H σ γ R X Q hB env h q qx;unfold GJ at h;split at h
 ·rename_i o1 o2 hi hj;obtain⟨v1,hv1,a1,rfl,_,_⟩:=env.slot i _ hi;obtain⟨v2,hv2,a2,rfl,_,_⟩:=env.slot j _ hj;refine⟨_,hv1,_,hv2,hr H0 B H σ γ _ _ _ env h (fun ss us H1 h1 S1 t1=>?_) fun c H' hc S'=>qx γ c H' hc (env.grow S') (Fr.grow S')⟩;show spW2 mg c K ((V.ref a1::V.ref a2::us)++[]) H1 Q E0;rw[We];split at h1
  ·rename_i ss' ep;exact IR (X:=fun _ _=>False) env hB S1 hij hi hj hv1 hv2 t1 ep h1 q fun _ _ _ z=>z.elim
  ·exact h1.elim
 ·exact h.elim
abbrev PTV:=Γ->(Γ->Bool->Prop)->(Γ->Str->Prop)->Prop
def SndV (K:Za) (mg:Str->Option Value) (E:L2.St->XK) (t:TT) (p:PTV):Prop:=∀(H0:Hp) (B:Addr->Prop) (H:Hp) (σ:L2.St) (γ:Γ) (R:Γ->Bool->Prop) (X:Γ->Str->Prop) (Q:Bool->Hp->Prop),(∀b,B b->∃o,H0 b=some o)->EnvR K H0 B H σ γ->p γ R X->
 (∀γ' b H',R γ' b->EnvR K H0 B H' σ γ'->Fr B H σ γ H' σ γ'->Q b H')->(∀γ' c H',X γ' c->EnvR K H0 B H' σ γ'->Fr B H σ γ H' σ γ'->E σ (.ref (ExcR.J3 mg c)) none H')->t σ H Q
def pVW (w:PTW):PTV:=fun γ R X=>w γ (fun γ' d=>match d with | .bl c=>R γ' c|_=>False) X
def sv_w {te:TE}{w:PTW} (hw:SndW K mg E te w):SndV K mg E (tTru K te) (pVW w):=by
 intro H0 B H σ γ R X Q hB env h q qx;refine hw H0 B H σ γ _ _ _ hB env h (fun γ' d v H' h1 e1 f1 rd=>?_) qx;split at h1
 ·rw[rd.bl_inv];exact⟨_,rfl,q _ _ _ h1 e1 f1⟩
 ·exact h1.elim
def pVP (p:PTT):PTV:=fun γ R X=>p γ (fun b=>R γ b) (X γ)
def sv_p {t:TT}{p:PTT} (hp:SndT K mg E t p):SndV K mg E t (pVP p):=by
 intro H0 B H σ γ R X Q hB env h q qx;exact hp H0 B H σ γ _ _ _ env h (fun b H' h1 S1=>q γ b H' h1 (env.grow S1) (Fr.grow S1)) fun c H' hc S1=>qx γ c H' hc (env.grow S1) (Fr.grow S1)
def HA (p:PTV):PTV:=fun γ R X=>p γ (fun γ' b=>R γ' (!b)) X
def Th {t:TT}{p:PTV} (hp:SndV K mg E t p):SndV K mg E (tNot t) (HA p):=by
 intro H0 B H σ γ R X Q hB env h q qx;exact hp H0 B H σ γ _ _ _ hB env h (fun γ' b H' h1 e1 f1=>q γ' (!b) H' h1 e1 f1) qx
def Zdt (p r:PTV):PTV:=fun γ R X=>p γ (fun γ' b=>if b=true then r γ' R X else R γ' false) X
def O9 {t u:TT}{p r:PTV} (hp:SndV K mg E t p) (hr:SndV K mg E u r):SndV K mg E (tAnd t u) (Zdt p r):=by
 intro H0 B H σ γ R X Q hB env h q qx;refine hp H0 B H σ γ _ _ _ hB env h (fun γ' b H' h1 e1 f1=>?_) qx;cases b with
 | false=>exact q _ _ _ (by simpa using h1) e1 f1
 | true=>
  have h1':r γ' R X:=by simpa using h1
  exact hr H0 B H' σ γ' _ _ _ hB e1 h1' (fun γ2 b H2 h2 e2 f2=>q _ _ _ h2 e2 (f1.trans f2)) fun γ2 c H2 h2 e2 f2=>qx _ _ _ h2 e2 (f1.trans f2)
def pIfV (c:PTV) (p q:PTS):PTS:=fun R γ=>c γ (fun γ' b=>if b=true then p R γ' else q R γ') R.ex
def T3 {tt:TT}{c:PTV}{t u:TS}{p q:PTS} (hc:SndV K mg E tt c) (hp:SndS K mg E t p) (hq:SndS K mg E u q):SndS K mg E (tIfS tt t u) (pIfV c p q):=by
 intro H0 B H σ γ R D hB env h e;refine hc H0 B H σ γ _ _ _ hB env h (fun γ' b H' h1 e1 f1=>?_) fun γ' c H' h1 e1 f1=>e.ex _ _ _ _ h1 e1 f1;cases b with
 | true=>
  rw[Yr rfl];exact hp H0 B H' σ γ' R D hB e1 (by simpa using h1) (e.from f1)
 | false=>
  rw[Yq (by decide)];exact hq H0 B H' σ γ' R D hB e1 (by simpa using h1) (e.from f1)
def Ez (i:Nat):PTW:=fun γ R _=>match γ[i]? with
 | some (some (.own (.lsA x ds)))=>∃d,ds[ds.length-1]?=some d/\R (γ.set i (some (.own (.lsA x ds.dropLast)))) d
 | some (some (.own (.lst ds)))=>∃d,ds[ds.length-1]?=some d/\R (γ.set i (some (.own (.lst ds.dropLast)))) d
 | _=>False
def Zay (i:Nat):SndW K mg E (tBM0 K "list" rPop (tVar i)) (Ez i):=by
 intro H0 B H σ γ R X Q hB env h q qx;unfold Ez at h;split at h
 ·rename_i x ds hi;obtain⟨d,ed,h⟩:=h;obtain⟨v,hv,b,rfl,hb0,rfl,us,hb,rb⟩:=env.slot i _ hi;obtain⟨u,hu,ru⟩:=rb.get ed;refine⟨_,hv,.inl ⟨rfl,us,SqL.of hb⟩,b,us,u,rfl,rfl,hb,by rw[rb.len];exact hu,?_⟩;obtain⟨e2,f2⟩:=env.mutate (es:=.lsA b ds.dropLast) (us:=.lst us.dropLast) hi hv trivial fun F H' SF hF=>⟨rfl,_,hF,Rps.mono SF (Rps.dropLast rb)⟩;exact q _ _ _ _ h e2 f2 (Rp.mono f2.off ru)
 ·rename_i ds hi;obtain⟨d,ed,h⟩:=h;obtain⟨v,hv,b,rfl,hb0,us,hb,rb⟩:=env.slot i _ hi;obtain⟨u,hu,ru⟩:=rb.get ed;refine⟨_,hv,.inl ⟨rfl,us,SqL.of hb⟩,b,us,u,rfl,rfl,hb,by rw[rb.len];exact hu,?_⟩;obtain⟨e2,f2⟩:=env.mutate (es:=.lst ds.dropLast) (us:=.lst us.dropLast) hi hv trivial fun F H' SF hF=>⟨_,hF,Rps.mono SF (Rps.dropLast rb)⟩;exact q _ _ _ _ h e2 f2 (Rp.mono f2.off ru)
 ·exact h.elim
abbrev Pq:=List S->(S->Prop)->(Str->Prop)->Prop
def spS (mg:Str->Option Value) (c:Pq) (K:Za):Sp:=fun vs H Q E=>∃(ss:List S) (B:Addr->Prop) (R:S->Prop) (X:Str->Prop),(∀b,B b->Mut (H b))/\TVs K B H H H ss vs/\(∀s∈ss,s.flat)/\c ss R X/\
 (∀s v H',R s->Same H H'->TV K B H H H' s v->Q v H')/\∀e H',X e->Same H H'->E (.ref (ExcR.J3 mg e)) none H'
def Kz (N:List Str) (ss:List S):Γ:=ss.map some++List.replicate (N.length-ss.length) none
def IG {N:List Str}{ss:List S}{us:List V} (hB:∀b,B b->Mut (H b)) (r:TVs K B H H H ss us) (hf:∀s∈ss,s.flat) (hn:ss.length<=N.length):EnvR K H B H (start N us) (Kz N ss):=by
 have hlen:=r.len
 have get:∀(i:Nat) (s:S),(Kz N ss)[i]?=some (some s)->ss[i]?=some s:=fun i s h=>by
  unfold Kz at h;by_cases hi:i<ss.length
  ·rw[YQ (by rw[Yn];exact hi),Yz,Yo hi] at h;rw[Yo hi];exact YS some (Y2 (Y2 h))
  ·rw[YN (by rw[Yn];omega),WK] at h;split at h<;>cases h
 have noown:∀(i:Nat) (es:O),(Kz N ss)[i]?≠some (some (.own es)):=fun i es h=>hf _ (YE (get i _ h))
 have hz:∀b,zof B (Kz N ss) (start N us) b->B b:=fun b z=>by
  rcases z with z|⟨i,es,a',h1,h2,h3⟩
  ·exact z
  ·exact absurd h1 (noown i es)
 refine⟨Same.refl _,?_,hB,fun i j x x' es es' b h1 _ _ _ _ _=>absurd h1 (noown i es),fun i s h=>?_⟩
 ·unfold L2.start Kz;simp[hlen]
 ·have hs:=get i s h;obtain⟨v,hv,tv⟩:=r.get hs;refine⟨v,?_,?_⟩
  ·unfold L2.start;rw[YQ (by rw[Yn];exact(YG.mp hv).1),Yz,hv];rfl
  ·have:=hf s (YE hs)
   cases s with
   | bor d=>exact tv
   | sh d=>exact Rp.mono (JM (Same.refl _) fun b _ _ z y=>z (hz b y)) tv
   | own _=>exact this.elim
   | view _=>exact this.elim
   | tmp _=>exact this.elim
def LF {c:Pq}{N:List Str}{t:TS}{p:PTS}{vs:List V}{Q:VK}{Ec:XK}{n:Nat} (h:spS mg c K vs H Q Ec) (snd:SndS K mg (fun _=>Ec) t p) (hn:n<=N.length)
  (hp:∀ss R X,c ss R X->ss.length=n/\p { nx:=fun _=>R (.sh .non),rt:=R,ex:=fun _ e=>X e } (Kz N ss)):t { nx:=fun _ H'=>Q .non H',rt:=Q } (start N vs) H:=by
 obtain⟨ss,B,R,X,hB,r,hf,hc,hQ,hX⟩:=h;obtain⟨e,hp⟩:=hp ss R X hc;exact snd H B H _ _ _ _ (fun b z=>Km (hB b z)) (IG hB r hf (by rw[e];exact hn)) hp ⟨fun σ' γ' H' h1 e1 f1=>hQ _ _ H' h1 e1.same .non,fun s v H' h1 S1 tv=>hQ s v H' h1 S1 tv,fun σ' γ' c H' h1 e1 f1=>hX c H' h1 e1.same,fun _ _ _ z=>z.elim,fun _ _ _ z=>z.elim,fun _ _ _ _ _ z=>z.elim⟩
def Zb6 {c:Pq}{vs:List V}{Q:VK}{Ec:XK}{n:Nat} (h:spS mg c K vs H Q Ec) (hn:∀ss R X,c ss R X->ss.length=n):vs.length=n:=by
 obtain⟨ss,B,R,X,_,r,_,hc,_⟩:=h;rw[r.len];exact hn ss R X hc
def TV.backS {s:S}{v:V} (env:EnvR K H0 B H1 σ γ) (S1:Same H H1) (S2:Same H1 H') (h:TV K (zof B γ σ) H1 H1 H' s v):TV K (zof B γ σ) H0 H H' s.back v:=by
 cases s with
 | bor d=>exact PX (fun b z=>XG S2 (env.zm b z)) (Rp.mono S2 h)
 | sh d=>exact h
 | own ds=>
  obtain⟨a,rfl,e0,r⟩:=h;exact⟨a,rfl,(fun b hb=>S1.free (e0 b hb)),r⟩
 | view ds=>
  obtain⟨a,rfl,r⟩:=h;exact r.rp off_sub
 | tmp d=>exact h
def TV.passS {s s':S}{v:V} (env:EnvR K H0 B H1 σ γ) (hm:∀b,zof B γ σ b->Mut (H b)) (S1:Same H H1) (h:TV K (zof B γ σ) H0 H H1 s v) (e:s.pass=some s'):TV K (zof B γ σ) H1 H1 H1 s' v:=by
 have shd:∀d,s.shd=some d->Rp K (off (zof B γ σ) H1) d v:=fun d ed=>h.shd env.same hm S1 ed;cases s with
 | sh d=>cases e;exact shd _ rfl
 | own o=>cases e;exact shd _ rfl
 | view o=>cases e
 | tmp d=>
  unfold S.pass at e;cases q:imm d with
  | false=>simp[q] at e
  | true=>simp[q] at e;subst e;exact shd d (by unfold S.shd;simp[q])
 | bor d=>
  unfold S.pass at e;cases q:imm d with
  | false=>simp[q] at e;subst e;exact Rp.mono env.same h
  | true=>simp[q] at e;subst e;exact shd d (by unfold S.shd;simp[q])
def TVs.passS (env:EnvR K H0 B H1 σ γ) (hm:∀b,zof B γ σ b->Mut (H b)) (S1:Same H H1):∀{ss ss':List S}{vs:List V},TVs K (zof B γ σ) H0 H H1 ss vs->passes ss=some ss'->TVs K (zof B γ σ) H1 H1 H1 ss' vs
 | _,_,_,.nil,e=>by cases e;exact .nil
 | _,_,_,.cons h r,e=>by
  unfold passes at e;split at e
  ·rename_i s1 r1 e1 e2;cases e
   exact .cons (h.passS env hm S1 e1) (TVs.passS env hm S1 r e2)
  ·cases e
def M3 (c:Pq) (r:PTA):PTE:=fun γ R X=>r γ (fun ss=>match passes ss with|some ss'=>c ss' (fun s=>R s.back) (fun _=>False)|none=>False) X
def SR {c:Pq}{ta:TA}{r:PTA} (hr:SndA K mg E ta r):SndE K mg E (K6 (spS mg c K) [] E0 ta) (M3 c r):=by
 intro H0 B H σ γ R X Q env p q qx;refine hr H0 B H σ γ _ X _ env p (fun ss vs H1 h1 S1 t1=>?_) qx;rw[We];have env1:=env.grow S1;split at h1
 ·rename_i ss' ep;exact⟨ss',zof B γ σ,_,_,env1.zm,t1.passS env1 env.zm S1 ep,Te ep,h1,fun s v H' hs S2 tv=>q _ _ H' hs (S1.trans S2) (tv.backS env1 S1 S2),fun _ _ z=>z.elim⟩
 ·exact h1.elim
def pSlV (a:PTE) (l u:PTO):PTE:=fun γ R X=>a γ (fun s=>l γ (fun lo=>u γ (fun hi=>match s.d with | .lst ds=>R (.tmp (.lst (cutD ds lo hi)))|_=>False) X) X) X
def pIBc (a:PTE) (l u:PTO):PTI:=fun γ R X=>a γ (fun s=>l γ (fun lo=>u γ (fun hi=>match s with
 | .bor d=>(match d.strip with | .lst ds=>R (cutD ds lo hi).length (fun i=>arg ((cutD ds lo hi).getD i .non))|_=>False)
 | _=>False) X) X) X
def Mv {te:TE}{tl th:TO}{a:PTE}{l u:PTO} (ha:SndE K mg E te a) (hl:SndO K mg E tl l) (hu:SndO K mg E th u):TQ K mg E (T5 K (tSl (rSlL K) te tl th)) (pIBc a l u):=by
 intro H0 B H σ γ R X Q env p q qx;refine ha H0 B H σ γ _ X _ env p (fun x v H1 h1 S1 t1=>?_) qx;refine hl H0 B H1 σ γ _ X _ (env.grow S1) h1 (fun lo H2 h2 S2=>?_) fun c H' hc S'=>qx c H' hc (S1.trans S');refine hu H0 B H2 σ γ _ X _ ((env.grow S1).grow S2) h2 (fun hi H3 h3 S3=>?_) fun c H' hc S'=>qx c H' hc ((S1.trans S2).trans S');have S13:=(S1.trans S2).trans S3;have env3:=env.grow S13;split at h3
 ·rename_i d;split at h3
  ·rename_i ds ed;have t1:=Rp.strip t1;rw[ed] at t1;obtain⟨b,us,rfl,hb,r⟩:=Rp.lst_inv t1;refine⟨b,us,rfl,SqL.of (env3.same _ _ hb),fun m nm=>?_⟩;have S4:Same H3 (upd H3 m (.lst (cutV us lo hi))):=UB nm;have rc:Rps K H0 (cutD ds lo hi) (cutV us lo hi):=r.cut;refine⟨m,rfl,⟨_,SqL.of Uj⟩,q _ _ _ _ h3 (S13.trans S4) ⟨fun i H' Z' hlt S5 lt=>?_,fun H' Z' S5 lt=>⟨_,SqL.of (S5 _ _ Uj),by rw[rc.len];exact Yx _⟩⟩⟩;have hd:(cutD ds lo hi)[i]?=some ((cutD ds lo hi).getD i .non):=by rw[Y1,Yo hlt];rfl
   obtain⟨u,h4,h5⟩:=rc.get hd;have tu:TV K Z' H0 H' H' (arg ((cutD ds lo hi).getD i .non)) u:=argR lt.2.1 lt.1 h5;refine⟨⟨_,u,SqL.of (S5 _ _ Uj),h4⟩,fun x H'' y=>?_⟩;obtain⟨rfl,y⟩:=y
   have:=y _ (SqL.of (S5 _ _ Uj))
   rw[h4] at this;cases this
   exact⟨Same.refl _,tu⟩
  ·exact h3.elim
 ·exact h3.elim
def Zae {α:Type}{φ:List (Option Nat)}{γ:Γ}{g:PTG}{c:PTT}{e:PTE}{R:S->Prop}{xs:List α}{emb:α->D} (f:α->Option D) (hz:xs.length<=100000)
  (turn:∀x∈xs,g (arg (emb x)) (atP φ γ) fun γ2=>c γ2 (fun b=>if b=true then e γ2 (fun s=>∃d,s.shd=some d/\f x=some d) (fun _=>False) else f x=none) fun _=>False)
  (done:R (.own (xs.filterMap f))) :
  CompW φ γ g c e (xs.map emb).length (fun i=>arg ((xs.map emb).getD i .non)) R:=by
 refine⟨⟨by rw[Yn];exact hz,fun i=>(xs[i]?).bind f,fun i hi=>?_,?_⟩⟩
 ·rw[Yn] at hi;have t:=turn xs[i] (YH hi);have e1:(xs[i]?).bind f=f xs[i]:=by rw[Yo hi];rfl
  have e2:(xs.map emb).getD i .non=emb xs[i]:=by rw[Y1,Yz,Yo hi];rfl
  show g (arg ((xs.map emb).getD i .non)) (atP φ γ) fun γ2=>c γ2 (fun b=>if b=true then e γ2 (fun s=>∃d,s.shd=some d/\(xs[i]?).bind f=some d) (fun _=>False) else(xs[i]?).bind f=none) fun _=>False;rw[e1,e2];exact t
 ·have:(List.range (xs.map emb).length).filterMap (fun i=>(xs[i]?).bind f)=xs.filterMap f:=by
   rw[Yn]
   have key:∀l:List α,(List.range l.length).filterMap (fun i=>(l[i]?).bind f)=l.filterMap f:=fun l=>by
    induction l with
    | nil=>rfl
    | cons x r ih=>
     rw[YC,List.range_succ_eq_map,Wz,List.filterMap_map,Wz];simp only[List.getElem?_cons_zero,Option.bind_some]
     have e:((fun i=>((x::r)[i]?).bind f)∘Nat.succ)=fun i=>(r[i]?).bind f:=by
      funext i;simp
     rw[e,ih]
   exact key xs
  rw[this];exact done
def pSlN (a:PTE) (l u:PTO):PTE:=fun γ R X=>a γ (fun s=>l γ (fun lo=>u γ (fun hi=>match s.d with | .scr ns=>R (.own ((cutD ns lo hi).map D.int))|_=>False) X) X) X
def GY (ns:List Int) (lo hi:Option Int):cutV (ns.map V.int) lo hi=(cutD ns lo hi).map V.int:=by
 unfold cutV cutD;rw[Yn,List.map_take,List.map_drop]
def M4 {te:TE}{tl th:TO}{a:PTE}{l u:PTO} (ha:SndE K mg E te a) (hl:SndO K mg E tl l) (hu:SndO K mg E th u):SndE K mg E (tSl (rSlL K) te tl th) (pSlN a l u):=by
 intro H0 B H σ γ R X Q env p q qx;refine ha H0 B H σ γ _ X _ env p (fun x v H1 h1 S1 t1=>?_) qx;refine hl H0 B H1 σ γ _ X _ (env.grow S1) h1 (fun lo H2 h2 S2=>?_) fun c H' hc S'=>qx c H' hc (S1.trans S');refine hu H0 B H2 σ γ _ X _ ((env.grow S1).grow S2) h2 (fun hi H3 h3 S3=>?_) fun c H' hc S'=>qx c H' hc ((S1.trans S2).trans S');have S13:=(S1.trans S2).trans S3;split at h3
 ·rename_i ns e;have rx:=(t1.grow (S2.trans S3)).rp (env.grow S13).same;rw[e] at rx;obtain⟨b,rfl,hb⟩:=rx.scr_inv;refine⟨b,_,rfl,hb,fun m nm=>?_⟩;rw[GY];exact q _ _ _ h3 (S13.trans (UB nm)) (KJ S13 nm (Rps.of_ints _))
 ·exact h3.elim
end
open M
inductive Dd where
 | sell (p h:Int)|part (p w:Int)|unite (p:Int)|wish (a b:Int)|drop (a b:Int)
def Dd.q:Dd->Str×List Int
 | .sell p h=>("sell",[p,h]) | .part p w=>("part",[p,w]) | .unite p=>("unite",[p]) | .wish a b=>("wish",[a,b]) | .drop a b=>("drop",[a,b])
def Dd.land:Dd->Bool
 | .sell _ _=>true | .part _ _=>true | .unite _=>true|_=>false
def Dd.err (f w:List (Int×Int)):Dd->Option Str
 | .sell p h=>UI f p h | .part p v=>UE f p v | .unite p=>uniE f p | .wish a b=>U2 w a b | .drop a b=>Ux w a b
def Dd.fld (f:List (Int×Int)):Dd->List (Int×Int)
 | .sell p h=>XX f p h | .part p v=>UO f p v | .unite p=>uniL f p|_=>f
def Dd.wsh (w:List (Int×Int)):Dd->List (Int×Int)
 | .wish a b=>w++[(a,b)] | .drop a b=>XN w a b|_=>w
def codeN:Option Str->Int
 | none=>0
 | some c=>if c=("NoStrip" : Str) then 1 else if c=("BadHolder" : Str) then 2 else if c=("OwnStrip" : Str) then 3 else if c=("BadPart" : Str) then 4 else if c=("TooManyStrips" : Str) then 5 else if c=("UnlikeHolders" : Str) then 6 else if c=("TooWide" : Str) then 7 else if c=("LikeHolders" : Str) then 8 else if c=("WishStands" : Str) then 9 else if c=("TooManyWishes" : Str) then 10 else 11
def NN:codeN (some "NoStrip")=1:=by decide +kernel
def NG:codeN (some "BadHolder")=2:=by decide +kernel
def Eu:codeN (some "OwnStrip")=3:=by decide +kernel
def BU:codeN (some "BadPart")=4:=by decide +kernel
def EH:codeN (some "TooManyStrips")=5:=by decide +kernel
def Gz:codeN (some "UnlikeHolders")=6:=by decide +kernel
def AZ:codeN (some "TooWide")=7:=by decide +kernel
def Ak:codeN (some "LikeHolders")=8:=by decide +kernel
def GB:codeN (some "WishStands")=9:=by decide +kernel
def Gc:codeN (some "TooManyWishes")=10:=by decide +kernel
def Ep:codeN (some "NoWish")=11:=by decide +kernel
def Dd.fld' (f:List (Int×Int)) (x:Dd):List (Int×Int):=if x.err f []=none then x.fld f else f
def Dd.wsh' (w:List (Int×Int)) (x:Dd):List (Int×Int):=if x.err [] w=none then x.wsh w else w
def Dd.nf (f w:List (Int×Int)) (x:Dd):List (Int×Int):=if x.err f w=none then x.fld f else f
def Dd.nw (f w:List (Int×Int)) (x:Dd):List (Int×Int):=if x.err f w=none then x.wsh w else w
def Dd.err_land {x:Dd} (h:x.land=true) (f w u:List (Int×Int)):x.err f w=x.err f u:=by
 cases x<;>first|rfl|cases h
def Dd.err_wish {x:Dd} (h:x.land=false) (f g w:List (Int×Int)):x.err f w=x.err g w:=by
 cases x<;>first|rfl|cases h
def Dd.err_cases (f w : List (Int × Int)) (x : Dd) : x.err f w = none ∨ x.err f w = some ("NoStrip" : Str) ∨ x.err f w = some ("BadHolder" : Str) ∨ x.err f w = some ("OwnStrip" : Str) ∨ x.err f w = some ("BadPart" : Str) ∨ x.err f w = some ("TooManyStrips" : Str) ∨ x.err f w = some ("UnlikeHolders" : Str) ∨ x.err f w = some ("TooWide" : Str) ∨ x.err f w = some ("LikeHolders" : Str) ∨ x.err f w = some ("WishStands" : Str) ∨ x.err f w = some ("TooManyWishes" : Str) ∨ x.err f w = some ("NoWish" : Str) := by
  cases x with
  | sell p h => show UI f p h = _ ∨ UI f p h = _ ∨ UI f p h = _ ∨ UI f p h = _ ∨ _; unfold UI; repeat' split
                all_goals simp
  | part p h => show UE f p h = _ ∨ UE f p h = _ ∨ UE f p h = _ ∨ UE f p h = _ ∨ UE f p h = _ ∨ UE f p h = _ ∨ _; unfold UE; repeat' split
                all_goals simp
  | unite p => show uniE f p = _ ∨ uniE f p = _ ∨ uniE f p = _ ∨ uniE f p = _ ∨ uniE f p = _ ∨ uniE f p = _ ∨ uniE f p = _ ∨ uniE f p = _ ∨ _; unfold uniE; repeat' split
               all_goals simp
  | wish a b => show U2 w a b = _ ∨ U2 w a b = _ ∨ U2 w a b = _ ∨ U2 w a b = _ ∨ U2 w a b = _ ∨ U2 w a b = _ ∨ U2 w a b = _ ∨ U2 w a b = _ ∨ U2 w a b = _ ∨ U2 w a b = _ ∨ U2 w a b = _ ∨ _; unfold U2; repeat' split
                all_goals simp
  | drop a b => show Ux w a b = _ ∨ Ux w a b = _ ∨ Ux w a b = _ ∨ Ux w a b = _ ∨ Ux w a b = _ ∨ Ux w a b = _ ∨ Ux w a b = _ ∨ Ux w a b = _ ∨ Ux w a b = _ ∨ Ux w a b = _ ∨ Ux w a b = _ ∨ Ux w a b = _; unfold Ux; repeat' split
                all_goals simp
abbrev Hist:=List (Dd×List (Int×Int)×List (Int×Int))
def bkH (hs:Hist):List (Str×List Int):=hs.map fun h=>h.1.q
def fsH (f0:List (Int×Int)) (hs:Hist):List (List (Int×Int)):=f0::hs.map fun h=>h.2.1
def wsH (hs:Hist):List (List (Int×Int)):=[]::hs.map fun h=>h.2.2
def pstD (h:Dd×List (Int×Int)×List (Int×Int)):D:=.tup [plD h.2.1,plD h.2.2,dD h.1.q]
def pst0 (f0:List (Int×Int)):D:=.tup [plD f0,.lst [],.tup []]
def Uc (f0:List (Int×Int)) (hs:Hist):List D:=pst0 f0::hs.map pstD
def curF (f0:List (Int×Int)) (hs:Hist):List (Int×Int):=match hs.getLast? with|some h=>h.2.1|none=>f0
def curW (hs:Hist):List (Int×Int):=match hs.getLast? with|some h=>h.2.2|none=>[]
def P5 (f0:List (Int×Int)) (hs:Hist):∃fs,fsH f0 hs=fs++[curF f0 hs]/\fs.length=hs.length:=by
 unfold fsH curF;rcases Wo hs with rfl|⟨h,x,rfl⟩
 ·exact⟨[],rfl,rfl⟩
 ·refine⟨f0::h.map fun h=>h.2.1,?_,by simp⟩;simp
def Py (hs:Hist):∃ws,wsH hs=ws++[curW hs]/\ws.length=hs.length:=by
 unfold wsH curW;rcases Wo hs with rfl|⟨h,x,rfl⟩
 ·exact⟨[],rfl,rfl⟩
 ·refine⟨[]::h.map fun h=>h.2.2,?_,by simp⟩;simp
def KU (f0:List (Int×Int)) (hs:Hist):∃d,atI (Uc f0 hs) (-1)=some (.tup [plD (curF f0 hs),plD (curW hs),d]):=by
 have key:∀(l:List D) (x:D),l≠[]->l[l.length-1]?=some x->atI l (-1)=some x:=fun l x hn h=>by
  have hp:0<l.length:=WB.mpr hn;unfold atI ixN;rw[Yq (by omega),Yr (by omega)];show l[_]?=_;rw[show((-1:Int)+(l.length:Int)).toNat=l.length-1 by omega];exact h
 unfold Uc curF curW;rcases Wo hs with rfl|⟨h,x,rfl⟩
 ·exact⟨.tup [],key _ _ (by simp) rfl⟩
 ·refine⟨dD x.1.q,key _ _ (by simp) ?_⟩;rw[W3,Qa,YC,Yn,Yy,YZ,Ql,Wd,YD,YN (by rw[Yn];exact Yx _),Yn,Vo];rfl
def NT (hs:Hist) (h:Dd×List (Int×Int)×List (Int×Int)):bkH (hs++[h])=bkH hs++[h.1.q]:=by unfold bkH;rw[YD];rfl
def TM (f0:List (Int×Int)) (hs:Hist) (h:Dd×List (Int×Int)×List (Int×Int)):fsH f0 (hs++[h])=fsH f0 hs++[h.2.1]:=by unfold fsH;rw[YD];rfl
def Nb (hs:Hist) (h:Dd×List (Int×Int)×List (Int×Int)):wsH (hs++[h])=wsH hs++[h.2.2]:=by unfold wsH;rw[YD];rfl
def NH (f0:List (Int×Int)) (hs:Hist) (h:Dd×List (Int×Int)×List (Int×Int)):Uc f0 (hs++[h])=Uc f0 hs++[pstD h]:=by unfold Uc;rw[YD];rfl
def ND (hs:Hist):(bkH hs).length=hs.length:=Yn ..
def Zai (f0:List (Int×Int)) (hs:Hist):(fsH f0 hs).length=hs.length+1:=by unfold fsH;rw[YC,Yn]
def RQ (hs:Hist):(wsH hs).length=hs.length+1:=by unfold wsH;rw[YC,Yn]
def Nz (f0:List (Int×Int)) (hs:Hist):(Uc f0 hs).length=hs.length+1:=by unfold Uc;rw[YC,Yn]
def Dd.q_len (x:Dd):x.q.2.length<=2:=by cases x<;>simp[Dd.q]
end Pu
namespace Pu
@[irreducible] def mixP (c k:Int):Int:=((c % 2147483647+7919*k+1)*48271 % 2147483647+104729*k+11)*69621 % 2147483647
open L2 M Own PyProof.Rows PySem PySem.Spec
def Dd.fld_ok {f w:List (Int×Int)}{d:Dd} (hF:Field f) (hl:f.length<=40) (e:d.err f w=none):Field (d.fld f)/\(d.fld f).length<=40:=by
 cases d with
 | sell p h=>exact⟨Im hF e,by rw[show(Dd.sell p h).fld f=XX f p h from rfl,Lj];exact hl⟩
 | part p v=>
  have e:UE f p v=none:=e;rcases R8 f p v with⟨z,_⟩|⟨z,_⟩|⟨z,_⟩|⟨_,_,h1,h2,h3,h4,h5⟩
  ·rw[e] at z;cases z
  ·rw[e] at z;cases z
  ·rw[e] at z;cases z
  ·exact⟨MS hF h1 h2 h3 h4,by rw[show(Dd.part p v).fld f=UO f p v from rfl,Ij h1 h2];omega⟩
 | unite p=>
  have e:uniE f p=none:=e;rcases GO f p with⟨z,_⟩|⟨z,_⟩|⟨z,_⟩|⟨_,_,h1,h2⟩
  ·rw[e] at z;cases z
  ·rw[e] at z;cases z
  ·rw[e] at z;cases z
  ·exact⟨Rh hF e,by rw[show(Dd.unite p).fld f=uniL f p from rfl];have:=Zah h1 h2;omega⟩
 | wish a b=>exact⟨hF,hl⟩
 | drop a b=>exact⟨hF,hl⟩
def Dd.wsh_ok {f w:List (Int×Int)}{d:Dd} (hW:XW w) (e:d.err f w=none):XW (d.wsh w):=by
 cases d with
 | wish a b=>exact HI hW e
 | drop a b=>exact R4 hW
 | sell p h=>exact hW
 | part p v=>exact hW
 | unite p=>exact hW
def FineH (f0:List (Int×Int)) (hs:Hist):Prop:=(∀g∈fsH f0 hs,Field g/\g.length<=40)/\∀g∈wsH hs,XW g
def FineH.cur {f0:List (Int×Int)}{hs:Hist} (h:FineH f0 hs):(Field (curF f0 hs)/\(curF f0 hs).length<=40)/\XW (curW hs):=by
 obtain⟨fs,ef,_⟩:=P5 f0 hs;obtain⟨ws,ew,_⟩:=Py hs;exact⟨h.1 _ (by rw[ef];simp),h.2 _ (by rw[ew];simp)⟩
def FineH.nil {f0:List (Int×Int)} (hF:Field f0) (hl:f0.length<=40):FineH f0 []:=
 ⟨fun g hg=>by rw[show fsH f0 []=[f0] from rfl,Y0] at hg;subst hg;exact⟨hF,hl⟩,fun g hg=>by rw[show wsH []=[[]] from rfl,Y0] at hg;subst hg;exact Zd0⟩
def FineH.snoc {f0:List (Int×Int)}{hs:Hist}{x:Dd×List (Int×Int)×List (Int×Int)} (h:FineH f0 hs) (h1:Field x.2.1/\x.2.1.length<=40) (h2:XW x.2.2):FineH f0 (hs++[x]):=
 ⟨fun g hg=>by rw[TM] at hg;rcases YJ.mp hg with hg|hg;{ exact h.1 g hg };{ rw[Y0] at hg;subst hg;exact h1 },fun g hg=>by rw[Nb] at hg;rcases YJ.mp hg with hg|hg;{ exact h.2 g hg };{ rw[Y0] at hg;subst hg;exact h2 }⟩
def FineH.init {f0:List (Int×Int)}{hs:Hist}{x:Dd×List (Int×Int)×List (Int×Int)} (h:FineH f0 (hs++[x])):FineH f0 hs:=
 ⟨fun g hg=>h.1 g (by rw[TM];exact WX _ hg),fun g hg=>h.2 g (by rw[Nb];exact WX _ hg)⟩
def FineH.back {f0:List (Int×Int)}{hs:Hist} (h:FineH f0 hs):FineH f0 hs.dropLast:=by
 rcases Wo hs with rfl|⟨l,x,rfl⟩
 ·exact h
 ·rw[W3] at h ⊢;rw[WI];exact h.init
def addH (f0:List (Int×Int)) (hs:Hist) (d:Dd):Hist:=if d.err (curF f0 hs) (curW hs)=none then hs++[(d,d.fld (curF f0 hs),d.wsh (curW hs))] else hs
def Bn (f0:List (Int×Int)) (hs:Hist) (d:Dd):(addH f0 hs d).length<=hs.length+1:=by
 unfold addH;split
 ·rw[Yy,YZ];exact Yx _
 ·omega
def FineH.add {f0:List (Int×Int)}{hs:Hist} (h:FineH f0 hs) (d:Dd):FineH f0 (addH f0 hs d):=by
 unfold addH;split
 ·rename_i e;obtain⟨⟨h1,h2⟩,h3⟩:=h.cur;exact h.snoc (Dd.fld_ok h1 h2 e) (Dd.wsh_ok h3 e)
 ·exact h
def FineH.len {f0:List (Int×Int)}{hs:Hist} (h:FineH f0 hs):(∀g∈fsH f0 hs,g.length<=1000)/\∀g∈wsH hs,g.length<=1000:=⟨fun g hg=>by have:=(h.1 g hg).2;omega,fun g hg=>by have:=(h.2 g hg).1;omega⟩
def Dd.code_pos {f w:List (Int×Int)}{x:Dd} (h:¬x.err f w=none):0<codeN (x.err f w):=by
 rcases x.err_cases f w with e|e|e|e|e|e|e|e|e|e|e|e<;>rw[e] at h ⊢
 ·exact absurd rfl h
 ·rw[NN];decide
 ·rw[NG];decide
 ·rw[Eu];decide
 ·rw[BU];decide
 ·rw[EH];decide
 ·rw[Gz];decide
 ·rw[AZ];decide
 ·rw[Ak];decide
 ·rw[GB];decide
 ·rw[Gc];decide
 ·rw[Ep];decide
def Dd.not_back (d:Dd):¬d.q.1=("back" : Str):=by
 cases d with
 | sell p h=>exact(by decide +kernel:¬("sell" : Str) = "back")
 | part p h=>exact(by decide +kernel:¬("part" : Str) = "back")
 | unite p=>exact(by decide +kernel:¬("unite" : Str) = "back")
 | wish p h=>exact(by decide +kernel:¬("wish" : Str) = "back")
 | drop p h=>exact(by decide +kernel:¬("drop" : Str) = "back")
def KR (ds:List D):Nat:=match ds.getLast? with
 | some (.tup (_ :: .lst w::_))=>w.length
 | _=>0
def Zau (γ:List (Option Pu.S)):Nat:=match γ[1]? with
 | some (some (Pu.S.own (Pu.O.lsA _ ds)))=>KR ds
 | _=>0
def Mt (ds:List D) (x:D):KR (ds++[x])=KR [x]:=by
 unfold KR;rw[Qa];rfl
def Dp (f0:List (Int×Int)) (hs:Hist):KR (Uc f0 hs)=(curW hs).length:=by
 rcases Wo hs with rfl|⟨l,x,rfl⟩
 ·rfl
 ·rw[W3,NH,Mt];unfold curW;rw[Qa];show(List.map prD x.2.2).length=_;rw[Yn]
def Ld {w:List (Int×Int)}{a b:Int} (h:(a,b)∈w):(XN w a b).length<w.length:=by
 unfold XN;refine Nat.lt_of_le_of_ne (Wk _ _) fun e=>?_
 have:=List.length_filter_eq_length_iff.mp e _ h
 simp at this
def RJ {f0:List (Int×Int)}{hs:Hist}{a b:Int} (h:(a,b)∈curW hs):addH f0 hs (.drop a b)=hs++[(.drop a b,curF f0 hs,XN (curW hs) a b)]:=by
 unfold addH;rw[Yr]
 ·rfl
 ·show Ux (curW hs) a b=none;unfold Ux;rw[Yr h]
def Na (hs:Hist) (x:Dd×List (Int×Int)×List (Int×Int)):curW (hs++[x])=x.2.2:=by unfold curW;rw[Qa]
def B3 (f0:List (Int×Int)) (hs:Hist) (x:Dd×List (Int×Int)×List (Int×Int)):curF f0 (hs++[x])=x.2.1:=by unfold curF;rw[Qa]
def Zb7 {α:Type} (f:α->D) {xs:List α} (h:xs≠[]):∃x∈xs,atI (xs.map f) (-1)=some (f x):=by
 rcases Wo xs with rfl|⟨l,x,rfl⟩
 ·exact absurd rfl h
 ·rw[W3];exact⟨x,by simp,PH f l x⟩
def HL {hs r:List Int} (h:Ring hs [] r):False:=by
 have h2:=h.two
 have:=h.last r[0] (r[r.length-1]'(by omega)) (Yo (by omega)) (Yo (by omega))
 cases this
def AV (y h u v:Int) (B:List (Int×Int)):∀A:List (Int×Int),tpL y (A++(h,u)::(h,v)::B)=tpL y (A++(h,u+v)::B)
 | []=>by
  simp only[List.nil_append,tpL];by_cases e:h=y
  ·rw[Yr e,Yr e,Yr e];omega
  ·rw[Yq e,Yq e,Yq e];omega
 | a::A=>by
  simp only[WC,tpL];rw[AV y h u v B A]
def Sm (x y h u v:Int) (B:List (Int×Int)):∀A:List (Int×Int),pcL x y (A++(h,u)::(h,v)::B)=pcL x y (A++(h,u+v)::B)
 | []=>by
  simp only[List.nil_append,pcL,tpL];by_cases e:x≠y/\h=y
  ·rw[Yr e,Yr e,Yr e,Yq (show ¬h=x from fun z=>e.1 (z.symm.trans e.2)),Int.zero_add,Int.add_mul]
   omega
  ·rw[Yq e,Yq e,Yq e];omega
 | a::A=>by
  simp only[WC,pcL];rw[Sm x y h u v B A,AV]
def En (h u v:Int) (A B:List (Int×Int)):JF (A++(h,u)::(h,v)::B)=JF (A++(h,u+v)::B):=by
 unfold JF;congr 1;funext z;simp
def NB (ps:List (Int×Int)) (x y:Int):pcM ps x y ps.length=pcL x y ps:=by
 rw[CQ _ _ _ _ (Yx _),Qf]
def Ah {ps:List (Int×Int)}{p:Int} (h1:1<=p) (h2:p<=ps.length):ps=ps.take (p-1).toNat++atP1 ps p::ps.drop p.toNat:=by
 have hl:(p-1).toNat<ps.length:=by omega
 have e:atP1 ps p=ps[(p-1).toNat]:=by
  unfold atP1;rw[Y1,Yo hl];rfl
 have e2:p.toNat=(p-1).toNat+1:=by omega
 rw[e,e2,←WZ hl,List.take_append_drop]
def Mi {ps:List (Int×Int)}{p w:Int} (h1:1<=p) (h2:p<=ps.length):(∀x y,pcM (UO ps p w) x y (UO ps p w).length=pcM ps x y ps.length)/\JF (UO ps p w)=JF ps:=by
 have e:=Ah h1 h2
 have e1:UO ps p w=ps.take (p-1).toNat++((atP1 ps p).1,w)::((atP1 ps p).1,(atP1 ps p).2-w)::ps.drop p.toNat:=by
  unfold UO;simp
 have e2:(w+((atP1 ps p).2-w))=(atP1 ps p).2:=by omega
 refine⟨fun x y=>?_,?_⟩
 ·rw[NB,NB,e1,Sm,e2];exact YS (pcL x y) e.symm
 ·rw[e1,En,e2];exact YS JF e.symm
def Zcd {ps:List (Int×Int)}{p:Int} (e:uniE ps p=none):(∀x y,pcM (uniL ps p) x y (uniL ps p).length=pcM ps x y ps.length)/\JF (uniL ps p)=JF ps:=by
 have el:=Mg e;rcases GO ps p with⟨z,_⟩|⟨z,_⟩|⟨z,_⟩|⟨_,_,h1,h2⟩
 ·rw[e] at z;cases z
 ·rw[e] at z;cases z
 ·rw[e] at z;cases z
 have e1:=Ah (ps:=ps) (p:=p) h1 (by omega);have hl:p.toNat<ps.length:=by omega
 have e2:ps.drop p.toNat=atP1 ps (p+1)::ps.drop (p+1).toNat:=by
  rw[WZ hl];unfold atP1;rw[Y1,Yo (show(p+1-1).toNat<ps.length by omega),show(p+1).toNat=p.toNat+1 by omega];congr 1;show ps[p.toNat]=ps[(p+1-1).toNat];congr 1;omega
 have e3:ps=ps.take (p-1).toNat++((atP1 ps p).1,(atP1 ps p).2)::((atP1 ps p).1,(atP1 ps (p+1)).2)::ps.drop (p+1).toNat:=by
  have e5:((atP1 ps p).1,(atP1 ps (p+1)).2)=atP1 ps (p+1):=by rw[el]
  rw[e5,←e2];exact e1
 have e4:uniL ps p=ps.take (p-1).toNat++((atP1 ps p).1,(atP1 ps p).2+(atP1 ps (p+1)).2)::ps.drop (p+1).toNat:=by
  unfold uniL;simp
 refine⟨fun x y=>?_,?_⟩
 ·rw[NB,NB,e4,←Sm];exact YS (pcL x y) e3.symm
 ·rw[e4,←En];exact YS JF e3.symm
def TabV.uniq {ws:List (Int×Int)}{c:Int->Int->Int}{S:List (List Int)}{vs us:List Int} (h:TabV ws c S vs) (k:TabV ws c S us):vs=us:=by
 refine List.ext_getElem (by rw[h.1,k.1]) fun i h1 h2=>?_;have hi:i<S.length:=by rw[←h.1];exact h1
 exact(h.2 i S[i] vs[i] (Yo hi) (Yo h1)).uniq (k.2 i S[i] us[i] (Yo hi) (Yo h2))
def TabV.last {ws:List (Int×Int)}{c:Int->Int->Int}{hs vs:List Int} (h:TabV ws c (JX hs) vs):∃v,atI (vs.map D.int) (-1)=some (.int v)/\Least ws c hs v:=by
 have e1:=FQ hs;rw[List.getLast?_eq_getElem?] at e1;have hi:=(YG.mp e1).1;have hl:=h.1;have hne:vs≠[]:=fun z=>by rw[z,List.length_nil] at hl;omega
 rcases Wo vs with rfl|⟨l,v,rfl⟩
 ·exact absurd rfl hne
 rw[W3] at h hl ⊢;refine⟨v,PH D.int l v,h.2 _ _ _ e1 ?_⟩;rw[←hl,Yy,YZ,Ql,YN (Yx _),Vo];rfl
def AJ {α:Type}{P:Int->Prop} (f:α->Option D):∀xs:List α,(∀a∈xs,∀d,f a=some d->∃v,d=.int v/\P v)->∃vs:List Int,xs.filterMap f=vs.map D.int/\∀v∈vs,P v
 | [],_=>⟨[],rfl,fun v hv=>by cases hv⟩
 | a::r,h=>by
  obtain⟨vs,e,hv⟩:=AJ f r fun b hb=>h b (YF _ hb);cases ef:f a with
  | none=>exact⟨vs,by rw[List.filterMap_cons_none ef];exact e,hv⟩
  | some d=>
   obtain⟨v,rfl,hP⟩:=h a YK d ef;exact⟨v::vs,by rw[List.filterMap_cons_some ef,e];rfl,fun u hu=>by rcases Y5.mp hu with rfl|hu;{ exact hP };{ exact hv u hu }⟩
end Pu
namespace Own
open PySem PySem.Spec PyProof.Rows L2
section
variable {prog:Program}{w:World}{A:Around}{E:Value->Shared->Prop}{s:Shared}{l:Addr}{xs:Array (Int×Tok)}
def OQ {Q:Value->Shared->Prop} (hh:A.handled=none) (hl:s.heap.IsTuple l (intItems xs)) (hne:0<xs.size)
  (h:∀v h' tk,(intItems xs)[argBest (fun i j=>decide (numAt xs i<numAt xs j)) (xs.size-1)]?=some v->(∀b o,s.heap.get? b=some o->h'.get? b=some o)->Q v { s with heap:=h',toks:=tk }) :
  wpAny (model prog w) A (call (.builtin "min") [.ref l]) Q E s:=by
 have hlt:l<s.heap.objs.size:=by obtain⟨_,e,_⟩:=hl;exact Y3 e
 refine call_min_walk (wpAny_pyIter_tuple hl ?_);refine⟨_,[_,l],[_],_,_,_,_,rfl,Walks.tuple (A:=A.in1) hh _ l (YL hlt) (intItems xs),⟨⟨_,Y6 _ rfl,rfl,rfl⟩,hl.push _⟩,fun c hc=>?_,by simpa [intItems] using hne,CmpOf.ints_lt (numAt xs) (fun _ _=>intItems_at),fun v h' tk hP hk=>?_⟩
 ·show c<(s.heap.push _).objs.size;rw[Qb];rcases Y5.mp hc with rfl|hc
  ·exact Qd _
  ·rcases Y5.mp hc with rfl|hc
   ·exact WW hlt
   ·cases hc
 ·refine h v h' tk (by simpa [intItems] using hP) fun b o e=>hk b o (fun hm=>?_) (Yu _ e);rcases Y5.mp hm with e1|hm
  ·exact absurd (e1▸Y3 e) (W5 _)
  ·cases hm
def OL {Q:Value->Shared->Prop} (hh:A.handled=none) (hl:s.heap.IsTuple l (intItems xs)) (hne:0<xs.size)
  (h:∀v h' tk,(intItems xs)[argBest (fun i j=>decide (numAt xs i>numAt xs j)) (xs.size-1)]?=some v->(∀b o,s.heap.get? b=some o->h'.get? b=some o)->Q v { s with heap:=h',toks:=tk }) :
  wpAny (model prog w) A (call (.builtin "max") [.ref l]) Q E s:=by
 have hlt:l<s.heap.objs.size:=by obtain⟨_,e,_⟩:=hl;exact Y3 e
 refine call_max_walk (wpAny_pyIter_tuple hl ?_);refine⟨_,[_,l],[_],_,_,_,_,rfl,Walks.tuple (A:=A.in1) hh _ l (YL hlt) (intItems xs),⟨⟨_,Y6 _ rfl,rfl,rfl⟩,hl.push _⟩,fun c hc=>?_,by simpa [intItems] using hne,CmpOf.ints_gt (numAt xs) (fun _ _=>intItems_at),fun v h' tk hP hk=>?_⟩
 ·show c<(s.heap.push _).objs.size;rw[Qb];rcases Y5.mp hc with rfl|hc
  ·exact Qd _
  ·rcases Y5.mp hc with rfl|hc
   ·exact WW hlt
   ·cases hc
 ·refine h v h' tk (by simpa [intItems] using hP) fun b o e=>hk b o (fun hm=>?_) (Yu _ e);rcases Y5.mp hm with e1|hm
  ·exact absurd (e1▸Y3 e) (W5 _)
  ·cases hm
end
section
variable {X:Cx}{K:Za}
def Oj (hc:X.calm=true) (hK:X.K=K:=by rfl):UF X (.builtin "min") (fun xs H Q=>∃(p:Addr) (a b:Int),xs=[.ref p]/\SqT K H p [.int a,.int b]/\Q (.int (if b<a then b else a)) H):=by
 subst hK;intro pins s σ H xs us Q I rv h;obtain⟨p,a,b,rfl,hS,q⟩:=h;obtain⟨u,rfl,ru⟩:=rv.one;obtain rfl:u=Value.ref p:=ru;obtain⟨its,r,pl,_⟩:=I.tuple hS;cases r with
 | cons r1 r=>
  cases r with
  | cons r2 r=>
   cases r
   obtain⟨t1,rfl⟩:=r1;obtain⟨t2,rfl⟩:=r2;have hl:s.heap.IsTuple p (intItems #[(a,t1),(b,t2)]):=by have this:s.heap.IsTuple p _:=pl;simpa [intItems] using this
   refine OQ (I.ok.hd hc) hl (by simp) fun v h' tk hP hk=>?_;have hP':(intItems #[(a,t1),(b,t2)])[argBest (fun i j=>decide (numAt #[(a,t1),(b,t2)] i<numAt #[(a,t1),(b,t2)] j)) 1]?=some v:=hP;by_cases hba:b<a
   ·have e:argBest (fun i j=>decide (numAt #[(a,t1),(b,t2)] i<numAt #[(a,t1),(b,t2)] j)) 1=1:=by simp[argBest,numAt,hba]
    rw[e] at hP';obtain rfl:Value.int b t2=v:=by simpa [intItems] using hP'
    rw[Yr hba] at q;exact⟨.int b,H,I.kept (t':=tk) hk,⟨_,rfl⟩,q⟩
   ·have e:argBest (fun i j=>decide (numAt #[(a,t1),(b,t2)] i<numAt #[(a,t1),(b,t2)] j)) 1=0:=by simp[argBest,numAt,hba]
    rw[e] at hP';obtain rfl:Value.int a t1=v:=by simpa [intItems] using hP'
    rw[Yq hba] at q;exact⟨.int a,H,I.kept (t':=tk) hk,⟨_,rfl⟩,q⟩
def Zdr (hc:X.calm=true) (hK:X.K=K:=by rfl):UF X (.builtin "max") (fun xs H Q=>∃(p:Addr) (a b:Int),xs=[.ref p]/\SqT K H p [.int a,.int b]/\Q (.int (if b>a then b else a)) H):=by
 subst hK;intro pins s σ H xs us Q I rv h;obtain⟨p,a,b,rfl,hS,q⟩:=h;obtain⟨u,rfl,ru⟩:=rv.one;obtain rfl:u=Value.ref p:=ru;obtain⟨its,r,pl,_⟩:=I.tuple hS;cases r with
 | cons r1 r=>
  cases r with
  | cons r2 r=>
   cases r
   obtain⟨t1,rfl⟩:=r1;obtain⟨t2,rfl⟩:=r2;have hl:s.heap.IsTuple p (intItems #[(a,t1),(b,t2)]):=by have this:s.heap.IsTuple p _:=pl;simpa [intItems] using this
   refine OL (I.ok.hd hc) hl (by simp) fun v h' tk hP hk=>?_;have hP':(intItems #[(a,t1),(b,t2)])[argBest (fun i j=>decide (numAt #[(a,t1),(b,t2)] i>numAt #[(a,t1),(b,t2)] j)) 1]?=some v:=hP;by_cases hba:b>a
   ·have e:argBest (fun i j=>decide (numAt #[(a,t1),(b,t2)] i>numAt #[(a,t1),(b,t2)] j)) 1=1:=by simp[argBest,numAt,hba]
    rw[e] at hP';obtain rfl:Value.int b t2=v:=by simpa [intItems] using hP'
    rw[Yr hba] at q;exact⟨.int b,H,I.kept (t':=tk) hk,⟨_,rfl⟩,q⟩
   ·have e:argBest (fun i j=>decide (numAt #[(a,t1),(b,t2)] i>numAt #[(a,t1),(b,t2)] j)) 1=0:=by simp[argBest,numAt,hba]
    rw[e] at hP';obtain rfl:Value.int a t1=v:=by simpa [intItems] using hP'
    rw[Yq hba] at q;exact⟨.int a,H,I.kept (t':=tk) hk,⟨_,rfl⟩,q⟩
end
end Own
namespace Pu
open PySem PySem.Spec PyProof.Rows L2 Own
section
variable {K:Za}{mg:Str->Option Value}{E:L2.St->XK}
def E6:List S->(S->Prop)->Prop
 | [s],R=>(match s.d with | .tup [.int a,.int b]=>R (.sh (.int (if b<a then b else a)))|_=>False)
 | _,_=>False
def EU:List S->(S->Prop)->Prop
 | [s],R=>(match s.d with | .tup [.int a,.int b]=>R (.sh (.int (if b>a then b else a)))|_=>False)
 | _,_=>False
def Lf {ta:TA}{r:PTA} (hr:SndA K mg E ta r):SndE K mg E (tCB (fun xs H Q=>∃(p:Addr) (a b:Int),xs=[.ref p]/\SqT K H p [.int a,.int b]/\Q (.int (if b<a then b else a)) H) ta) (pCB E6 r):=by
 refine XF hr fun H0 H H1 Z ss vs R Q s0 s1 hm tv h q=>?_;unfold E6 at h;split at h
 ·rename_i s;obtain⟨v,rfl,t1⟩:=tv.one_inv;have rv:=t1.rp s0;split at h
  ·rename_i a b e;rw[e] at rv;obtain⟨p,us,rfl,hp,r1⟩:=Rp.tup_inv rv;obtain⟨x,y,rfl,q1,q2⟩:=r1.two_inv;rw[q1.int_inv,q2.int_inv] at hp;exact⟨p,a,b,rfl,SqT.of hp,q _ _ H1 h (Same.refl _) (.int _)⟩
  ·exact h.elim
 ·exact h.elim
def Zcz {ta:TA}{r:PTA} (hr:SndA K mg E ta r):SndE K mg E (tCB (fun xs H Q=>∃(p:Addr) (a b:Int),xs=[.ref p]/\SqT K H p [.int a,.int b]/\Q (.int (if b>a then b else a)) H) ta) (pCB EU r):=by
 refine XF hr fun H0 H H1 Z ss vs R Q s0 s1 hm tv h q=>?_;unfold EU at h;split at h
 ·rename_i s;obtain⟨v,rfl,t1⟩:=tv.one_inv;have rv:=t1.rp s0;split at h
  ·rename_i a b e;rw[e] at rv;obtain⟨p,us,rfl,hp,r1⟩:=Rp.tup_inv rv;obtain⟨x,y,rfl,q1,q2⟩:=r1.two_inv;rw[q1.int_inv,q2.int_inv] at hp;exact⟨p,a,b,rfl,SqT.of hp,q _ _ H1 h (Same.refl _) (.int _)⟩
  ·exact h.elim
 ·exact h.elim
end
section
variable {X:Cx}{k j:Nat}{x:Str}{ps:List Str}{sp:Sp}{e a b c:Expr}{es:List Expr}{t:TA}{te tf tg:TE}{p pos:Pos}
def fz (C:Callee X.prog X.w X.K X.mg X.base CX0 k x ps sp) (hr:Room j X.A) (ha:PA X (e::es) t) (hk:k<=j:=by decide) (hg:Gl X x:=by rfl) (hdb:(x==("__debug__" : Str))=false:=by decide) (he:starEach (e::es) X.env=(false,eval e X.env)::starEach es X.env:=by rfl) (hpl:(backTo pos (starEach es X.env)).any (·.1)=false:=by rfl) :
  PE X (.Call (.Name x p) (e::es) [] pos) (K6 sp [] E0 t):=UW C (hr.mono hk) Ui ha hg hdb he hpl
def jx (K:Za) (ha:PE X a te) (hb:PE X b tf) (hK:X.K=K:=by rfl) (hs:Ce b:=by intro _ _;rfl):PE X (.Subscript a b pos) (tOp (fun x y H Q=>rIxL K x y H Q\/rIxT K x y H Q) te tf):=AQ (Es hK) ha hb hs
def gz (i:Nat) (hN:X.N.Nodup) (hi:X.N[i]?=some x:=by rfl) (hx:Loc X.env.scope x:=by first|exact Or.inl rfl|exact Or.inr rfl) (hf:X.fn x=true\/X.env.scope.names.lookup x=some .local:=by first|exact .inl rfl|exact .inr rfl|assumption):PG X (.Name x pos) (P3 i):=By hN hi hx hf
def ln (K:Za) (hm:X.mg "len"=none) (ha:PE X a te) (hK:X.K=K:=by rfl) (hg:Gl X "len":=by rfl) (hs:starEach [a] X.env=(false,eval a X.env)::starEach [] X.env:=by rfl) (hpl:(backTo pos (starEach [] X.env)).any (·.1)=false:=by rfl) :
  PE X (.Call (.Name "len" p) [a] [] pos) (tCB (fun xs H Q=>∃x n,xs=[x]/\LenV K x H n/\Q (.int (n:Nat)) H) (UJ te tNil)):=U7 (OI hK) hg hm PySem.boot_len (JG ha JY hs) (by decide) (by decide) hs hpl
def cq (K:Za) (hr:Room j X.A) (ha:PE X a te) (hb:PE X b tf) (hK:X.K=K:=by rfl):PT X (.Compare a [.Eq] [b] pos) (Ng (tOp (fun x y H Q=>rEq x y H Q\/rEqL K false x y H Q) te tf)):=JL (PM hr.units0 hK) ha hb (JN _)
def cn (K:Za) (hr:Room j X.A) (ha:PE X a te) (hb:PE X b tf) (hK:X.K=K:=by rfl):PT X (.Compare a [.NotEq] [b] pos) (Ng (tOp (fun x y H Q=>rNe x y H Q\/rEqL K true x y H Q) te tf)):=JL (Zas hr.units0 hK) ha hb (JN _)
def az (ha:PE X a te) (h1:starEach [a] X.env=(false,eval a X.env)::starEach [] X.env:=by rfl):PA X [a] (UJ te tNil):=JG ha JY h1
def bz (ha:PE X a te) (hb:PE X b tf) (h1:starEach [a,b] X.env=(false,eval a X.env)::starEach [b] X.env:=by rfl) (h2:starEach [b] X.env=(false,eval b X.env)::starEach [] X.env:=by rfl):PA X [a,b] (UJ te (UJ tf tNil)):=JG ha (JG hb JY h2) h1
def dz (ha:PE X a te) (hb:PE X b tf) (hc:PE X c tg) (h1:starEach [a,b,c] X.env=(false,eval a X.env)::starEach [b,c] X.env:=by rfl) (h2:starEach [b,c] X.env=(false,eval b X.env)::starEach [c] X.env:=by rfl) (h3:starEach [c] X.env=(false,eval c X.env)::starEach [] X.env:=by rfl):PA X [a,b,c] (UJ te (UJ tf (UJ tg tNil))):=JG ha (JG hb (JG hc JY h3) h2) h1
end
section
variable {K:Za}{mg:Str->Option Value}{E:L2.St->XK}{ta tb tc:TE}{a b c:PTE}
def sz (ha:SndE K mg E ta a):SndA K mg E (UJ ta tNil) (KF a pNil):=JK ha JJ
def tz (ha:SndE K mg E ta a) (hb:SndE K mg E tb b):SndA K mg E (UJ ta (UJ tb tNil)) (KF a (KF b pNil)):=JK ha (sz hb)
def uz (ha:SndE K mg E ta a) (hb:SndE K mg E tb b) (hc:SndE K mg E tc c):SndA K mg E (UJ ta (UJ tb (UJ tc tNil))) (KF a (KF b (KF c pNil))):=JK ha (tz hb hc)
end
section
variable {K:Za}{h:Heap}{mg:Str->Option Value}{C C':Addr}{x m q:Str}{st:Stmt}{ps:List Str}
abbrev Bd (x q:Str) (st:Stmt) (ps:List Str):Prop:=∀(kV doc pm:Value) (an:Option Addr) (cdv ct:Value) (us:List Value),us.length=ps.length->bindArgs (PySem.W.fnOf x q (XC st) (UH st) (J5 st) .none kV doc pm an cdv ct) ⟨us,[]⟩=pure (ps.zip us)
def DI.e (D:DI K x st) (X:K.In h) (G0:h.Ns mainGlobals mg) (b:Bd x x st ps:=by
  intro _ _ _ _ _ _ us hl
  first
   | (obtain⟨_,rfl⟩:=Pu.len1 hl;rfl)
   | (obtain⟨_,_,rfl⟩:=Pu.len2 hl;rfl)
   | (obtain⟨_,_,_,rfl⟩:=Pu.len3 hl;rfl)
   | (obtain⟨_,_,_,_,rfl⟩:=Pu.len4 hl;rfl)
   | (obtain⟨_,_,_,_,_,rfl⟩:=Pu.len5 hl;rfl)):Def K mg x st ps:=D.d X G0 b
def MI.e (D:MI K C m q st) (e:C'=C) (b:Bd m q st ps:=by
  intro _ _ _ _ _ _ us hl
  first
   | (obtain⟨_,rfl⟩:=Pu.len1 hl;rfl)
   | (obtain⟨_,_,rfl⟩:=Pu.len2 hl;rfl)
   | (obtain⟨_,_,_,rfl⟩:=Pu.len3 hl;rfl)
   | (obtain⟨_,_,_,_,rfl⟩:=Pu.len4 hl;rfl)):DefM K (Meth K C' m) m q st ps:=D.d e b
def MI.j (D:MI K C "__init__" q st) (e:C'=C) (mk:PySem.W.makesIn K C=true) (kc:PySem.W.keepIn K (.ref C)=true) (b:Bd "__init__" q st ps:=by
  intro _ _ _ _ _ _ us hl
  first
   | (obtain⟨_,rfl⟩:=Pu.len1 hl;rfl)
   | (obtain⟨_,_,rfl⟩:=Pu.len2 hl;rfl)
   | (obtain⟨_,_,_,rfl⟩:=Pu.len3 hl;rfl)):DefM K (Mk K C') "__init__" q st ps:=D.i e mk kc b
end
section
variable {P:Program}{w:World}{K:Za}{mg:Str->Option Value}{base:Heap}{N ps:List Str}{sp:Sp}{p:PTS}{x q:Str}{st:Stmt}{k:Nat}{W:Addr->Prop}
structure Uz (K:Za) (mg:Str->Option Value) (N ps:List Str) (sp:Sp) (p:PTS):Prop where
 len:∀vs H Q E,sp vs H Q E->vs.length=ps.length
 run:∀vs H Q E t,sp vs H Q E->SndS K mg (fun _=>E) t p->t { nx:=fun _ H'=>Q .non H',rt:=Q } (start N vs) H
def Uz.a {c:Pc} (hp:∀ds R X,c ds R X->ds.length=ps.length/\p { nx:=fun _=>R (.sh .non),rt:=R,ex:=fun _ e=>X e } (XE N ds)) (hn:ps.length<=N.length:=by decide):Uz K mg N ps (spOf mg c K) p:=
 ⟨fun _ _ _ _ h=>Za3 h fun ds R X z=>(hp ds R X z).1,fun _ _ _ _ _ h s=>LM h s hn hp⟩
def Uz.b {c:Pq} (hp:∀ss R X,c ss R X->ss.length=ps.length/\p { nx:=fun _=>R (.sh .non),rt:=R,ex:=fun _ e=>X e } (Kz N ss)) (hn:ps.length<=N.length:=by decide):Uz K mg N ps (spS mg c K) p:=
 ⟨fun _ _ _ _ h=>Zb6 h fun ds R X z=>(hp ds R X z).1,fun _ _ _ _ _ h s=>LF h s hn hp⟩
def Uz.c {c:Pw}{y:Str} (hp:∀o ss R X,c o ss R X->ss.length=ps.length/\p (DU o R X) (Kt N o ss)) (hn:ps.length+1<=N.length:=by decide):Uz K mg N (y::ps) (spW mg c K) p:=
 ⟨fun _ _ _ _ h=>IZ h fun o ds R X z=>(hp o ds R X z).1,fun _ _ _ _ _ h s=>LU h s hn hp⟩
def Uz.d {c:Pw2}{y z:Str} (hp:∀o1 o2 ss R X,c o1 o2 ss R X->ss.length=ps.length/\p (CH o1 o2 R X) (XJ N o1 o2 ss)) (hn:ps.length+2<=N.length:=by decide):Uz K mg N (y::z::ps) (spW2 mg c K) p:=
 ⟨fun _ _ _ _ h=>Rl h fun o1 o2 ds R X z=>(hp o1 o2 ds R X z).1,fun _ _ _ _ _ h s=>Lq h s hn hp⟩
def _root_.Own.Def.oz (D:Def K mg x st ps) (S:FnScope N ps (J5 st))
  (tr:∀(f:Addr) (cdv:Value) (A:Around) (outer:List Env) (s:Shared) (H:Hp) (E:XK),Room k (A.deeper (envOfC x (J5 st) s.heap.objs.size f cdv))->
   ∃t,PSs (cxOf CX0 P w K mg base N x (J5 st) f cdv A outer s H E).nox (UH st) t/\SndS K mg (fun _=>E) t p) (u:Uz K mg N ps sp p):Callee P w K mg base CX0 (k+1) x ps sp:=
 D.ok S u.len fun f cdv A outer s H vs Q E hr h=>(tr f cdv A outer s H E hr).elim fun t z=>⟨t,z.1,u.run _ _ _ _ _ h z.2⟩
def _root_.Own.Def.ox (D:Def K mg x st ps) (S:FnScope N ps (J5 st))
  (tr:∀(f:Addr) (cdv:Value) (A:Around) (outer:List Env) (s:Shared) (H:Hp) (E:XK),Room k (A.deeper (envOfC x (J5 st) s.heap.objs.size f cdv))->
   ∃t,PSs (cxOf (ExcR.CXe P w) P w K mg base N x (J5 st) f cdv A outer s H E) (UH st) t/\SndS K mg (fun _=>E) t p) (u:Uz K mg N ps sp p):Callee P w K mg base (ExcR.CXe P w) (k+1) x ps sp:=
 ExcR.Def.okX D S u.len fun f cdv A outer s H vs Q E hr h=>(tr f cdv A outer s H E hr).elim fun t z=>⟨t,z.1,u.run _ _ _ _ _ h z.2⟩
def DefM.oz (D:DefM K W x q st ps) (S:FnScope N ps (J5 st))
  (tr:∀(f:Addr) (cdv:Value) (A:Around) (outer:List Env) (s:Shared) (H:Hp) (E:XK),Room k (A.deeper (envOfC q (J5 st) s.heap.objs.size f cdv))->
   ∃t,PSs (cxOf CX0 P w K mg base N q (J5 st) f cdv A outer s H E).nox (UH st) t/\SndS K mg (fun _=>E) t p) (u:Uz K mg N ps sp p):CalleeM P w K mg base CX0 (k+1) W ps sp:=
 D.ok S u.len fun f cdv A outer s H vs Q E hr h=>(tr f cdv A outer s H E hr).elim fun t z=>⟨t,z.1,u.run _ _ _ _ _ h z.2⟩
def DefM.ox (D:DefM K W x q st ps) (S:FnScope N ps (J5 st))
  (tr:∀(f:Addr) (cdv:Value) (A:Around) (outer:List Env) (s:Shared) (H:Hp) (E:XK),Room k (A.deeper (envOfC q (J5 st) s.heap.objs.size f cdv))->
   ∃t,PSs (cxOf (ExcR.CXe P w) P w K mg base N q (J5 st) f cdv A outer s H E) (UH st) t/\SndS K mg (fun _=>E) t p) (u:Uz K mg N ps sp p):CalleeM P w K mg base (ExcR.CXe P w) (k+1) W ps sp:=
 D.okX S u.len fun f cdv A outer s H vs Q E hr h=>(tr f cdv A outer s H E hr).elim fun t z=>⟨t,z.1,u.run _ _ _ _ _ h z.2⟩
end
section
variable {K:Za}{h:Heap}{mg:Str->Option Value}{x:Str}{C:Addr}
structure EI (K:Za) (x:Str) (C:Addr):Prop where
 a:PySem.W.nsIn K mainGlobals x=some (some (.ref C))
 g:ExcR.ErrGet K C
def ei {d:ClassData} (a:PySem.W.nsIn K mainGlobals x=some (some (.ref C))) (q:PySem.W.excIn K C [.type "ValueError",.type "Exception",.type "BaseException",.type "object"] "ValueError.__new__"=true)
  (ga:PySem.W.findIn K (.ref C) "__getattribute__"=some (some (.builtin "BaseException.__getattribute__"))) (gt:PySem.W.findIn K (.ref C) "__getattr__"=some none)
  (cl:PySem.W.findIn K (.ref C) "__class__"=some (some (.builtin "object.__class__"))) (i:PySem.W.clsIn K C=some d):EI K x C:=⟨a,⟨⟨q⟩,ga,gt,cl,by rw[i];rfl⟩⟩
def EI.c (y:EI K x C) (X:K.In h) (G0:h.Ns mainGlobals mg):ExcR.J3 mg x=C:=ExcR.FU (Wv X G0 y.a)
def EI.m (y:EI K x C) (X:K.In h) (G0:h.Ns mainGlobals mg):mg x=some (.ref (ExcR.J3 mg x)):=by rw[y.c X G0];exact Wv X G0 y.a
def EI.k (y:EI K x C) (X:K.In h) (G0:h.Ns mainGlobals mg):ExcR.ErrGet K (ExcR.J3 mg x):=by rw[y.c X G0];exact y.g
end
end Pu
namespace T
open PySem PySem.Spec PyProof.Rows L2
def top (i:Nat):Stmt:=PySem.Challenge.pw_stripmeld_k42_whole_parted_and_joined.main.body.getD i (.Pass ⟨0,0,0,0⟩)
abbrev Fl:Stmt:=top 22
def Zd6:FnScope ["holder"] ["holder"] (J5 Fl):=Pu.fs
abbrev SW:Stmt:=top 23
def RO:FnScope ["width"] ["width"] (J5 SW):=Pu.fs
abbrev BA:Stmt:=top 24
def Fm:FnScope ["strips","holder","width"] ["strips"] (J5 BA):=Pu.fs
abbrev FH:Stmt:=top 25
def Rf:FnScope ["strips"] ["strips"] (J5 FH):=Pu.fs
abbrev Bu:Stmt:=top 27
def KP:FnScope ["strips","ahead","behind","to_pass","cost","holder","width"] ["strips","ahead","behind"] (J5 Bu):=Pu.fs
abbrev FD:Stmt:=top 29
def IL:FnScope ["strips","place"] ["strips","place"] (J5 FD):=Pu.fs
abbrev Bv:Stmt:=top 32
def TJ:FnScope ["paths","left","wishes","longer","reached","path","holder"] ["paths","left","wishes"] (J5 Bv):=Pu.fs
abbrev Bi:Stmt:=top 33
def Pb:FnScope ["least","holders","wishes","paths","left","rings","reached"] ["least","holders","wishes"] (J5 Bi):=Pu.fs
abbrev Fj:Stmt:=top 34
def PV:FnScope ["holders","wishes","ring","least","found"] ["holders","wishes"] (J5 Fj):=Pu.fs
abbrev Fp:Stmt:=top 35
def E9:FnScope ["strips","wishes","ring"] ["strips","wishes"] (J5 Fp):=Pu.fs
abbrev FJ:Stmt:=top 37
def Zbn:FnScope ["strips","place"] ["strips","place"] (J5 FJ):=Pu.fs
abbrev BG:Stmt:=top 38
def ED:FnScope ["strips","place","holder","strip"] ["strips","place","holder"] (J5 BG):=Pu.fs
abbrev SY:Stmt:=top 39
def EM:FnScope ["strips","place","width","strip"] ["strips","place","width"] (J5 SY):=Pu.fs
abbrev NZ:Stmt:=top 40
def Sg:FnScope ["strips","place","left","right"] ["strips","place"] (J5 NZ):=Pu.fs
abbrev Fz:Stmt:=top 41
def Zb3:FnScope ["wishes","ahead","behind"] ["wishes","ahead","behind"] (J5 Fz):=Pu.fs
abbrev F6:Stmt:=top 42
def Zad:FnScope ["wishes","ahead","behind"] ["wishes","ahead","behind"] (J5 F6):=Pu.fs
abbrev BH:Stmt:=top 44
def T6:FnScope ["strips","holders","costs","ahead","behind"] ["strips"] (J5 BH):=Pu.fs
abbrev BS:Stmt:=top 45
def Nc:FnScope ["holders","sets","holder"] ["holders"] (J5 BS):=Pu.fs
abbrev NU:Stmt:=top 46
def Za5:FnScope ["members","holder"] ["members","holder"] (J5 NU):=Pu.fs
abbrev Bb:Stmt:=top 47
def RD:FnScope ["members","holder","wishes"] ["members","holder","wishes"] (J5 Bb):=Pu.fs
abbrev BQ:Stmt:=top 48
def HE:FnScope ["members","holder","wishes"] ["members","holder","wishes"] (J5 BQ):=Pu.fs
abbrev F9:Stmt:=top 49
def E2:FnScope ["members","last","least","pairs","others"] ["members","last","least","pairs"] (J5 F9):=Pu.fs
abbrev SX:Stmt:=top 50
def CS:FnScope ["members","first","least","pairs","others"] ["members","first","least","pairs"] (J5 SX):=Pu.fs
abbrev Ss:Stmt:=top 51
def Nr:FnScope ["strips","wishes","pairs","least","members","lasts"] ["strips","wishes","pairs"] (J5 Ss):=Pu.fs
abbrev BV:Stmt:=top 52
def Ef:FnScope ["strips","wishes","least"] ["strips","wishes"] (J5 BV):=Pu.fs
abbrev B8:Stmt:=top 53
def Kw:FnScope ["strips","wishes","pairs","least","members","order","firsts","best"] ["strips","wishes"] (J5 B8):=Pu.fs
abbrev Sx:Stmt:=top 54
def Lz:FnScope ["strips","wishes"] ["strips","wishes"] (J5 Sx):=Pu.fs
abbrev F7:Stmt:=inClass (top 57) 0
def RU:FnScope ["self","strips"] ["self","strips"] (J5 F7):=Pu.fs
abbrev Bx:Stmt:=inClass (top 57) 1
def MV:FnScope ["self"] ["self"] (J5 Bx):=Pu.fs
abbrev F1:Stmt:=inClass (top 57) 2
def Zdf:FnScope ["self"] ["self"] (J5 F1):=Pu.fs
abbrev Bg:Stmt:=inClass (top 57) 3
def Zcr:FnScope ["self"] ["self"] (J5 Bg):=Pu.fs
abbrev BX:Stmt:=inClass (top 57) 4
def Hx:FnScope ["self"] ["self"] (J5 BX):=Pu.fs
abbrev Sa:Stmt:=inClass (top 57) 5
def Ip:FnScope ["self","deed","field","wishes"] ["self","deed","field","wishes"] (J5 Sa):=Pu.fs
abbrev BE:Stmt:=inClass (top 57) 6
def FV:FnScope ["self","place","holder","field"] ["self","place","holder"] (J5 BE):=Pu.fs
abbrev FP:Stmt:=inClass (top 57) 7
def Eh:FnScope ["self","place","width","field"] ["self","place","width"] (J5 FP):=Pu.fs
abbrev SG:Stmt:=inClass (top 57) 8
def AS:FnScope ["self","place","field"] ["self","place"] (J5 SG):=Pu.fs
abbrev Su:Stmt:=inClass (top 57) 9
def GE:FnScope ["self","ahead","behind","wishes"] ["self","ahead","behind"] (J5 Su):=Pu.fs
abbrev Fy:Stmt:=inClass (top 57) 10
def D4:FnScope ["self","ahead","behind","wishes"] ["self","ahead","behind"] (J5 Fy):=Pu.fs
abbrev BO:Stmt:=inClass (top 57) 11
def Oz:FnScope ["self"] ["self"] (J5 BO):=Pu.fs
abbrev F4:Stmt:=inClass (top 57) 14
def L3:FnScope ["self"] ["self"] (J5 F4):=Pu.fs
abbrev BK:Stmt:=inClass (top 57) 15
def Ro:FnScope ["self"] ["self"] (J5 BK):=Pu.fs
abbrev F5:Stmt:=inClass (top 57) 16
def Zb9:FnScope ["self"] ["self"] (J5 F5):=Pu.fs
abbrev Fw:Stmt:=top 59
def Za2:FnScope ["_law_script","_law_k"] ["_law_script","_law_k"] (J5 Fw):=Pu.fs
abbrev Fn:Stmt:=top 60
def Za4:FnScope ["_law_found"] ["_law_found"] (J5 Fn):=Pu.fs
abbrev SS:Stmt:=top 61
def Cz:FnScope ["_law_cell","_law_place_here","_law_first"] ["_law_cell","_law_place_here"] (J5 SS):=Pu.fs
abbrev SN:Stmt:=top 62
def Lp:FnScope ["_law_script","_law_k"] ["_law_script","_law_k"] (J5 SN):=Pu.fs
abbrev Fh:Stmt:=top 63
def Zee:FnScope ["_law_script"] ["_law_script"] (J5 Fh):=Pu.fs
abbrev Bp:Stmt:=top 64
def BJ:FnScope ["_law_cell","_law_wide","_law_least"] ["_law_cell"] (J5 Bp):=Pu.fs
abbrev Sf:Stmt:=top 65
def Zef:FnScope ["_law_menu_here","_law_k"] ["_law_menu_here","_law_k"] (J5 Sf):=Pu.fs
abbrev Bf:Stmt:=top 66
def Du:FnScope ["_law_found","_law_due","_law_k"] ["_law_found","_law_due"] (J5 Bf):=Pu.fs
abbrev S7:Stmt:=top 67
def BW:FnScope ["_law_found","_law_due","_law_k","_law_j"] ["_law_found","_law_due"] (J5 S7):=Pu.fs
abbrev F8:Stmt:=top 68
def EO:FnScope ["_law_found","_law_due","_law_j"] ["_law_found","_law_due"] (J5 F8):=Pu.fs
abbrev FR:Stmt:=top 69
def CY:FnScope ["_law_found","_law_due","_law_k"] ["_law_found","_law_due"] (J5 FR):=Pu.fs
abbrev Sw:Stmt:=top 70
def Az:FnScope ["_law_strips","_law_owners"] ["_law_strips"] (J5 Sw):=Pu.fs
abbrev SO:Stmt:=top 71
def P7:FnScope ["_law_strips","_law_order","_law_ranks","_law_total","_law_k","_law_j"] ["_law_strips","_law_order"] (J5 SO):=Pu.fs
abbrev Sn:Stmt:=top 72
def Pj:FnScope ["_law_holders","_law_wishes","_law_left","_law_turn","_law_inside","_law_behind"] ["_law_holders","_law_wishes"] (J5 Sn):=Pu.fs
abbrev Bq:Stmt:=top 73
def GN:FnScope ["_law_village","_law_past","_law_pair_here"] ["_law_village","_law_past"] (J5 Bq):=Pu.fs
abbrev Fv:Stmt:=top 74
def Tp:FnScope ["_law_strips","_law_deed_here","_law_place_here","_law_holder_here","_law_width_here","_law_parts"] ["_law_strips","_law_deed_here"] (J5 Fv):=Pu.fs
abbrev FN:Stmt:=top 75
def Av:FnScope ["_law_wishes","_law_deed_here","_law_pair_here"] ["_law_wishes","_law_deed_here"] (J5 FN):=Pu.fs
abbrev Si:Stmt:=top 76
def Sv:FnScope ["_law_now","_law_deed_here","_law_step_here"] ["_law_now","_law_deed_here"] (J5 Si):=Pu.fs
abbrev SD:Stmt:=top 77
def LA:FnScope ["_law_village","_law_deed_here"] ["_law_village","_law_deed_here"] (J5 SD):=Pu.fs
abbrev Bh:Stmt:=top 78
def Za8:FnScope ["_law_village","_law_past"] ["_law_village","_law_past"] (J5 Bh):=Pu.fs
abbrev SL:Stmt:=top 79
def BZ:FnScope ["_law_village","_law_past","_law_deed_here","_law_step_here","_law_found"] ["_law_village","_law_past","_law_deed_here"] (J5 SL):=Pu.fs
abbrev BL:Stmt:=top 80
def K8:FnScope ["_law_script","_law_menu_here","_law_many","_law_rest","_law_strips","_law_k","_law_cell","_law_width_here"] ["_law_script","_law_menu_here","_law_many"] (J5 BL):=Pu.fs
abbrev F3:Stmt:=top 81
def OE:FnScope ["_law_script","_law_most"] ["_law_script","_law_most"] (J5 F3):=Pu.fs
abbrev B0:Stmt:=top 82
def MB:FnScope ["_law_cell","_law_good"] ["_law_cell","_law_good"] (J5 B0):=Pu.fs
abbrev FS:Stmt:=top 83
def Hs:FnScope ["_law_cell","_law_strips"] ["_law_cell","_law_strips"] (J5 FS):=Pu.fs
abbrev FO:Stmt:=top 84
def Tf:FnScope ["_law_cell","_law_menu_here","_law_pool","_law_one","_law_two","_law_ahead"] ["_law_cell","_law_menu_here"] (J5 FO):=Pu.fs
abbrev Se:Stmt:=top 85
def K4:FnScope ["_law_script","_law_menu_here","_law_seed","_law_many","_law_deeds","_law_k","_law_pair_here"] ["_law_script","_law_menu_here"] (J5 Se):=Pu.fs
abbrev NY:Stmt:=top 86
def IB:FnScope ["_law_cell","_law_strips","_law_place_here"] ["_law_cell","_law_strips","_law_place_here"] (J5 NY):=Pu.fs
abbrev FF:Stmt:=top 87
def KA:FnScope ["_law_cell","_law_menu_here","_law_now","_law_kind","_law_rest","_law_place_here","_law_more","_law_pair_here"] ["_law_cell","_law_menu_here","_law_now"] (J5 FF):=Pu.fs
abbrev FI:Stmt:=top 88
def Px:FnScope ["_law_cell","_law_strips","_law_fit","_law_k","_law_width_here","_law_wide","_law_place_here"] ["_law_cell","_law_strips"] (J5 FI):=Pu.fs
abbrev BR:Stmt:=top 89
def Zaf:FnScope ["_law_found"] ["_law_found"] (J5 BR):=Pu.fs
abbrev Ka:Stmt:=top 90
def X7:FnScope ["_law_script","_law_menu_here","_law_strips","_law_village","_law_past","_law_deed_here","_law_cell","_law_order","_law_table","_law_cost","_law_k"] ["_law_script"] (J5 Ka):=Pu.fs
structure Glob (K:Za) (mg:Str->Option Value):Prop where
 any:mg "any"=none
 bool:mg "bool"=none
 int:mg "int"=none
 isinstance:mg "isinstance"=none
 len:mg "len"=none
 list:mg "list"=none
 max:mg "max"=none
 min:mg "min"=none
 range:mg "range"=none
 set:mg "set"=none
 sorted:mg "sorted"=none
 str:mg "str"=none
 sum:mg "sum"=none
 tuple:mg "tuple"=none
 HOLDERS:∃u,mg "HOLDERS"=some u/\RelV (.int 10) u
 STRIPS:∃u,mg "STRIPS"=some u/\RelV (.int 40) u
 WIDEST:∃u,mg "WIDEST"=some u/\RelV (.int 1000) u
 MOST_WISHES:∃u,mg "MOST_WISHES"=some u/\RelV (.int 20) u
 MOST_DEEDS:∃u,mg "MOST_DEEDS"=some u/\RelV (.int 100) u
 m_TooManyStrips:mg "TooManyStrips"=some (.ref (ExcR.J3 mg "TooManyStrips"))
 g_TooManyStrips:ExcR.ErrGet K (ExcR.J3 mg "TooManyStrips")
 m_BadHolder:mg "BadHolder"=some (.ref (ExcR.J3 mg "BadHolder"))
 g_BadHolder:ExcR.ErrGet K (ExcR.J3 mg "BadHolder")
 m_BadWidth:mg "BadWidth"=some (.ref (ExcR.J3 mg "BadWidth"))
 g_BadWidth:ExcR.ErrGet K (ExcR.J3 mg "BadWidth")
 m_NoStrip:mg "NoStrip"=some (.ref (ExcR.J3 mg "NoStrip"))
 g_NoStrip:ExcR.ErrGet K (ExcR.J3 mg "NoStrip")
 m_OwnStrip:mg "OwnStrip"=some (.ref (ExcR.J3 mg "OwnStrip"))
 g_OwnStrip:ExcR.ErrGet K (ExcR.J3 mg "OwnStrip")
 m_BadPart:mg "BadPart"=some (.ref (ExcR.J3 mg "BadPart"))
 g_BadPart:ExcR.ErrGet K (ExcR.J3 mg "BadPart")
 m_UnlikeHolders:mg "UnlikeHolders"=some (.ref (ExcR.J3 mg "UnlikeHolders"))
 g_UnlikeHolders:ExcR.ErrGet K (ExcR.J3 mg "UnlikeHolders")
 m_TooWide:mg "TooWide"=some (.ref (ExcR.J3 mg "TooWide"))
 g_TooWide:ExcR.ErrGet K (ExcR.J3 mg "TooWide")
 m_LikeHolders:mg "LikeHolders"=some (.ref (ExcR.J3 mg "LikeHolders"))
 g_LikeHolders:ExcR.ErrGet K (ExcR.J3 mg "LikeHolders")
 m_WishStands:mg "WishStands"=some (.ref (ExcR.J3 mg "WishStands"))
 g_WishStands:ExcR.ErrGet K (ExcR.J3 mg "WishStands")
 m_TooManyWishes:mg "TooManyWishes"=some (.ref (ExcR.J3 mg "TooManyWishes"))
 g_TooManyWishes:ExcR.ErrGet K (ExcR.J3 mg "TooManyWishes")
 m_NoWish:mg "NoWish"=some (.ref (ExcR.J3 mg "NoWish"))
 g_NoWish:ExcR.ErrGet K (ExcR.J3 mg "NoWish")
 m_BookFull:mg "BookFull"=some (.ref (ExcR.J3 mg "BookFull"))
 g_BookFull:ExcR.ErrGet K (ExcR.J3 mg "BookFull")
 m_NothingDone:mg "NothingDone"=some (.ref (ExcR.J3 mg "NothingDone"))
 g_NothingDone:ExcR.ErrGet K (ExcR.J3 mg "NothingDone")
 m_Village:mg "Village"=some (.ref (ExcR.J3 mg "Village"))
 cl_Village:Cls K (ExcR.J3 mg "Village")
 n_Village_book:NoAttr K (ExcR.J3 mg "Village") "book"
 n_Village_fields:NoAttr K (ExcR.J3 mg "Village") "fields"
 n_Village_wished:NoAttr K (ExcR.J3 mg "Village") "wished"
def Pv:Pu.Pk "book" ["book","fields","wished"] 0:=fun vs h=>by obtain⟨a0,a1,a2,rfl⟩:=Pu.len3 h.symm;simp only[Yw,Y4,List.lookup,(show(("book" : Str) == "book")=true by decide +kernel)];rfl
def Zd2:Pu.NQ "book" []:=fun vs y h=>by obtain⟨_,rfl⟩:=Pu.len0 h.symm;simp only[Yw,Y4,putF];rfl
def SK:Pu.Pk "fields" ["book","fields","wished"] 1:=fun vs h=>by obtain⟨a0,a1,a2,rfl⟩:=Pu.len3 h.symm;simp only[Yw,Y4,List.lookup,(show(("fields" : Str) == "book")=false by decide +kernel),(show(("fields" : Str) == "fields")=true by decide +kernel)];rfl
def Zep:Pu.NQ "fields" ["book"]:=fun vs y h=>by obtain⟨a0,rfl⟩:=Pu.len1 h.symm;simp only[Yw,Y4,putF,Yq (show ¬(("book" : Str) = "fields") by decide +kernel)];rfl
def Fd:Pu.Pk "wished" ["book","fields","wished"] 2:=fun vs h=>by obtain⟨a0,a1,a2,rfl⟩:=Pu.len3 h.symm;simp only[Yw,Y4,List.lookup,(show(("wished" : Str) == "book")=false by decide +kernel),(show(("wished" : Str) == "fields")=false by decide +kernel),(show(("wished" : Str) == "wished")=true by decide +kernel)];rfl
def Zbz:Pu.NQ "wished" ["book","fields"]:=fun vs y h=>by obtain⟨a0,a1,rfl⟩:=Pu.len2 h.symm;simp only[Yw,Y4,putF,Yq (show ¬(("book" : Str) = "wished") by decide +kernel),Yq (show ¬(("fields" : Str) = "wished") by decide +kernel)];rfl
def Kn:Pu.UN "strips" ["book","fields","wished"]:=fun vs=>match vs with|[]=>rfl|[a0]=>by simp only[Yw,Y4,List.lookup,(show(("strips" : Str) == "book")=false by decide +kernel),(show(("strips" : Str) == "fields")=false by decide +kernel),(show(("strips" : Str) == "wished")=false by decide +kernel)]|[a0,a1]=>by simp only[Yw,Y4,List.lookup,(show(("strips" : Str) == "book")=false by decide +kernel),(show(("strips" : Str) == "fields")=false by decide +kernel),(show(("strips" : Str) == "wished")=false by decide +kernel)]|a0::a1::a2::_=>by simp only[Yw,Wc,List.lookup,(show(("strips" : Str) == "book")=false by decide +kernel),(show(("strips" : Str) == "fields")=false by decide +kernel),(show(("strips" : Str) == "wished")=false by decide +kernel)]
def Kj:Pu.UN "wishes" ["book","fields","wished"]:=fun vs=>match vs with|[]=>rfl|[a0]=>by simp only[Yw,Y4,List.lookup,(show(("wishes" : Str) == "book")=false by decide +kernel),(show(("wishes" : Str) == "fields")=false by decide +kernel),(show(("wishes" : Str) == "wished")=false by decide +kernel)]|[a0,a1]=>by simp only[Yw,Y4,List.lookup,(show(("wishes" : Str) == "book")=false by decide +kernel),(show(("wishes" : Str) == "fields")=false by decide +kernel),(show(("wishes" : Str) == "wished")=false by decide +kernel)]|a0::a1::a2::_=>by simp only[Yw,Wc,List.lookup,(show(("wishes" : Str) == "book")=false by decide +kernel),(show(("wishes" : Str) == "fields")=false by decide +kernel),(show(("wishes" : Str) == "wished")=false by decide +kernel)]
def Ri:Pu.UN "deeds" ["book","fields","wished"]:=fun vs=>match vs with|[]=>rfl|[a0]=>by simp only[Yw,Y4,List.lookup,(show(("deeds" : Str) == "book")=false by decide +kernel),(show(("deeds" : Str) == "fields")=false by decide +kernel),(show(("deeds" : Str) == "wished")=false by decide +kernel)]|[a0,a1]=>by simp only[Yw,Y4,List.lookup,(show(("deeds" : Str) == "book")=false by decide +kernel),(show(("deeds" : Str) == "fields")=false by decide +kernel),(show(("deeds" : Str) == "wished")=false by decide +kernel)]|a0::a1::a2::_=>by simp only[Yw,Wc,List.lookup,(show(("deeds" : Str) == "book")=false by decide +kernel),(show(("deeds" : Str) == "fields")=false by decide +kernel),(show(("deeds" : Str) == "wished")=false by decide +kernel)]
def T7:Pu.UN "check_room" ["book","fields","wished"]:=fun vs=>match vs with|[]=>rfl|[a0]=>by simp only[Yw,Y4,List.lookup,(show(("check_room" : Str) == "book")=false by decide +kernel),(show(("check_room" : Str) == "fields")=false by decide +kernel),(show(("check_room" : Str) == "wished")=false by decide +kernel)]|[a0,a1]=>by simp only[Yw,Y4,List.lookup,(show(("check_room" : Str) == "book")=false by decide +kernel),(show(("check_room" : Str) == "fields")=false by decide +kernel),(show(("check_room" : Str) == "wished")=false by decide +kernel)]|a0::a1::a2::_=>by simp only[Yw,Wc,List.lookup,(show(("check_room" : Str) == "book")=false by decide +kernel),(show(("check_room" : Str) == "fields")=false by decide +kernel),(show(("check_room" : Str) == "wished")=false by decide +kernel)]
def Tx:Pu.UN "enter" ["book","fields","wished"]:=fun vs=>match vs with|[]=>rfl|[a0]=>by simp only[Yw,Y4,List.lookup,(show(("enter" : Str) == "book")=false by decide +kernel),(show(("enter" : Str) == "fields")=false by decide +kernel),(show(("enter" : Str) == "wished")=false by decide +kernel)]|[a0,a1]=>by simp only[Yw,Y4,List.lookup,(show(("enter" : Str) == "book")=false by decide +kernel),(show(("enter" : Str) == "fields")=false by decide +kernel),(show(("enter" : Str) == "wished")=false by decide +kernel)]|a0::a1::a2::_=>by simp only[Yw,Wc,List.lookup,(show(("enter" : Str) == "book")=false by decide +kernel),(show(("enter" : Str) == "fields")=false by decide +kernel),(show(("enter" : Str) == "wished")=false by decide +kernel)]
def LP:Pu.UN "sell" ["book","fields","wished"]:=fun vs=>match vs with|[]=>rfl|[a0]=>by simp only[Yw,Y4,List.lookup,(show(("sell" : Str) == "book")=false by decide +kernel),(show(("sell" : Str) == "fields")=false by decide +kernel),(show(("sell" : Str) == "wished")=false by decide +kernel)]|[a0,a1]=>by simp only[Yw,Y4,List.lookup,(show(("sell" : Str) == "book")=false by decide +kernel),(show(("sell" : Str) == "fields")=false by decide +kernel),(show(("sell" : Str) == "wished")=false by decide +kernel)]|a0::a1::a2::_=>by simp only[Yw,Wc,List.lookup,(show(("sell" : Str) == "book")=false by decide +kernel),(show(("sell" : Str) == "fields")=false by decide +kernel),(show(("sell" : Str) == "wished")=false by decide +kernel)]
def Zbs:Pu.UN "part" ["book","fields","wished"]:=fun vs=>match vs with|[]=>rfl|[a0]=>by simp only[Yw,Y4,List.lookup,(show(("part" : Str) == "book")=false by decide +kernel),(show(("part" : Str) == "fields")=false by decide +kernel),(show(("part" : Str) == "wished")=false by decide +kernel)]|[a0,a1]=>by simp only[Yw,Y4,List.lookup,(show(("part" : Str) == "book")=false by decide +kernel),(show(("part" : Str) == "fields")=false by decide +kernel),(show(("part" : Str) == "wished")=false by decide +kernel)]|a0::a1::a2::_=>by simp only[Yw,Wc,List.lookup,(show(("part" : Str) == "book")=false by decide +kernel),(show(("part" : Str) == "fields")=false by decide +kernel),(show(("part" : Str) == "wished")=false by decide +kernel)]
def Zeb:Pu.UN "unite" ["book","fields","wished"]:=fun vs=>match vs with|[]=>rfl|[a0]=>by simp only[Yw,Y4,List.lookup,(show(("unite" : Str) == "book")=false by decide +kernel),(show(("unite" : Str) == "fields")=false by decide +kernel),(show(("unite" : Str) == "wished")=false by decide +kernel)]|[a0,a1]=>by simp only[Yw,Y4,List.lookup,(show(("unite" : Str) == "book")=false by decide +kernel),(show(("unite" : Str) == "fields")=false by decide +kernel),(show(("unite" : Str) == "wished")=false by decide +kernel)]|a0::a1::a2::_=>by simp only[Yw,Wc,List.lookup,(show(("unite" : Str) == "book")=false by decide +kernel),(show(("unite" : Str) == "fields")=false by decide +kernel),(show(("unite" : Str) == "wished")=false by decide +kernel)]
def Mp:Pu.UN "wish" ["book","fields","wished"]:=fun vs=>match vs with|[]=>rfl|[a0]=>by simp only[Yw,Y4,List.lookup,(show(("wish" : Str) == "book")=false by decide +kernel),(show(("wish" : Str) == "fields")=false by decide +kernel),(show(("wish" : Str) == "wished")=false by decide +kernel)]|[a0,a1]=>by simp only[Yw,Y4,List.lookup,(show(("wish" : Str) == "book")=false by decide +kernel),(show(("wish" : Str) == "fields")=false by decide +kernel),(show(("wish" : Str) == "wished")=false by decide +kernel)]|a0::a1::a2::_=>by simp only[Yw,Wc,List.lookup,(show(("wish" : Str) == "book")=false by decide +kernel),(show(("wish" : Str) == "fields")=false by decide +kernel),(show(("wish" : Str) == "wished")=false by decide +kernel)]
def OT:Pu.UN "drop" ["book","fields","wished"]:=fun vs=>match vs with|[]=>rfl|[a0]=>by simp only[Yw,Y4,List.lookup,(show(("drop" : Str) == "book")=false by decide +kernel),(show(("drop" : Str) == "fields")=false by decide +kernel),(show(("drop" : Str) == "wished")=false by decide +kernel)]|[a0,a1]=>by simp only[Yw,Y4,List.lookup,(show(("drop" : Str) == "book")=false by decide +kernel),(show(("drop" : Str) == "fields")=false by decide +kernel),(show(("drop" : Str) == "wished")=false by decide +kernel)]|a0::a1::a2::_=>by simp only[Yw,Wc,List.lookup,(show(("drop" : Str) == "book")=false by decide +kernel),(show(("drop" : Str) == "fields")=false by decide +kernel),(show(("drop" : Str) == "wished")=false by decide +kernel)]
def Zbg:Pu.UN "take_back" ["book","fields","wished"]:=fun vs=>match vs with|[]=>rfl|[a0]=>by simp only[Yw,Y4,List.lookup,(show(("take_back" : Str) == "book")=false by decide +kernel),(show(("take_back" : Str) == "fields")=false by decide +kernel),(show(("take_back" : Str) == "wished")=false by decide +kernel)]|[a0,a1]=>by simp only[Yw,Y4,List.lookup,(show(("take_back" : Str) == "book")=false by decide +kernel),(show(("take_back" : Str) == "fields")=false by decide +kernel),(show(("take_back" : Str) == "wished")=false by decide +kernel)]|a0::a1::a2::_=>by simp only[Yw,Wc,List.lookup,(show(("take_back" : Str) == "book")=false by decide +kernel),(show(("take_back" : Str) == "fields")=false by decide +kernel),(show(("take_back" : Str) == "wished")=false by decide +kernel)]
def CD:Pu.UN "order" ["book","fields","wished"]:=fun vs=>match vs with|[]=>rfl|[a0]=>by simp only[Yw,Y4,List.lookup,(show(("order" : Str) == "book")=false by decide +kernel),(show(("order" : Str) == "fields")=false by decide +kernel),(show(("order" : Str) == "wished")=false by decide +kernel)]|[a0,a1]=>by simp only[Yw,Y4,List.lookup,(show(("order" : Str) == "book")=false by decide +kernel),(show(("order" : Str) == "fields")=false by decide +kernel),(show(("order" : Str) == "wished")=false by decide +kernel)]|a0::a1::a2::_=>by simp only[Yw,Wc,List.lookup,(show(("order" : Str) == "book")=false by decide +kernel),(show(("order" : Str) == "fields")=false by decide +kernel),(show(("order" : Str) == "wished")=false by decide +kernel)]
def Zb2:Pu.UN "cost" ["book","fields","wished"]:=fun vs=>match vs with|[]=>rfl|[a0]=>by simp only[Yw,Y4,List.lookup,(show(("cost" : Str) == "book")=false by decide +kernel),(show(("cost" : Str) == "fields")=false by decide +kernel),(show(("cost" : Str) == "wished")=false by decide +kernel)]|[a0,a1]=>by simp only[Yw,Y4,List.lookup,(show(("cost" : Str) == "book")=false by decide +kernel),(show(("cost" : Str) == "fields")=false by decide +kernel),(show(("cost" : Str) == "wished")=false by decide +kernel)]|a0::a1::a2::_=>by simp only[Yw,Wc,List.lookup,(show(("cost" : Str) == "book")=false by decide +kernel),(show(("cost" : Str) == "fields")=false by decide +kernel),(show(("cost" : Str) == "wished")=false by decide +kernel)]
def AR:Pu.UN "table" ["book","fields","wished"]:=fun vs=>match vs with|[]=>rfl|[a0]=>by simp only[Yw,Y4,List.lookup,(show(("table" : Str) == "book")=false by decide +kernel),(show(("table" : Str) == "fields")=false by decide +kernel),(show(("table" : Str) == "wished")=false by decide +kernel)]|[a0,a1]=>by simp only[Yw,Y4,List.lookup,(show(("table" : Str) == "book")=false by decide +kernel),(show(("table" : Str) == "fields")=false by decide +kernel),(show(("table" : Str) == "wished")=false by decide +kernel)]|a0::a1::a2::_=>by simp only[Yw,Wc,List.lookup,(show(("table" : Str) == "book")=false by decide +kernel),(show(("table" : Str) == "fields")=false by decide +kernel),(show(("table" : Str) == "wished")=false by decide +kernel)]
end T
namespace M
open PySem PySem.Spec PyProof.Rows L2 Own Pu
def Zbw:Pc:=fun ds R X=>∃h:Int,ds=[.int h]/\UC (Pt h) X (R (.sh .non))
def S9 (h:Int):Option Str:=if 1<=h/\h<=1000 then none else some "BadWidth"
def MR:Pc:=fun ds R X=>∃h:Int,ds=[.int h]/\UC (S9 h) X (R (.sh .non))
def Aw (_:Za):Sp:=fun vs H Q _=>∃(l:Addr) (ps:List (Int×Int)),vs=[.ref l]/\LAt Xk H l ps/\Field ps/\ps.length<=50/\
 ∀(q:Addr) (H':Hp),H q=none->Same H H'->H' q=some (.lst ((JF ps).map V.int))->Q (.ref q) H'
def Gk:Pc:=fun ds R _=>∃ps:List (Int×Int),ds=[.lst (ps.map prD)]/\Field ps/\ps.length<=50/\R (.own ((JF ps).map D.int))
def TZ {P:Program}{w:World}{K:Za}{mg:Str->Option Value}{base:Heap} (C:Callee P w K mg base CX0 1 "holders_of" ["strips"] (Aw K)):Callee P w K mg base CX0 1 "holders_of" ["strips"] (Pu.spOf mg Gk K):=OC C fun ds R X vs H Q E r hc hQ hX=>by
 obtain⟨ps,rfl,hF,hz,hR⟩:=hc;obtain⟨v,rfl,r1⟩:=r.one_inv;obtain⟨a,rfl,ha⟩:=r1.pairs_inv;exact⟨a,ps,rfl,ha,hF,hz,fun q H' nq S h=>hQ _ _ H' hR S (Zbo nq h)⟩
def Ir:Pc:=fun ds R _=>∃(ps:List (Int×Int)) (x y:Int),ds=[.lst (ps.map prD),.int x,.int y]/\Field ps/\R (.sh (.int (pcM ps x y ps.length)))
def Ho:Pc:=fun ds R X=>∃(ps:List (Int×Int)) (p:Int),ds=[.lst (ps.map prD),.int p]/\(if p<1\/(ps.length:Int)<=p then X "NoStrip" else R (.sh .non))
def LW (ws:List (Int×Int)) (l:Int) (ps:List (List Int)) (ls:List Int) (lg:List (List Int)):Prop:=∀q∈lg,∃p∈ps,∃h∈ls,q=p++[h]/\(Ud l p,h)∈ws
def Zei:Pc:=fun ds R _=>∃(l:Int) (ps:List (List Int)) (ls:List Int) (ws:List (Int×Int)),ds=[.lst (ps.map (em l)),.lst (ls.map D.int),.lst (ws.map prD)]/\(∀p∈ps,p.length<=100)/\ls.length<=100/\
 ∀lg,LW ws l ps ls lg->lg.length<=ls.length->R (.own (lg.map (em l)))
def Ll:Pc:=fun ds R X=>∃(ps:List (Int×Int)) (p:Int),ds=[plD ps,.int p]/\UC (Nd ps p) X (R (.sh .non))
def Zch:Pc:=fun ds R X=>∃(ws:List (Int×Int)) (a b:Int),ds=[plD ws,.int a,.int b]/\ws.length<=1000/\UC (Ux ws a b) X (R (.own ((XN ws a b).map prD)))
def On:Pc:=fun ds R _=>∃hs:List Int,ds=[.lst (hs.map D.int)]/\hs.length<=10/\R (.own ((JX hs).map tD))
def Zbf:Pc:=fun ds R _=>∃(ms:List Int) (h:Int),ds=[tD ms,.int h]/\ms.length<=1000/\R (.sh (tD (JO ms h)))
def Hw:Pc:=fun ds R _=>∃(ms:List Int) (h:Int) (ws:List (Int×Int)),ds=[tD ms,.int h,.lst (ws.map prD)]/\ws.length<=50/\R (.sh (.bl (Kc ws ms h)))
def Lg:Pc:=fun ds R _=>∃(ms:List Int) (h:Int) (ws:List (Int×Int)),ds=[tD ms,.int h,.lst (ws.map prD)]/\ws.length<=50/\R (.sh (.bl (firstM ws ms h)))
def MW (C:Addr):Pc:=fun ds R _=>∃(bk:List (Str×List Int)) (fs ws:List (List (Int×Int))) (f:List (Int×Int)),ds=[vilD C bk (fs++[f]) ws]/\R (.own (f.map prD))
def Hn (C:Addr):Pc:=fun ds R _=>∃(bk:List (Str×List Int)) (fs ws:List (List (Int×Int))) (f:List (Int×Int)),ds=[vilD C bk fs (ws++[f])]/\R (.own (f.map prD))
def Ig (C:Addr):Pc:=fun ds R _=>∃(bk:List (Str×List Int)) (fs ws:List (List (Int×Int))),ds=[vilD C bk fs ws]/\R (.own (bk.map dD))
def KY (bk:List (Str×List Int)):Option Str:=if 100<=bk.length then some "BookFull" else none
def Iy (C:Addr):Pc:=fun ds R X=>∃(bk:List (Str×List Int)) (fs ws:List (List (Int×Int))),ds=[vilD C bk fs ws]/\UC (KY bk) X (R (.sh .non))
def RZ (C:Addr):Pw:=fun o ss R _=>∃(x b1 b2 b3:Addr) (bk:List (Str×List Int)) (fs ws:List (List (Int×Int))) (q:Str×List Int) (f w:List (Int×Int)),o=vO C x b1 b2 b3 bk fs ws/\ss=[.sh (dD q),.sh (plD f),.sh (plD w)]/\bk.length<=1000/\fs.length<=1000/\ws.length<=1000/\
 R (vO C x b1 b2 b3 (bk++[q]) (fs++[f]) (ws++[w])) (.int (bk.length+1))
def Zca (C:Addr):Pw:=fun o ss R X=>∃(x b1 b2 b3:Addr) (bk:List (Str×List Int)) (fs ws:List (List (Int×Int))),o=vO C x b1 b2 b3 bk fs ws/\ss=[]/\fs.length=bk.length+1/\ws.length=bk.length+1/\
 (bk=[]->X (vO C x b1 b2 b3 bk fs ws) "NothingDone")/\∀b0 q,bk=b0++[q]->R (vO C x b1 b2 b3 b0 fs.dropLast ws.dropLast) (dD q)
def Og:Pc:=fun ds R _=>∃(ns:List Int) (k:Int),ds=[.scr ns,.int k]/\0<=k/\R (.sh (.int (ns.getD k.toNat 0)))
def My:Pc:=fun ds R _=>∃i:Int,ds=[.int i]/\R (.sh (.bl true))
def Lo:Pc:=fun ds R _=>∃c p:Int,ds=[.int c,.int p]/\R (.sh (.int (mixP c p)))
def Zc0:Pc:=fun ds R _=>∃c:Int,ds=[.int c]/\∀m,Menu m->R (.own (m.map D.int))
def Zer:Pc:=fun ds R _=>∃(m:List Int) (k:Int),ds=[.lst (m.map D.int),.int k]/\Menu m/\∀h:Int,1<=h->h<=10->h=Zb4 m k->R (.sh (.int h))
def RX:Pc:=fun ds R _=>∃ps:List (Int×Int),ds=[.lst (ps.map prD)]/\ps.length<=50/\R (.own ((JF ps).map D.int))
def Lm:Pc:=fun ds R _=>∃(ps:List (Int×Int)) (os:List Int),ds=[.lst (ps.map prD),.lst (os.map D.int)]/\Field ps/\ps.length<=50/\(∀p∈ps,p.1∈os)/\R (.sh (.int (priM ps os ps.length)))
def HS:Pc:=fun ds R _=>∃(hs:List Int) (ws:List (Int×Int)),ds=[.lst (hs.map D.int),.lst (ws.map prD)]/\hs.length<=50/\ws.length<=50/\R (.sh (.bl (decide (Ug ws hs hs.length=[]))))
def Lk:Pq:=fun ss R _=>∃(f:List (Int×Int)) (x:Dd),ss=[.sh (plD f),.sh (dD x.q)]/\x.land=true/\f.length<=40/\R (.own [.int (codeN (x.err f [])),plD (x.fld' f)])
def MX:Pq:=fun ss R _=>∃(w:List (Int×Int)) (x:Dd),ss=[.sh (plD w),.sh (dD x.q)]/\x.land=false/\w.length<=20/\R (.own [.int (codeN (x.err [] w)),plD (x.wsh' w)])
def M0:Pc:=fun ds R _=>∃c g:Int,ds=[.int c,.int g]/\∀v:Int,R (.sh (.int v))
def Mb:Pc:=fun ds R _=>∃(c:Int) (ps:List (Int×Int)),ds=[.int c,plD ps]/\ps.length<=1000/\∀v:Int,R (.sh (.int v))
def Rr:Pc:=fun ds R _=>∃(c:Int) (ps:List (Int×Int)) (p:Int),ds=[.int c,plD ps,.int p]/\ps.length<=1000/\Field ps/\∀v:Int,R (.sh (.int v))
def HV:Pc:=fun ds R _=>∃(c:Int) (f:List (Int×Int)),ds=[.int c,plD f]/\Field f/\f.length<=40/\(∀p:Int,uniE f p=none->R (.sh (dD (Dd.unite p).q)))/\(∀p v:Int,1<=p->p<=f.length->1<=v->v<(atP1 f p).2->R (.sh (dD (Dd.part p v).q)))/\R (.sh (.tup [.str "back"]))
def Hd:Pc:=fun ds R _=>∃xs:List Int,ds=[.lst (xs.map D.int)]/\R (.own (xs.map D.int))
def Zb0:Pc:=fun ds R X=>∃ps:List (Int×Int),ds=[plD ps]/\ps.length<=1000/\UC (Pp ps) X (R (.sh .non))
def Zc2:Pc:=fun ds R _=>∃(l:Int) (hs:List Int) (ws:List (Int×Int)),ds=[.int l,.lst (hs.map D.int),.lst (ws.map prD)]/\hs.length<=50/\(∀t,¬P9 hs ws l t)/\R (.sh (.lst []))
def Oh:Pc:=fun ds R X=>∃(ps:List (Int×Int)) (p h:Int),ds=[plD ps,.int p,.int h]/\ps.length<=1000/\UC (UI ps p h) X (R (.own (XX ps p h |>.map prD)))
def Zdq:Pc:=fun ds R X=>∃(ps:List (Int×Int)) (p w:Int),ds=[plD ps,.int p,.int w]/\ps.length<=1000/\UC (UE ps p w) X (R (.own ((UO ps p w).map prD)))
def Rk:Pc:=fun ds R X=>∃(ps:List (Int×Int)) (p:Int),ds=[plD ps,.int p]/\ps.length<=1000/\UC (uniE ps p) X (R (.own ((uniL ps p).map prD)))
def Lx:Pc:=fun ds R X=>∃(ws:List (Int×Int)) (a b:Int),ds=[plD ws,.int a,.int b]/\ws.length<=1000/\UC (U2 ws a b) X (R (.own ((ws++[(a,b)]).map prD)))
def Hm:Pc:=fun ds R _=>∃ps:List (Int×Int),ds=[.lst (ps.map prD)]/\Field ps/\ps.length<=50/\
 ∀kvs:List (List Key×V),(∀x∈JF ps,∀y∈JF ps,valV kvs [.inl x,.inl y]=some (.int (pcM ps x y ps.length)))->R (.own (.dT kvs))
def IJ:Pc:=fun ds R _=>∃(ms:List Int) (l:Int) (le pa:List (List Key×V)) (c:Int->Int) (v:Int),ds=[tD ms,.int l,.dT le,.dT pa]/\ms.length<=1000/\valV le (kT (JO ms l))=some (.int v)/\
 (∀m∈JO ms l,valV pa [.inl m,.inl l]=some (.int (c m)))/\R (.sh (.int (v+((JO ms l).map c).sum)))
def R6:Pc:=fun ds R _=>∃(ms:List Int) (l:Int) (le pa:List (List Key×V)) (c:Int->Int) (v:Int),ds=[tD ms,.int l,.dT le,.dT pa]/\ms.length<=1000/\valV le (kT (JO ms l))=some (.int v)/\
 (∀m∈JO ms l,valV pa [.inl l,.inl m]=some (.int (c m)))/\R (.sh (.int (v+((JO ms l).map c).sum)))
def N6 (bk:List (Str×List Int)) (w:List (Int×Int)) (a b:Int):Option Str:=if 100<=bk.length then some "BookFull" else Ux w a b
def MH (C:Addr):Pw:=fun o ss R X=>∃(x b1 b2 b3:Addr) (bk:List (Str×List Int)) (fs ws:List (List (Int×Int))) (f w:List (Int×Int)) (p h:Int),o=vO C x b1 b2 b3 bk (fs++[f]) (ws++[w])/\ss=[.sh (.int p),.sh (.int h)]/\bk.length<=1000/\fs.length<=900/\ws.length<=900/\w.length<=1000/\
 UC (N6 bk w p h) (X (vO C x b1 b2 b3 bk (fs++[f]) (ws++[w]))) (R (vO C x b1 b2 b3 (bk++[(("drop" : Str),[p,h])]) (fs++[f]++[f]) (ws++[w]++[XN w p h])) (.int (bk.length+1)))
def Os:Pc:=fun ds R _=>∃(ns:List Int) (k:Int),ds=[.scr ns,.int k]/\0<=k/\∀v:Int,R (.sh (.int v))
def Zd9:Pc:=fun ds R _=>∃ns:List Int,ds=[.scr ns]/\∀v:Int,R (.sh (.int v))
def I0:Pc:=fun ds R _=>∃xs:List Int,ds=[.lst (xs.map D.int),.lst (xs.map D.int)]/\xs.length<=1000000/\R (.sh (.bl true))
def Rt:Pc:=fun ds R _=>∃ps:List (Int×Int),ds=[.lst (ps.map prD),.lst (ps.map prD)]/\ps.length<=1000000/\R (.sh (.bl true))
def RM:Pc:=fun ds R _=>∃q:Str×List Int,ds=[dD q,dD q]/\q.2.length<=100/\R (.sh (.bl true))
def M9:Pq:=fun ss R _=>∃(f w:List (Int×Int)) (ds:List D) (x:Dd),ss=[.sh (.tup (plD f::plD w::ds)),.sh (dD x.q)]/\f.length<=40/\w.length<=20/\R (.own [.int (codeN (x.err f w)),plD (x.nf f w),plD (x.nw f w)])
def L9:Pc:=fun ds R _=>∃(ns m:List Int) (n:Int),ds=[.scr ns,.lst (m.map D.int),.int n]/\Menu m/\0<=n/\n<=1000/\∀ps:List (Int×Int),Field ps->ps.length=n.toNat->R (.own (ps.map prD))
def Zdu:Pc:=fun ds R _=>∃(ns:List Int) (n:Int),ds=[.scr ns,.int n]/\0<=n/\n<=1000/\∀cs:List Int,(cs.length:Int)<=n->R (.own (cs.map D.int))
def MQ:Pc:=fun ds R _=>∃(c:Int) (m:List Int),ds=[.int c,.lst (m.map D.int)]/\Menu m/\∀a b:Int,R (.sh (prD (a,b)))
def Zcb:Pc:=fun ds R _=>∃(hs:List Int) (ws:List (Int×Int)),ds=[.lst (hs.map D.int),.lst (ws.map prD)]/\hs.length<=50/\(∀l∈hs,∀t,¬P9 hs ws l t)/\R (.sh (.lst []))
def Zcy:Pc:=fun ds R _=>∃(ps ws:List (Int×Int)) (pa:List (List Key×V)) (c:Int->Int->Int),ds=[.lst (ps.map prD),.lst (ws.map prD),.dT pa]/\Field ps/\ps.length<=50/\ws.length<=50/\(∀q∈ws,q.1≠q.2)/\
 (∀x∈JF ps,∀y∈JF ps,valV pa [.inl x,.inl y]=some (.int (c x y)))/\AH (JF ps) ws/\∀kvs,Tab ws c (JX (JF ps)) kvs->R (.own (.dT kvs))
def Za0 (C:Addr):Pw:=fun o ss R X=>∃(x:Addr) (ps:List (Int×Int)),o=.ins x C [] []/\ss=[.sh (plD ps)]/\ps.length<=1000/\UC (Pp ps) (X (.ins x C [] [])) (∀b1 b2 b3,R (vO C x b1 b2 b3 [] [ps] [[]]) .non)
def N7 (bk:List (Str×List Int)) (f:List (Int×Int)) (p h:Int):Option Str:=if 100<=bk.length then some "BookFull" else UI f p h
def Hk (C:Addr):Pw:=fun o ss R X=>∃(x b1 b2 b3:Addr) (bk:List (Str×List Int)) (fs ws:List (List (Int×Int))) (f w:List (Int×Int)) (p h:Int),o=vO C x b1 b2 b3 bk (fs++[f]) (ws++[w])/\ss=[.sh (.int p),.sh (.int h)]/\bk.length<=1000/\fs.length<=900/\ws.length<=900/\f.length<=1000/\
 UC (N7 bk f p h) (X (vO C x b1 b2 b3 bk (fs++[f]) (ws++[w]))) (R (vO C x b1 b2 b3 (bk++[(("sell" : Str),[p,h])]) (fs++[f]++[XX f p h]) (ws++[w]++[w])) (.int (bk.length+1)))
def N5 (bk:List (Str×List Int)) (f:List (Int×Int)) (p h:Int):Option Str:=if 100<=bk.length then some "BookFull" else UE f p h
def Ov (C:Addr):Pw:=fun o ss R X=>∃(x b1 b2 b3:Addr) (bk:List (Str×List Int)) (fs ws:List (List (Int×Int))) (f w:List (Int×Int)) (p h:Int),o=vO C x b1 b2 b3 bk (fs++[f]) (ws++[w])/\ss=[.sh (.int p),.sh (.int h)]/\bk.length<=1000/\fs.length<=900/\ws.length<=900/\f.length<=1000/\
 UC (N5 bk f p h) (X (vO C x b1 b2 b3 bk (fs++[f]) (ws++[w]))) (R (vO C x b1 b2 b3 (bk++[(("part" : Str),[p,h])]) (fs++[f]++[UO f p h]) (ws++[w]++[w])) (.int (bk.length+1)))
def Nn (bk:List (Str×List Int)) (f:List (Int×Int)) (p:Int):Option Str:=if 100<=bk.length then some "BookFull" else uniE f p
def Iu (C:Addr):Pw:=fun o ss R X=>∃(x b1 b2 b3:Addr) (bk:List (Str×List Int)) (fs ws:List (List (Int×Int))) (f w:List (Int×Int)) (p:Int),o=vO C x b1 b2 b3 bk (fs++[f]) (ws++[w])/\ss=[.sh (.int p)]/\bk.length<=1000/\fs.length<=900/\ws.length<=900/\f.length<=1000/\
 UC (Nn bk f p) (X (vO C x b1 b2 b3 bk (fs++[f]) (ws++[w]))) (R (vO C x b1 b2 b3 (bk++[(("unite" : Str),[p])]) (fs++[f]++[uniL f p]) (ws++[w]++[w])) (.int (bk.length+1)))
def NI (bk:List (Str×List Int)) (w:List (Int×Int)) (a b:Int):Option Str:=if 100<=bk.length then some "BookFull" else U2 w a b
def Oe (C:Addr):Pw:=fun o ss R X=>∃(x b1 b2 b3:Addr) (bk:List (Str×List Int)) (fs ws:List (List (Int×Int))) (f w:List (Int×Int)) (p h:Int),o=vO C x b1 b2 b3 bk (fs++[f]) (ws++[w])/\ss=[.sh (.int p),.sh (.int h)]/\bk.length<=1000/\fs.length<=900/\ws.length<=900/\w.length<=1000/\
 UC (NI bk w p h) (X (vO C x b1 b2 b3 bk (fs++[f]) (ws++[w]))) (R (vO C x b1 b2 b3 (bk++[(("wish" : Str),[p,h])]) (fs++[f]++[f]) (ws++[w]++[w++[(p,h)]])) (.int (bk.length+1)))
def Zbc:Pc:=fun ds R _=>∃bk:List (Str×List Int),ds=[.lst (bk.map dD),.lst (bk.map dD)]/\(∀q∈bk,q.2.length<=100)/\bk.length<=1000/\R (.sh (.bl true))
def L0:Pc:=fun ds R _=>∃(ns m:List Int),ds=[.scr ns,.lst (m.map D.int)]/\Menu m/\∀qs:List (Int×Int),qs.length<=24->R (.own (qs.map fun q=>dD (Dd.wish q.1 q.2).q))
def Zdl:Pc:=fun ds R _=>∃(c:Int) (m:List Int) (f w:List (Int×Int)) (es:List D),ds=[.int c,.lst (m.map D.int),.tup (plD f::plD w::es)]/\Menu m/\f.length<=1000/\Field f/\w.length<=1000/\(∀x:Dd,R (.sh (dD x.q)))/\R (.sh (.tup [.str "back"]))
def IH:Pc:=fun ds R _=>∃(ps ws:List (Int×Int)),ds=[.lst (ps.map prD),.lst (ws.map prD)]/\Field ps/\ps.length<=50/\(∀q∈ws,q.1≠q.2)/\(¬ ∃r,Ring (JF ps) ws r)/\R (.sh .non)
def B4 (bk:List (Str×List Int)) (f w:List (Int×Int)) (d:Dd):Option Str:=if 100<=bk.length then some "BookFull" else d.err f w
def Zde (C:Addr):Pw:=fun o ss R X=>∃(x b1 b2 b3:Addr) (bk:List (Str×List Int)) (fs ws:List (List (Int×Int))) (f w:List (Int×Int)) (d:Dd),o=vO C x b1 b2 b3 bk (fs++[f]) (ws++[w])/\ss=[.sh (dD d.q)]/\bk.length<=1000/\fs.length<=900/\ws.length<=900/\f.length<=1000/\w.length<=1000/\
 UC (B4 bk f w d) (X (vO C x b1 b2 b3 bk (fs++[f]) (ws++[w]))) (R (vO C x b1 b2 b3 (bk++[d.q]) (fs++[f]++[d.fld f]) (ws++[w]++[d.wsh w])) (.int (bk.length+1)))
def Om (C:Addr):Pc:=fun ds R _=>∃(f0:List (Int×Int)) (hs:List (Dd×List (Int×Int)×List (Int×Int))),ds=[vilD C (bkH hs) (fsH f0 hs) (wsH hs),.lst (Uc f0 hs)]/\hs.length<=200/\(∀g∈fsH f0 hs,g.length<=1000)/\(∀g∈wsH hs,g.length<=1000)/\R (.sh (.bl true))
def pcc (ps:List (Int×Int)):Int->Int->Int:=fun x y=>pcM ps x y ps.length
def Zdp:Pc:=fun ds R _=>∃(ps ws:List (Int×Int)),ds=[.lst (ps.map prD),.lst (ws.map prD)]/\Field ps/\ps.length<=50/\ws.length<=50/\(∀q∈ws,q.1≠q.2)/\(¬ ∃r,Ring (JF ps) ws r)/\
 ∀vs,TabV ws (pcc ps) (JX (JF ps)) vs->R (.own (vs.map D.int))
def Rg:Pc:=fun ds R _=>∃(ps ws:List (Int×Int)),ds=[.lst (ps.map prD),.lst (ws.map prD)]/\Field ps/\ps.length<=50/\ws.length<=50/\(∀q∈ws,q.1≠q.2)/\(¬ ∃r,Ring (JF ps) ws r)/\
 ∀o,Best ws (pcc ps) (JF ps) o->R (.own (o.map D.int))
def Ht (C:Addr):Pw2:=fun o1 o2 ss R _=>∃(x b1 b2 b3 a:Addr) (f0:List (Int×Int)) (hs:Hist) (q:D),o1=vO C x b1 b2 b3 (bkH hs) (fsH f0 hs) (wsH hs)/\o2=.lsA a (Uc f0 hs)/\ss=[.sh q]/\hs.length<100/\FineH f0 hs/\
 ((q=.tup [.str "back"]/\R (vO C x b1 b2 b3 (bkH hs.dropLast) (fsH f0 hs.dropLast) (wsH hs.dropLast)) (.lsA a (Uc f0 hs.dropLast)) (.bl true))\/
  ∃d:Dd,q=dD d.q/\R (vO C x b1 b2 b3 (bkH (addH f0 hs d)) (fsH f0 (addH f0 hs d)) (wsH (addH f0 hs d))) (.lsA a (Uc f0 (addH f0 hs d))) (.bl true))
def Iq:Pc:=fun ds R _=>∃(ps ws:List (Int×Int)),ds=[.lst (ps.map prD),.lst (ws.map prD)]/\Field ps/\ps.length<=50/\ws.length<=50/\(∀q∈ws,q.1≠q.2)/\(¬ ∃r,Ring (JF ps) ws r)/\
 ∀v,Least ws (pcc ps) (JF ps) v->R (.sh (.int v))
def RF (C:Addr):Pc:=fun ds R _=>∃(bk:List (Str×List Int)) (fs ws:List (List (Int×Int))) (f w:List (Int×Int)),ds=[vilD C bk (fs++[f]) (ws++[w])]/\Field f/\f.length<=50/\w.length<=50/\(∀q∈w,q.1≠q.2)/\(¬ ∃r,Ring (JF f) w r)/\∀o,Best w (pcc f) (JF f) o->R (.own (o.map D.int))
def Oq (C:Addr):Pc:=fun ds R _=>∃(bk:List (Str×List Int)) (fs ws:List (List (Int×Int))) (f w:List (Int×Int)),ds=[vilD C bk (fs++[f]) (ws++[w])]/\Field f/\f.length<=50/\w.length<=50/\(∀q∈w,q.1≠q.2)/\(¬ ∃r,Ring (JF f) w r)/\∀vs,TabV w (pcc f) (JX (JF f)) vs->R (.own (vs.map D.int))
def LH (C:Addr):Pw2:=fun o1 o2 ss R _=>∃(x b1 b2 b3 a:Addr) (f0:List (Int×Int)) (hs:Hist),o1=vO C x b1 b2 b3 (bkH hs) (fsH f0 hs) (wsH hs)/\o2=.lsA a (Uc f0 hs)/\ss=[]/\hs.length<=60/\FineH f0 hs/\
 ∀hs':Hist,hs'.length<=hs.length+20->FineH f0 hs'->(¬ ∃r,Ring (JF (curF f0 hs')) (curW hs') r)->curF f0 hs'=curF f0 hs->R (vO C x b1 b2 b3 (bkH hs') (fsH f0 hs') (wsH hs')) (.lsA a (Uc f0 hs')) (.bl true)
def Zdy (C:Addr):Pc:=fun ds R _=>∃(bk:List (Str×List Int)) (fs ws:List (List (Int×Int))) (f w:List (Int×Int)),ds=[vilD C bk (fs++[f]) (ws++[w])]/\Field f/\f.length<=50/\w.length<=50/\(∀q∈w,q.1≠q.2)/\(¬ ∃r,Ring (JF f) w r)/\∀v,Least w (pcc f) (JF f) v->R (.sh (.int v))
variable (P:Program) (w:World) (K:Za) (mg:Str->Option Value) (base:Heap)
abbrev Nf:Prop:=Callee P w K mg base (ExcR.CXe P w) 1 "check_holder" ["holder"] (Pu.spOf mg Zbw K)
abbrev Ax:Prop:=Callee P w K mg base (ExcR.CXe P w) 1 "check_width" ["width"] (Pu.spOf mg MR K)
abbrev NM:Prop:=Callee P w K mg base CX0 1 "holders_of" ["strips"] (Pu.spOf mg Gk K)
abbrev DP:Prop:=Callee P w K mg base CX0 1 "pair_cost" ["strips","ahead","behind"] (Pu.spOf mg Ir K)
abbrev CM:Prop:=Callee P w K mg base (ExcR.CXe P w) 1 "check_neighbours" ["strips","place"] (Pu.spOf mg Ho K)
abbrev Cn:Prop:=Callee P w K mg base CX0 1 "longer_paths" ["paths","left","wishes"] (Pu.spOf mg Zei K)
abbrev Fx:Prop:=Callee P w K mg base (ExcR.CXe P w) 1 "check_place" ["strips","place"] (Pu.spOf mg Ll K)
abbrev Aj:Prop:=Callee P w K mg base (ExcR.CXe P w) 1 "without_wish" ["wishes","ahead","behind"] (Pu.spOf mg Zch K)
abbrev AI:Prop:=Callee P w K mg base CX0 1 "sets_of" ["holders"] (Pu.spOf mg On K)
abbrev Nx:Prop:=Callee P w K mg base CX0 1 "without" ["members","holder"] (Pu.spOf mg Zbf K)
abbrev Co:Prop:=Callee P w K mg base CX0 1 "may_lie_last" ["members","holder","wishes"] (Pu.spOf mg Hw K)
abbrev G8:Prop:=Callee P w K mg base CX0 1 "may_lie_first" ["members","holder","wishes"] (Pu.spOf mg Lg K)
abbrev XO:Prop:=Pu.CalleeM P w K mg base CX0 1 (Meth K (ExcR.J3 mg "Village") "strips") ["self"] (Pu.spOf mg (MW (ExcR.J3 mg "Village")) K)
abbrev XY:Prop:=Pu.CalleeM P w K mg base CX0 1 (Meth K (ExcR.J3 mg "Village") "wishes") ["self"] (Pu.spOf mg (Hn (ExcR.J3 mg "Village")) K)
abbrev Ck:Prop:=Pu.CalleeM P w K mg base CX0 1 (Meth K (ExcR.J3 mg "Village") "deeds") ["self"] (Pu.spOf mg (Ig (ExcR.J3 mg "Village")) K)
abbrev P6:Prop:=Pu.CalleeM P w K mg base (ExcR.CXe P w) 1 (Meth K (ExcR.J3 mg "Village") "check_room") ["self"] (Pu.spOf mg (Iy (ExcR.J3 mg "Village")) K)
abbrev Pn:Prop:=Pu.CalleeM P w K mg base CX0 1 (Meth K (ExcR.J3 mg "Village") "enter") ["self","deed","field","wishes"] (Pu.spW mg (RZ (ExcR.J3 mg "Village")) K)
abbrev A7:Prop:=Pu.CalleeM P w K mg base (ExcR.CXe P w) 1 (Meth K (ExcR.J3 mg "Village") "take_back") ["self"] (Pu.spW mg (Zca (ExcR.J3 mg "Village")) K)
abbrev KO:Prop:=Callee P w K mg base CX0 1 "_law_at" ["_law_script","_law_k"] (Pu.spOf mg Og K)
abbrev PP:Prop:=Callee P w K mg base CX0 1 "_law_whole" ["_law_found"] (Pu.spOf mg My K)
abbrev Pa:Prop:=Callee P w K mg base CX0 1 "_law_mix" ["_law_cell","_law_place_here"] (Pu.spOf mg Lo K)
abbrev GC:Prop:=Callee P w K mg base CX0 1 "_law_menu" ["_law_cell"] (Pu.spOf mg Zc0 K)
abbrev Tj:Prop:=Callee P w K mg base CX0 1 "_law_holder" ["_law_menu_here","_law_k"] (Pu.spOf mg Zer K)
abbrev FG:Prop:=Callee P w K mg base CX0 1 "_law_present" ["_law_strips"] (Pu.spOf mg RX K)
abbrev AN:Prop:=Callee P w K mg base CX0 1 "_law_price" ["_law_strips","_law_order"] (Pu.spOf mg Lm K)
abbrev ER:Prop:=Callee P w K mg base CX0 1 "_law_no_ring" ["_law_holders","_law_wishes"] (Pu.spOf mg HS K)
abbrev Eb:Prop:=Callee P w K mg base CX0 1 "_law_field_step" ["_law_strips","_law_deed_here"] (Pu.spS mg Lk K)
abbrev FW:Prop:=Callee P w K mg base CX0 1 "_law_wish_step" ["_law_wishes","_law_deed_here"] (Pu.spS mg MX K)
abbrev SM:Prop:=Callee P w K mg base CX0 1 "_law_odd" ["_law_cell","_law_good"] (Pu.spOf mg M0 K)
abbrev D2:Prop:=Callee P w K mg base CX0 1 "_law_place" ["_law_cell","_law_strips"] (Pu.spOf mg Mb K)
abbrev D8:Prop:=Callee P w K mg base CX0 1 "_law_width" ["_law_cell","_law_strips","_law_place_here"] (Pu.spOf mg Rr K)
abbrev Et:Prop:=Callee P w K mg base CX0 1 "_law_next" ["_law_cell","_law_strips"] (Pu.spOf mg HV K)
abbrev Ga:Prop:=Callee P w K mg base CX0 1 "_law_copy" ["_law_found"] (Pu.spOf mg Hd K)
abbrev AK:Prop:=Callee P w K mg base (ExcR.CXe P w) 2 "check_strips" ["strips"] (Pu.spOf mg Zb0 K)
abbrev Gv:Prop:=Callee P w K mg base CX0 2 "ring_from" ["least","holders","wishes"] (Pu.spOf mg Zc2 K)
abbrev EF:Prop:=Callee P w K mg base (ExcR.CXe P w) 2 "sold" ["strips","place","holder"] (Pu.spOf mg Oh K)
abbrev CP:Prop:=Callee P w K mg base (ExcR.CXe P w) 2 "parted" ["strips","place","width"] (Pu.spOf mg Zdq K)
abbrev Dz:Prop:=Callee P w K mg base (ExcR.CXe P w) 2 "united" ["strips","place"] (Pu.spOf mg Rk K)
abbrev DC:Prop:=Callee P w K mg base (ExcR.CXe P w) 2 "with_wish" ["wishes","ahead","behind"] (Pu.spOf mg Lx K)
abbrev Bz:Prop:=Callee P w K mg base CX0 2 "pair_costs" ["strips"] (Pu.spOf mg Hm K)
abbrev Df:Prop:=Callee P w K mg base CX0 2 "cost_with_last" ["members","last","least","pairs"] (Pu.spOf mg IJ K)
abbrev EN:Prop:=Callee P w K mg base CX0 2 "cost_with_first" ["members","first","least","pairs"] (Pu.spOf mg R6 K)
abbrev Ej:Prop:=Pu.CalleeM P w K mg base (ExcR.CXe P w) 2 (Meth K (ExcR.J3 mg "Village") "drop") ["self","ahead","behind"] (Pu.spW mg (MH (ExcR.J3 mg "Village")) K)
abbrev Dh:Prop:=Callee P w K mg base CX0 2 "_law_draw" ["_law_script","_law_k"] (Pu.spOf mg Os K)
abbrev A0:Prop:=Callee P w K mg base CX0 2 "_law_spare" ["_law_script"] (Pu.spOf mg Zd9 K)
abbrev AF:Prop:=Callee P w K mg base CX0 2 "_law_row" ["_law_found","_law_due"] (Pu.spOf mg I0 K)
abbrev AB:Prop:=Callee P w K mg base CX0 2 "_law_tuples" ["_law_found","_law_due"] (Pu.spOf mg Rt K)
abbrev Gi:Prop:=Callee P w K mg base CX0 2 "_law_deed_is" ["_law_found","_law_due"] (Pu.spOf mg RM K)
abbrev Cf:Prop:=Callee P w K mg base CX0 2 "_law_step" ["_law_now","_law_deed_here"] (Pu.spS mg M9 K)
abbrev D7:Prop:=Callee P w K mg base CX0 2 "_law_start" ["_law_script","_law_menu_here","_law_many"] (Pu.spOf mg L9 K)
abbrev CI:Prop:=Callee P w K mg base CX0 2 "_law_days" ["_law_script","_law_most"] (Pu.spOf mg Zdu K)
abbrev Br:Prop:=Callee P w K mg base CX0 2 "_law_pair" ["_law_cell","_law_menu_here"] (Pu.spOf mg MQ K)
abbrev Ai:Prop:=Callee P w K mg base CX0 3 "find_ring" ["holders","wishes"] (Pu.spOf mg Zcb K)
abbrev Bc:Prop:=Callee P w K mg base CX0 3 "least_costs" ["strips","wishes","pairs"] (Pu.spOf mg Zcy K)
abbrev AX:Prop:=Pu.CalleeM P w K mg base (ExcR.CXe P w) 3 (Mk K (ExcR.J3 mg "Village")) ["self","strips"] (Pu.spW mg (Za0 (ExcR.J3 mg "Village")) K)
abbrev GA:Prop:=Pu.CalleeM P w K mg base (ExcR.CXe P w) 3 (Meth K (ExcR.J3 mg "Village") "sell") ["self","place","holder"] (Pu.spW mg (Hk (ExcR.J3 mg "Village")) K)
abbrev CF:Prop:=Pu.CalleeM P w K mg base (ExcR.CXe P w) 3 (Meth K (ExcR.J3 mg "Village") "part") ["self","place","width"] (Pu.spW mg (Ov (ExcR.J3 mg "Village")) K)
abbrev Ew:Prop:=Pu.CalleeM P w K mg base (ExcR.CXe P w) 3 (Meth K (ExcR.J3 mg "Village") "unite") ["self","place"] (Pu.spW mg (Iu (ExcR.J3 mg "Village")) K)
abbrev Dn:Prop:=Pu.CalleeM P w K mg base (ExcR.CXe P w) 3 (Meth K (ExcR.J3 mg "Village") "wish") ["self","ahead","behind"] (Pu.spW mg (Oe (ExcR.J3 mg "Village")) K)
abbrev Gu:Prop:=Callee P w K mg base CX0 3 "_law_book_is" ["_law_found","_law_due"] (Pu.spOf mg Zbc K)
abbrev DG:Prop:=Callee P w K mg base CX0 3 "_law_opening" ["_law_script","_law_menu_here"] (Pu.spOf mg L0 K)
abbrev DO:Prop:=Callee P w K mg base CX0 3 "_law_deed" ["_law_cell","_law_menu_here","_law_now"] (Pu.spOf mg Zdl K)
abbrev FL:Prop:=Callee P w K mg base CX0 4 "check_no_ring" ["strips","wishes"] (Pu.spOf mg IH K)
abbrev Ct:Prop:=Callee P w K mg base (ExcR.CXe P w) 4 "_law_call" ["_law_village","_law_deed_here"] (Pu.spW mg (Zde (ExcR.J3 mg "Village")) K)
abbrev Al:Prop:=Callee P w K mg base CX0 4 "_law_stands" ["_law_village","_law_past"] (Pu.spOf mg (Om (ExcR.J3 mg "Village")) K)
abbrev FA:Prop:=Callee P w K mg base CX0 5 "cost_table" ["strips","wishes"] (Pu.spOf mg Zdp K)
abbrev Ao:Prop:=Callee P w K mg base CX0 5 "best_order" ["strips","wishes"] (Pu.spOf mg Rg K)
abbrev SJ:Prop:=Callee P w K mg base CX0 5 "_law_go" ["_law_village","_law_past","_law_deed_here"] (Pu.spW2 mg (Ht (ExcR.J3 mg "Village")) K)
abbrev Ap:Prop:=Callee P w K mg base CX0 6 "least_cost" ["strips","wishes"] (Pu.spOf mg Iq K)
abbrev An:Prop:=Pu.CalleeM P w K mg base CX0 6 (Meth K (ExcR.J3 mg "Village") "order") ["self"] (Pu.spOf mg (RF (ExcR.J3 mg "Village")) K)
abbrev A9:Prop:=Pu.CalleeM P w K mg base CX0 6 (Meth K (ExcR.J3 mg "Village") "table") ["self"] (Pu.spOf mg (Oq (ExcR.J3 mg "Village")) K)
abbrev DJ:Prop:=Callee P w K mg base CX0 6 "_law_no_rings" ["_law_village","_law_past"] (Pu.spW2 mg (LH (ExcR.J3 mg "Village")) K)
abbrev AY:Prop:=Pu.CalleeM P w K mg base CX0 7 (Meth K (ExcR.J3 mg "Village") "cost") ["self"] (Pu.spOf mg (Zdy (ExcR.J3 mg "Village")) K)
abbrev Zd8:Prop:=Callee P w K mg base CX0 8 "law" ["_law_script"] (Pu.spOf mg G5 K)
end M
namespace M
open PySem PySem.Spec PyProof.Rows L2 Own Pu
structure LWs (ws:List (Int×Int)) (l:Int) (ps:List (List Int)) (ls:List Int) (lg:List (List Int)) (kvs:List (Key×V)):Prop where
 g:LW ws l ps ls lg
 nd:(lg.map (Ud l)).Nodup
 rc:∀h:Int,(valV kvs (.inl h)).isSome=true↔h∈lg.map (Ud l)
 len:kvs.length<=lg.length
section
variable {ws:List (Int×Int)}{l:Int}{ps:List (List Int)}{ls:List Int}{lg:List (List Int)}{kvs:List (Key×V)}
def LWs.len_le (L:LWs ws l ps ls lg kvs):lg.length<=ls.length:=by
 have:=BN L.nd (ys:=ls) fun h hh=>by
  obtain⟨q,hq,e⟩:=YT.mp hh;obtain⟨p,_,x,hx,rfl,_⟩:=L.g q hq;rw[KN] at e;rw[←e];exact hx
 rwa[Yn] at this
def LWs.put {p:List Int}{h:Int} (hp:p∈ps) (hh:h∈ls) (G:LWs ws l ps ls lg kvs) (new:(valV kvs (.inl h)).isSome=false) (hw:(Ud l p,h)∈ws):LWs ws l ps ls (lg++[p++[h]]) (putK kvs (.inl h) (.bl true)):=by
 have lh:Ud l (p++[h])=h:=by rw[KN];rfl
 have nh:h∉lg.map (Ud l):=fun z=>by rw[(G.rc h).mpr z] at new;cases new
 refine⟨fun q hq=>?_,?_,fun x=>?_,?_⟩
 ·rcases YJ.mp hq with hq|hq
  ·exact G.g q hq
  ·exact⟨p,hp,h,hh,Y0.mp hq,hw⟩
 ·rw[YD,Vg,lh];refine W8.mpr ⟨G.nd,by simp,fun a ha b hb=>?_⟩;rw[Y0.mp hb];rintro rfl;exact nh ha
 ·rw[YD,Vg,lh,N1,YJ,Y0];by_cases e:x=h
  ·subst e;rw[Yr rfl];exact⟨fun _=>.inr rfl,fun _=>rfl⟩
  ·rw[Yq (fun z=>e (Sum.inl.inj z)),G.rc];exact⟨.inl,fun z=>z.elim id fun w=>absurd w e⟩
 ·rw[Yy]
  have:=NP kvs (.inl h) (.bl true)
  have:=G.len
  simp;omega
end
def CW (c:Int->Bool):∀ws:List Int,ws.filterMap (fun q=>if c q=true then some (D.int q) else none)=(ws.filter c).map D.int:=X0 c D.int
def Zeq {hs:List Int}{ws:List (Int×Int)}{l:Int} (hu:∀q∈ws,q.1≠q.2) (hN:¬ ∃r,Ring hs ws r) (hl:l∈hs):∀(n:Nat) (t:List Int),t.length<=n->¬P9 hs ws l t:=by
 intro n
 induction n with
 | zero=>exact fun t ht hc=>hN ⟨_,Ab hu hl hc fun u _=>by omega⟩
 | succ n ih=>exact fun t ht hc=>hN ⟨_,Ab hu hl hc fun u hu'=>YV fun z=>ih u (by omega) hu'⟩
def IU (γ:List (Option Pu.S)):Nat:=match γ[4]? with
 | some (some (Pu.S.sh (Pu.D.tup ds)))=>ds.length
 | _=>0
def PH {α:Type}{xs:List α}{x:α} (h:xs[xs.length-1]?=some x):atI xs (-1)=some x:=by
 have hi:=(YG.mp h).1;unfold atI ixN;rw[Yq (by omega),Yr (by omega)];show xs[_]?=some x;rw[←h];congr 1;omega
end M
namespace T
open PySem PySem.Spec PyProof.Rows L2 Own M
section
variable {P:Program}{w:World}{K:Za}{mg:Str->Option Value}{base:Heap}
def OY (G:Glob K mg) (D:Def K mg "holders_of" FH ["strips"])
  : Callee P w K mg base CX0 1 "holders_of" ["strips"] (Aw K):=by
 refine D.ok (k:=0) Rf (fun vs H Q E h=>?_) (fun f cdv A outer s H vs Q E hr h=>?_)
 ·obtain⟨l,ps,rfl,⟨vs,hl,hv⟩,hF,hz,q⟩:=h;rfl
 ·obtain⟨l,ps,rfl,⟨vs,hl,hv⟩,hF,hz,q⟩:=h;refine⟨_,(J0 (J4 (U7 (EL rfl) (by rfl) G.sorted boot_sorted (JG (X2 (Zcu rfl) (by rfl) G.set boot_set (JG (UQ (N':=["holder","width"]) (φ:=[none,none]) rfl (Own.CompOk.of (by rfl)) (Dj (pv 0)) (fun _ _ _ _ _=>⟨(T4 (K:=K) (n:=2) rfl (XQ (By (i:=0) (show(["holder","width"]:List Str).Nodup from by decide +kernel) rfl (by first|exact Or.inl rfl|exact Or.inr rfl)) (XQ (By (i:=1) (show(["holder","width"]:List Str).Nodup from by decide +kernel) rfl (by first|exact Or.inl rfl|exact Or.inr rfl)) PZ))),Xp,(pv 0)⟩)) JY)) JY)))),?_⟩
  have e1:=hv.1;refine⟨_,rfl,l,rfl,⟨_,SqL.of hl⟩,fun D nD=>IM (ds:=ps) (fun d=>some (V.int d.1)) (SqL.of hl) e1 nD (Y7 hz (by decide)) (fun i x d H2 hx hd S k hk=>?_) ?_⟩
  ·obtain⟨d',hd',a,rfl,ha⟩:=hv.get hx;rw[hd] at hd';cases hd'
   exact⟨a,_,rfl,SqT.of (S _ _ ha),rfl,_,_,rfl,_,_,rfl,rfl,.skip (.skip .refl),_,rfl,hk⟩
  ·have em:ps.filterMap (fun d=>some (V.int d.1))=(ps.map (·.1)).map V.int:=by
    rw[Qp,Wh];rfl
   rw[em];have S1:Same H (upd H D (.lst ((ps.map (·.1)).map V.int))):=UB nD;refine⟨D,ps.map (·.1),rfl,SqL.of Uj,by rw[Yn];omega,fun s1 n1=>?_⟩;have S2:=Own.Same.new (o:=SetH w s1 ((ps.map (·.1)).foldl SetR.addJ [])) S1 n1;refine⟨s1,_,rfl,?_,.inr Uj,fun r ns n2 hp hs=>?_⟩
   ·have:=G9 (ps.map (·.1)) []
    rw[Yn] at this;simp at this ⊢;omega
   ·rw[Oa hF hp hs];exact q r _ (S2.free n2) (Own.Same.new S2 n2) Uj
end
open Pu
section
variable {P:Program}{w:World}{K:Za}{mg:Str->Option Value}{base:Heap}
def Zc7 (G:Glob K mg) (DD:Def K mg "check_holder" Fl ["holder"])
  : Nf P w K mg base:=by
 refine DD.ox (k:=0) Zd6 (fun _ _ _ _ _ _ E hr=>⟨_,(J0 (JA (PW.pt (Uy (JL Xh (pv 0) Jw (JN _)) (UA (JL UY (pv 0) (ExcR.Xn G.HOLDERS) (JN _))))) (J0 (ExcR.Xb G.g_BadHolder.c G.m_BadHolder ExcR.UU rfl (az (ExcR.pe_f (ExcR.X5 (ExcR.KC (ExcR.Xn G.HOLDERS) ExcR.KZ))))))
   JC)), (JD (U0 (J6 (Xf (Ju 0) Jv)) (J6 (US (Ju 0) Jv))) (UV (sz (se_f (X6 (Pf Jv KD))))) JB)⟩) (.a fun ds R X h=>?_)
 ·obtain⟨h,rfl,hR⟩:=h;refine⟨rfl,?_⟩;unfold Pt at hR;refine ite2 (fun g=>iteT ?_) (fun g=>?_)
  ·rw[Yq (by have:=Yv g;omega)] at hR;exact⟨by decide,by decide,by decide,by decide,by simp,hR⟩
  ·have g':¬h<1:=fun z=>g (Ys z);refine ite2 (fun g2=>?_) (fun g2=>?_)
   ·rw[Yq (by have:=Yv g2;omega)] at hR;exact⟨by decide,by decide,by decide,by decide,by simp,hR⟩
   ·have g2':¬10<h:=fun z=>g2 (Ys z);rw[Yr (by omega)] at hR;exact hR
def HD (G:Glob K mg) (DD:Def K mg "check_width" SW ["width"])
  : Ax P w K mg base:=by
 refine DD.ox (k:=0) RO (fun _ _ _ _ _ _ E hr=>⟨_,(J0 (JA (PW.pt (Uy (JL Xh (pv 0) Jw (JN _)) (UA (JL UY (pv 0) (ExcR.Xn G.WIDEST) (JN _))))) (J0 (ExcR.Xb G.g_BadWidth.c G.m_BadWidth ExcR.UU rfl (az (ExcR.pe_f (ExcR.X5 (ExcR.KC (ExcR.Xn G.WIDEST) ExcR.KZ))))))
   JC)), (JD (U0 (J6 (Xf (Ju 0) Jv)) (J6 (US (Ju 0) Jv))) (UV (sz (se_f (X6 (Pf Jv KD))))) JB)⟩) (.a fun ds R X h=>?_)
 ·obtain⟨h,rfl,hR⟩:=h;refine⟨rfl,?_⟩;unfold S9 at hR;refine ite2 (fun g=>iteT ?_) (fun g=>?_)
  ·rw[Yq (by have:=Yv g;omega)] at hR;exact⟨by decide,by decide,by decide,by decide,by simp,hR⟩
  ·have g':¬h<1:=fun z=>g (Ys z);refine ite2 (fun g2=>?_) (fun g2=>?_)
   ·rw[Yq (by have:=Yv g2;omega)] at hR;exact⟨by decide,by decide,by decide,by decide,by simp,hR⟩
   ·have g2':¬1000<h:=fun z=>g2 (Ys z);rw[Yr (by omega)] at hR;exact hR
def RE (G:Glob K mg) (DD:Def K mg "pair_cost" Bu ["strips","ahead","behind"])
  : DP P w K mg base:=by
 refine DD.oz (k:=0) KP (fun _ _ _ _ _ _ E hr=>⟨_,(Jz (Pu.pz 3 KP.nd Jw) (Jz (Pu.pz 4 KP.nd Jw) (Jz (U4 YI rfl (Ul (K:=K) (pv 0)) (T4 (K:=K) (n:=2) rfl (XQ (gz 5 KP.nd) (XQ (gz 6 KP.nd) PZ))) (J0 (JA (cq K hr (pv 5) (pv 2)) (J0 (Eg (i:=3) KP.nd rfl (by first|exact Or.inl rfl|exact Or.inr rfl) (pv 6) Gg)) (J0 (JA (cq K hr (pv 5) (pv 1)) (J0 (Eg (i:=4) KP.nd rfl (by first|exact Or.inl rfl|exact Or.inr rfl) (J1 Pe (pv 3) (pv 6)) Gg))
   JC))))) (J0 (J4 (pv 4)))))), (Jy (J7 Jv (J2 3)) (Jy (J7 Jv (J2 4)) (Jy (JE 0 (U5 [5,6] (X3 (Ju 0)) (N2 (Ky (J2 5) (Ky (J2 6) Nq))) (JD (J6 (Ua (Ju 5) (Ju 2))) (GD (Ju 6)) (JD (J6 (Ua (Ju 5) (Ju 1))) (GD (KG (Ju 3) (Ju 6))) JB)))) (XH 4))))⟩) (.a fun ds R X h=>?_)
 ·obtain⟨ps,x,y,rfl,hF,hR⟩:=h;refine⟨rfl,?_⟩;refine⟨rfl,X1 (xs:=ps) (emb:=prD) (fun i γ'=>γ'=[some (.bor (.lst (ps.map prD))),some (.sh (.int x)),some (.sh (.int y)),some (.sh (.int (tpM ps y i))),some (.sh (.int (pcM ps x y i))),none,none]) rfl ?_ ?_⟩
  ·rintro i hi γ' rfl;have hp:ps.getD i (0,0)=ps[i]:=by rw[Y1,Yo hi];rfl
   have hw:=hF _ (YH hi);have e1:tpM ps y (i+1)=tpM ps y i+(if ps[i].1=y then ps[i].2 else 0):=by simp only[tpM];rw[hp]
   have e2:pcM ps x y (i+1)=pcM ps x y i+(if x≠y/\ps[i].1=x then tpM ps y i*ps[i].2 else 0):=by simp only[pcM];rw[hp]
   rw[e1,e2];generalize ps[i]=p at hw;refine⟨rfl,ite2 (fun g=>?_) (fun g=>ite2 (fun g2=>?_) (fun g2=>?_))⟩
   ·have e:p.1=y:=Yv g;rw[Yr e,Yq (by rintro⟨z1,z2⟩;exact z1 (z2.symm.trans e)),Qv];rfl
   ·have e:¬p.1=y:=fun z=>g (Ys z);have e':p.1=x:=Yv g2;rw[Yq e,Yr ⟨fun z=>e (e'.trans z),e'⟩,Qv];exact⟨.inr ⟨by show -(2 ^ 64)<p.2;omega,by show p.2<2 ^ 64;omega⟩,rfl⟩
   ·have e:¬p.1=y:=fun z=>g (Ys z);have e':¬p.1=x:=fun z=>g2 (Ys z);rw[Yq e,Yq (by rintro⟨z1,z2⟩;exact e' z2),Qv,Qv];rfl
  ·rintro γ' rfl;exact hR
def Ou (G:Glob K mg) (DD:Def K mg "check_neighbours" FD ["strips","place"])
  : CM P w K mg base:=by
 refine DD.ox (k:=0) IL (fun _ _ _ _ _ _ E hr=>⟨_,(J0 (JA (PW.pt (Uy (JL Xh (pv 1) Jw (JN _)) (UA (JL Pm (pv 1) (ln K G.len (pv 0)) (JN _))))) (J0 (ExcR.Xb G.g_NoStrip.c G.m_NoStrip ExcR.UU rfl (az JZ)))
   JC)), (JD (U0 (J6 (Xf (Ju 1) Jv)) (J6 (PN (Ju 1) (JV (sz (Ju 0)))))) (UV (sz Ub)) JB)⟩) (.a fun ds R X h=>?_)
 ·obtain⟨ps,p,rfl,hR⟩:=h;refine⟨rfl,?_⟩;have hl:(ps.map prD).length=ps.length:=Yn ..;refine ite2 (fun g=>iteT ?_) (fun g=>?_)
  ·rw[Yr (.inl (Yv g))] at hR;exact⟨by simp,hR⟩
  ·have g':¬p<1:=fun z=>g (Ys z);refine ite2 (fun g2=>?_) (fun g2=>?_)
   ·have g2':((ps.map prD).length:Int)<=p:=Yv g2;rw[Yr (.inr (by omega))] at hR;exact⟨by simp,hR⟩
   ·have g2':¬((ps.map prD).length:Int)<=p:=fun z=>g2 (Ys z);rw[Yq (by omega)] at hR;exact hR
def L6 (G:Glob K mg) (DD:Def K mg "longer_paths" Bv ["paths","left","wishes"])
  : Cn P w K mg base:=by
 refine DD.oz (k:=0) TJ (fun _ _ _ _ _ _ E hr=>⟨_,(Jz (Pu.pz 3 TJ.nd (JH JY)) (Jz (Pu.pz 4 TJ.nd Ol) (Jz (U4 YI rfl (Ul (K:=K) (pv 0)) (gz 5 TJ.nd) (J0 (U4 YI rfl (Ul (K:=K) (pv 1)) (gz 6 TJ.nd) (J0 (JA (PW.pt (Ks (Rq (Lc (U6 hr) (pv 6) (pv 4))) (KI (JL (Kb (K:=K) (show _<cLine from U6 hr)) (JR (bz (jx K (pv 5) (U9 UD Jw)) (pv 6))) (pv 2) (by with_unfolding_all rfl))))) (Jz (Fs (U6 hr) (pv 4) (pv 6) Ur rfl) (J0 (Um (XT YM Wi Wj XZ (pv 3) (az (J1 UZ (pv 5) (JH (az (pv 6)))))))))
   JC))))) (J0 (J4 (pv 3)))))), (Jy (J7 (JI JJ) (J2 3)) (Jy (J7 Zax (J2 4)) (Jy (JE 1 (JE 0 (U5 [5,6] (X3 (Ju 0)) (J2 5) (JE 1 (U5 [6] (X3 (Ju 1)) (J2 6) (JD (KL (st_b (Mo (Ju 6) (Ju 4))) (J6 (Xq (JS (tz (Jx (Ju 5) (U8 Jv)) (Ju 6))) (Ju 2)))) (Jy (Sr 4 (Ju 6) Us) (JE 6 (P2 3 (Xd (Ju 5) (JI (sz (Ju 6))))))) JB)))))) (XH 3))))⟩) (.a fun ds R X h=>?_)
 ·obtain⟨l,ps,ls,ws,rfl,hpl,hll,hR⟩:=h;refine⟨rfl,?_⟩
  refine⟨by simp,rfl,X1 (xs:=ps) (emb:=em l) (fun i γ'=>∃lg kvs,γ'=[some (.bor (.lst (ps.map (em l)))),some (.bor (.lst (ls.map D.int))),some (.bor (.lst (ws.map prD))),some (.own (lg.map (em l))),some (.own (.dK kvs)),none,none]/\LWs ws l ps ls lg kvs)
   ⟨[],[],rfl,(fun q hq=>by cases hq),Qc,(fun h=>by simp[valV]),Yx _⟩ ?_ ?_⟩
  ·rintro i hi γ' ⟨lg,kvs,rfl,G⟩;have hp:=YH hi;have hpi:=hpl ps[i] hp;generalize ps[i]=p at hp hpi ⊢;refine⟨rfl,X1 (xs:=ls) (emb:=D.int) (fun j γ'=>∃lg kvs,γ'=[some (.bor (.lst (ps.map (em l)))),some (.bor (.lst (ls.map D.int))),some (.bor (.lst (ws.map prD))),some (.own (lg.map (em l))),some (.own (.dK kvs)),some (.bor (em l p)),none]/\LWs ws l ps ls lg kvs) ⟨lg,kvs,rfl,G⟩ ?_ ?_⟩
   ·rintro j hj γ' ⟨lg,kvs,rfl,G⟩;have hh:=YH hj;generalize ls[j]=h at hh ⊢;have hlen:=G.len_le;have hkl:=G.len;refine⟨.inl h,rfl,ite2 (fun g=>?_) (fun g=>iteF ⟨lg,kvs,rfl,G⟩)⟩
    have g':(valV kvs (.inl h)).isSome=false:=by
     cases e:(valV kvs (.inl h)).isSome with
     | false=>rfl
     | true=>rw[e] at g;cases g
    refine⟨_,Bk l p,by simp,_,.lp (Ud l p,h) ws,ite2 (fun g2=>?_) (fun g2=>⟨lg,kvs,rfl,G⟩)⟩;refine⟨.inl h,.bl true,rfl,rfl,by omega,by simp,Pi _,rfl,by simp;omega,by rw[Yn];omega,lg++[p++[h]],_,?_,G.put hp hh g' (Yv g2)⟩;rw[YD]
    have e:em l (p++[h])=.lst ((l::p).map D.int++[.int h]):=by
     unfold em;rw[←WC,YD];rfl
    rw[Vg,e];rfl
   ·rintro γ' ⟨lg,kvs,rfl,G⟩;exact⟨lg,kvs,rfl,G⟩
  ·rintro γ' ⟨lg,kvs,rfl,G⟩;exact hR lg G.g G.len_le
def Za7 (G:Glob K mg) (DD:Def K mg "check_place" FJ ["strips","place"])
  : Fx P w K mg base:=by
 refine DD.ox (k:=0) Zbn (fun _ _ _ _ _ _ E hr=>⟨_,(J0 (JA (PW.pt (Uy (JL Xh (pv 1) Jw (JN _)) (UA (JL UY (pv 1) (ln K G.len (pv 0)) (JN _))))) (J0 (ExcR.Xb G.g_NoStrip.c G.m_NoStrip ExcR.UU rfl (az JZ)))
   JC)), (JD (U0 (J6 (Xf (Ju 1) Jv)) (J6 (US (Ju 1) (JV (sz (Ju 0)))))) (UV (sz Ub)) JB)⟩) (.a fun ds R X h=>?_)
 ·obtain⟨ps,p,rfl,hR⟩:=h;refine⟨rfl,?_⟩;have hl:(ps.map prD).length=ps.length:=Yn ..;unfold Nd at hR;refine ite2 (fun g=>iteT ?_) (fun g=>?_)
  ·rw[Yr (.inl (Yv g))] at hR;exact⟨by simp,hR⟩
  ·have g':¬p<1:=fun z=>g (Ys z);refine ite2 (fun g2=>?_) (fun g2=>?_)
   ·have g2':((ps.map prD).length:Int)<p:=Yv g2;rw[Yr (.inr (by omega))] at hR;exact⟨by simp,hR⟩
   ·have g2':¬((ps.map prD).length:Int)<p:=fun z=>g2 (Ys z);rw[Yq (by omega)] at hR;exact hR
def Zdk (G:Glob K mg) (DD:Def K mg "without_wish" F6 ["wishes","ahead","behind"])
  : Aj P w K mg base:=by
 refine DD.ox (k:=0) Zad (fun _ _ _ _ _ _ E hr=>⟨_,(Jz (JA (JL (B9 (K:=K) (show _<cLine from U6 hr)) (JR (bz (pv 1) (pv 2))) (pv 0) (by with_unfolding_all rfl)) (J0 (ExcR.Xb G.g_NoWish.c G.m_NoWish ExcR.UU rfl (az JZ)))
   JC) (J0 (J4 (UQ (N':=["wish","ahead","behind"]) (φ:=[none,some 1,some 2]) rfl (Own.CompOk.of (by rfl)) (Ul (K:=K) (pv 0)) (fun _ _ _ _ _=>⟨(gz 0 (show(["wish","ahead","behind"]:List Str).Nodup from by decide +kernel)),(Xr (JL (Ex (K:=K) (show _<cLine from hr.units0)) (pv 0) (JR (bz (pv 1) (pv 2))) (JN _))),(pv 0)⟩))))), (Jy (JD (J6 (Xq (JS (tz (Ju 1) (Ju 2))) (Ju 0))) (UV (sz Ub)) JB) (JE 2 (JE 1 (J8 (Uw (UT (Ju 0)) (J2 0) (J6 (FY (Ju 0) (JS (tz (Ju 1) (Ju 2))))) (Ju 0))))))⟩) (.a fun ds R X h=>?_)
 ·obtain⟨ws,a,b,rfl,hz,hR⟩:=h;refine⟨rfl,?_⟩;unfold Ux at hR;refine⟨by simp,_,.lp (a,b) ws,ite2 (fun g=>?_) (fun g=>?_)⟩
  ·have g':¬(a,b)∈ws:=fun z=>by rw[Yr rfl,Ys z] at g;cases g
   rw[Yq g'] at hR;exact⟨by simp,hR⟩
  ·have g':(a,b)∈ws:=YV fun z=>g (by rw[Yr rfl,YB z];rfl);rw[Yr g'] at hR;refine UG (xs:=ws) (emb:=prD) (fun q=>if (!decide (q=(a,b)))=true then some (prD q) else none) (by omega) (fun q hq=>?_) ?_
   ·refine⟨by simp,?_⟩;show fNeT (.sh (prD q)) (.sh (prD (a,b))) _;refine Hf ?_;exact ite2 (fun h=>⟨_,rfl,Yr h⟩) (fun h=>Yq h)
   ·rw[X0 (fun q:Int×Int=>!decide (q=(a,b)))];exact hR
def OD (G:Glob K mg) (DD:Def K mg "sets_of" BS ["holders"])
  : AI P w K mg base:=by
 refine DD.oz (k:=0) Nc (fun _ _ _ _ _ _ E hr=>⟨_,(Jz (Pu.pz 1 Nc.nd (JH (az (JR JY)))) (Jz (U4 YI rfl (Ul (K:=K) (pv 0)) (gz 2 Nc.nd) (J0 (Pu.pz 1 Nc.nd (J1 UZ (pv 1) (UQ (N':=["members","holder"]) (φ:=[none,some 2]) rfl (Own.CompOk.of (by rfl)) (Ul (K:=K) (pv 1)) (fun _ _ _ _ _=>⟨(gz 0 (show(["members","holder"]:List Str).Nodup from by decide +kernel)),Xp,(J1 (Zec (K:=K)) (pv 0) (JR (az (pv 1))))⟩)))))) (J0 (J4 (pv 1))))), (Jy (J7 (JI (sz (JS JJ))) (J2 1)) (Jy (JE 0 (U5 [2] (X3 (Ju 0)) (J2 2) (JE 2 (J7 (Xd (Ju 1) (Uw (UT (Ju 1)) (J2 0) XD (Io (Ju 0) (JS (sz (Ju 1)))))) (J2 1))))) (XH 1)))⟩) (.a fun ds R X h=>?_)
 ·obtain⟨hs,rfl,hz,hR⟩:=h;refine⟨rfl,?_⟩;refine⟨by simp,by simp,rfl,X1 (xs:=hs) (emb:=D.int) (fun i γ'=>γ'=[some (.bor (.lst (hs.map D.int))),some (.own ((JX (hs.take i)).map tD)),none]) rfl ?_ ?_⟩
  ·rintro i hi γ' rfl
   have hlen:(JX (hs.take i)).length<=1024:=by
    rw[FT,Wr];exact QY (j:=10) (by decide) (by omega)
   have hel:∀ms∈JX (hs.take i),ms.length<=10:=fun ms hm=>by
    have:=(Ts _ ms hm).length_le
    rw[Wr] at this;omega
   rw[Wf hi,KH];generalize JX (hs.take i)=S at hlen hel ⊢;generalize hs[i]=h;refine UG (xs:=S) (emb:=tD) (fun ms=>some (tD (ms++[h]))) (by omega) (fun ms hm=>?_) ?_
   ·refine⟨by simp,_,_,Ms ms,rfl,?_,_,rfl,?_⟩
    ·have:=hel ms hm
     rw[Yn];show ms.length+1<=100000;omega
    ·unfold tD;rw[YD];rfl
   ·rw[mapD];refine⟨rfl,rfl,?_,?_⟩
    ·rw[Yn,Yn];omega
    ·show[_,_,_]=[_,_,_];rw[YD,Wh];rfl
  ·rintro γ' rfl;rw[Qf];exact hR
def Mj (G:Glob K mg) (DD:Def K mg "without" NU ["members","holder"])
  : Nx P w K mg base:=by
 refine DD.oz (k:=0) Za5 (fun _ _ _ _ _ _ E hr=>⟨_,(J0 (J4 (X2 (Ca (K:=K)) (by rfl) G.tuple boot_tuple (az (UQ (N':=["member","holder"]) (φ:=[none,some 1]) rfl (Own.CompOk.of (by rfl)) (PY (K:=K) (pv 0)) (fun _ _ _ _ _=>⟨(gz 0 (show(["member","holder"]:List Str).Nodup from by decide +kernel)),(Xr (cn K hr (pv 0) (pv 1))),(pv 0)⟩)))))), (J8 (A1 (sz (Uw (SndI.c (TL (Ju 0))) (J2 0) (J6 (Xv (Ju 0) (Ju 1))) (Ju 0)))))⟩) (.a fun ds R X h=>?_)
 ·obtain⟨ms,h,rfl,hz,hR⟩:=h;refine⟨rfl,?_⟩;rw[PU];refine⟨_,rfl,UG (s:=.sh .non) (xs:=ms) (emb:=D.int) (fun m=>if decide (m≠h)=true then some (.int m) else none) (by omega) (fun m hm=>?_) ?_⟩
  ·show if (!decide (m=h))=true then _ else _;by_cases e:m=h
   ·rw[Ys e];exact iteF (by simp[e])
   ·rw[YB e];exact iteT ⟨_,rfl,Yr (Ys e)⟩
  ·rw[X0 (fun m=>decide (m≠h))];exact⟨rfl,hR⟩
def Mw (G:Glob K mg) (DD:Def K mg "may_lie_last" Bb ["members","holder","wishes"])
  : Co P w K mg base:=by
 refine DD.oz (k:=0) RD (fun _ _ _ _ _ _ E hr=>⟨_,(J0 (J4 (Fu (U7 (EG (K:=K) rfl) (by rfl) G.any boot_any (az (UQ (N':=["ahead","behind","holder","members"]) (φ:=[none,none,some 1,some 0]) rfl (Own.CompOk.of (by rfl)) (Ul (K:=K) (pv 2)) (fun _ _ _ _ _=>⟨(T4 (K:=K) (n:=2) rfl (XQ (gz 0 (show(["ahead","behind","holder","members"]:List Str).Nodup from by decide +kernel)) (XQ (gz 1 (show(["ahead","behind","holder","members"]:List Str).Nodup from by decide +kernel)) PZ))),Xp,(Tv (K0 (PM (K:=K) (show _<cLine from hr.units0)) (pv 0) (pv 2) (JN _)) (Tq (K0 (Kb (K:=K) (show _<cLine from U6 hr)) (pv 1) (pv 3) (by with_unfolding_all rfl))))⟩))))))), (J8 (SE (Ei (sz (Uw (UT (Ju 2)) (N2 (Ky (J2 0) (Ky (J2 1) Nq))) XD (Ti (Ua (Ju 0) (Ju 2)) (Xq (Ju 1) (Ju 3))))))))⟩) (.a fun ds R X h=>?_)
 ·obtain⟨ms,h,ws,rfl,hz,hR⟩:=h;refine⟨rfl,?_⟩;rw[PU];refine UG (xs:=ws) (emb:=prD) (fun q=>some (.bl (decide (q.1=h)&&decide (q.2∈ms)))) (by omega) (fun q hq=>?_) ?_
  ·refine⟨rfl,?_⟩;show if true=true then(if decide (q.1=h)=true then _ else _) else(some (D.bl (decide (q.1=h)&&decide (q.2∈ms)))=none);refine iteT (ite2 (fun g=>⟨_,.ti _ _,?_⟩) (fun g=>?_))
   ·refine⟨_,rfl,?_⟩;rw[g,Qi];rfl
   ·refine⟨_,rfl,?_⟩;rw[Qq.mpr g,Q7]
  ·rw[mapD];refine⟨ws.map fun q=>decide (q.1=h)&&decide (q.2∈ms),by rw[Wh];rfl,?_⟩;rw[List.any_map];exact hR
def Zdm (G:Glob K mg) (DD:Def K mg "may_lie_first" BQ ["members","holder","wishes"])
  : G8 P w K mg base:=by
 refine DD.oz (k:=0) HE (fun _ _ _ _ _ _ E hr=>⟨_,(J0 (J4 (Fu (U7 (EG (K:=K) rfl) (by rfl) G.any boot_any (az (UQ (N':=["ahead","behind","holder","members"]) (φ:=[none,none,some 1,some 0]) rfl (Own.CompOk.of (by rfl)) (Ul (K:=K) (pv 2)) (fun _ _ _ _ _=>⟨(T4 (K:=K) (n:=2) rfl (XQ (gz 0 (show(["ahead","behind","holder","members"]:List Str).Nodup from by decide +kernel)) (XQ (gz 1 (show(["ahead","behind","holder","members"]:List Str).Nodup from by decide +kernel)) PZ))),Xp,(Tv (K0 (PM (K:=K) (show _<cLine from hr.units0)) (pv 1) (pv 2) (JN _)) (Tq (K0 (Kb (K:=K) (show _<cLine from U6 hr)) (pv 0) (pv 3) (by with_unfolding_all rfl))))⟩))))))), (J8 (SE (Ei (sz (Uw (UT (Ju 2)) (N2 (Ky (J2 0) (Ky (J2 1) Nq))) XD (Ti (Ua (Ju 1) (Ju 2)) (Xq (Ju 0) (Ju 3))))))))⟩) (.a fun ds R X h=>?_)
 ·obtain⟨ms,h,ws,rfl,hz,hR⟩:=h;refine⟨rfl,?_⟩;rw[PU];refine UG (xs:=ws) (emb:=prD) (fun q=>some (.bl (decide (q.2=h)&&decide (q.1∈ms)))) (by omega) (fun q hq=>?_) ?_
  ·refine⟨rfl,?_⟩;show if true=true then(if decide (q.2=h)=true then _ else _) else(some (D.bl (decide (q.2=h)&&decide (q.1∈ms)))=none);refine iteT (ite2 (fun g=>⟨_,.ti _ _,?_⟩) (fun g=>?_))
   ·refine⟨_,rfl,?_⟩;rw[g,Qi];rfl
   ·refine⟨_,rfl,?_⟩;rw[Qq.mpr g,Q7]
  ·rw[mapD];refine⟨ws.map fun q=>decide (q.2=h)&&decide (q.1∈ms),by rw[Wh];rfl,?_⟩;rw[List.any_map];exact hR
def HJ (G:Glob K mg) (DD:Pu.DefM K (Meth K (ExcR.J3 mg "Village") "strips") "strips" "Village.strips" Bx ["self"])
  : XO P w K mg base:=by
 refine DD.oz (k:=0) MV (fun _ _ _ _ _ _ E hr=>⟨_,(J0 (J4 (X2 (KS (K:=K)) (by rfl) G.list boot_list (az (jx K (XB (pv 0) rfl) (U9 UD Jw)))))), (J8 (KE (sz (Jx (P0 1 G.cl_Village G.n_Village_fields SK (Ju 0)) (U8 Jv)))))⟩) (.a fun ds R X h=>?_)
 ·obtain⟨bk,fs,ws,f,rfl,hR⟩:=h;refine⟨rfl,?_⟩;exact⟨rfl,rfl,_,rfl,_,PH plD fs f,XU _,hR⟩
def La (G:Glob K mg) (DD:Pu.DefM K (Meth K (ExcR.J3 mg "Village") "wishes") "wishes" "Village.wishes" F1 ["self"])
  : XY P w K mg base:=by
 refine DD.oz (k:=0) Zdf (fun _ _ _ _ _ _ E hr=>⟨_,(J0 (J4 (X2 (KS (K:=K)) (by rfl) G.list boot_list (az (jx K (XB (pv 0) rfl) (U9 UD Jw)))))), (J8 (KE (sz (Jx (P0 2 G.cl_Village G.n_Village_wished Fd (Ju 0)) (U8 Jv)))))⟩) (.a fun ds R X h=>?_)
 ·obtain⟨bk,fs,ws,f,rfl,hR⟩:=h;refine⟨rfl,?_⟩;exact⟨rfl,rfl,_,rfl,_,PH plD ws f,XU _,hR⟩
def Zaz (G:Glob K mg) (DD:Pu.DefM K (Meth K (ExcR.J3 mg "Village") "deeds") "deeds" "Village.deeds" Bg ["self"])
  : Ck P w K mg base:=by
 refine DD.oz (k:=0) Zcr (fun _ _ _ _ _ _ E hr=>⟨_,(J0 (J4 (X2 (KS (K:=K)) (by rfl) G.list boot_list (az (XB (pv 0) rfl))))), (J8 (KE (sz (P0 0 G.cl_Village G.n_Village_book Pv (Ju 0)))))⟩) (.a fun ds R X h=>?_)
 ·obtain⟨bk,fs,ws,rfl,hR⟩:=h;refine⟨rfl,?_⟩;exact⟨rfl,rfl,_,rfl,GS _,hR⟩
def LQ (G:Glob K mg) (DD:Pu.DefM K (Meth K (ExcR.J3 mg "Village") "check_room") "check_room" "Village.check_room" BX ["self"])
  : P6 P w K mg base:=by
 refine DD.ox (k:=0) Hx (fun _ _ _ _ _ _ E hr=>⟨_,(J0 (JA (JL Pm (ln K G.len (XB (pv 0) rfl)) (ExcR.Xn G.MOST_DEEDS) (JN _)) (J0 (ExcR.Xb G.g_BookFull.c G.m_BookFull ExcR.UU rfl (az (ExcR.pe_f (ExcR.X5 (ExcR.KC (ExcR.Xn G.MOST_DEEDS) (ExcR.X5 ExcR.KZ)))))))
   JC)), (JD (J6 (PN (JV (sz (P0 0 G.cl_Village G.n_Village_book Pv (Ju 0)))) Jv)) (UV (sz (se_f (X6 (Pf Jv (X6 KD)))))) JB)⟩) (.a fun ds R X h=>?_)
 ·obtain⟨bk,fs,ws,rfl,hR⟩:=h;refine⟨rfl,?_⟩;have hl:(bk.map dD).length=bk.length:=Yn ..;unfold KY at hR;refine⟨rfl,rfl,_,rfl,ite2 (fun g=>?_) (fun g=>?_)⟩
  ·have g':(100:Int)<=((bk.map dD).length:Int):=Yv g;rw[Yr (by omega)] at hR;exact⟨by decide,by decide,by decide,by decide,by decide,by simp,hR⟩
  ·have g':¬(100:Int)<=((bk.map dD).length:Int):=fun z=>g (Ys z);rw[Yq (by omega)] at hR;exact hR
def L4 (G:Glob K mg) (DD:Pu.DefM K (Meth K (ExcR.J3 mg "Village") "enter") "enter" "Village.enter" Sa ["self","deed","field","wishes"])
  : Pn P w K mg base:=by
 refine DD.oz (k:=0) Ip (fun _ _ _ _ _ _ E hr=>⟨_,(Jz (Um (XT YM Wi Wj XZ (XB (pv 0) rfl) (az (pv 1)))) (Jz (Um (XT YM Wi Wj XZ (XB (pv 0) rfl) (az (pv 2)))) (Jz (Um (XT YM Wi Wj XZ (XB (pv 0) rfl) (az (pv 3)))) (J0 (J4 (ln K G.len (XB (pv 0) rfl))))))), (Jy (JE 1 (Pg (F2 0 0 G.cl_Village G.n_Village_book Pv (Ju 1)))) (Jy (JE 2 (Pg (F2 0 1 G.cl_Village G.n_Village_fields SK (Ju 2)))) (Jy (JE 3 (Pg (F2 0 2 G.cl_Village G.n_Village_wished Fd (Ju 3)))) (PB (JV (sz (P0 0 G.cl_Village G.n_Village_book Pv (Ju 0))))))))⟩) (.c fun o ss R X h=>?_)
 ·obtain⟨x,b1,b2,b3,bk,fs,ws,q,f,w,rfl,rfl,h1,h2,h3,hR⟩:=h;refine⟨rfl,?_⟩;have k1:(bk.map dD).length<10000000:=by rw[Yn];omega
  have k2:(fs.map plD).length<10000000:=by rw[Yn];omega
  have k3:(ws.map plD).length<10000000:=by rw[Yn];omega
  refine⟨rfl,rfl,_,rfl,k1,rfl,rfl,_,rfl,k2,rfl,rfl,_,rfl,k3,rfl,rfl,_,rfl,_,rfl,⟨rfl,by simp⟩,?_⟩;have e:(((bk.map dD++[dD q]).length:Nat):Int)=(bk.length:Int)+1:=by rw[Yy,Yn];simp
  show R (.ins x _ vF [(b1,bk.map dD++[dD q]),(b2,fs.map plD++[plD f]),(b3,ws.map plD++[plD w])]) (.int (((bk.map dD++[dD q]).length:Nat):Int));rw[e];have e1:bk.map dD++[dD q]=(bk++[q]).map dD:=by rw[YD];rfl
  have e2:fs.map plD++[plD f]=(fs++[f]).map plD:=by rw[YD];rfl
  have e3:ws.map plD++[plD w]=(ws++[w]).map plD:=by rw[YD];rfl
  rw[e1,e2,e3];exact hR
def Ii (G:Glob K mg) (DD:Pu.DefM K (Meth K (ExcR.J3 mg "Village") "take_back") "take_back" "Village.take_back" BO ["self"])
  : A7 P w K mg base:=by
 refine DD.ox (k:=0) Oz (fun _ _ _ _ _ _ E hr=>⟨_,(Jz (JA (Uv (Ue (K:=K) (XB (pv 0) rfl))) (J0 (ExcR.Xb G.g_NothingDone.c G.m_NothingDone ExcR.UU rfl (az JZ)))
   JC) (Jz (Um (Td YM Qw Qx TR (XB (pv 0) rfl))) (Jz (Um (Td YM Qw Qx TR (XB (pv 0) rfl))) (J0 (J4 (Td YM Qw Qx TR (XB (pv 0) rfl))))))), (Jy (JD (UM (Ut (P0 0 G.cl_Village G.n_Village_book Pv (Ju 0)))) (UV (sz Ub)) JB) (Jy (Pg (Sl 0 1 G.cl_Village G.n_Village_fields SK)) (Jy (Pg (Sl 0 2 G.cl_Village G.n_Village_wished Fd)) (XI (Sl 0 0 G.cl_Village G.n_Village_book Pv)))))⟩) (.c fun o ss R X h=>?_)
 ·obtain⟨x,b1,b2,b3,bk,fs,ws,rfl,rfl,h1,h2,hX,hR⟩:=h;refine⟨rfl,?_⟩;have emp:(bk.map dD).isEmpty=decide (bk=[]):=by cases bk<;>simp
  refine⟨rfl,rfl,_,rfl,?_⟩;show if (!(!(bk.map dD).isEmpty))=true then _ else _;rw[Bool.not_not,emp];refine ite2 (fun g=>⟨by simp,_,rfl,⟨rfl,by simp⟩,hX (Yv g)⟩) (fun g=>?_);have hne:bk≠[]:=fun z=>g (Ys z);obtain⟨b0,q,rfl⟩:∃b0 q,bk=b0++[q]:=⟨_,_,(List.dropLast_concat_getLast hne).symm⟩;have hl:(b0++[q]).length=b0.length+1:=by simp
  have f1:(fs.map plD)[(fs.map plD).length-1]?=some (plD (fs[fs.length-1]'(by omega))):=by
   rw[Yn,Yz,Yo (by omega)];rfl
  have w1:(ws.map plD)[(ws.map plD).length-1]?=some (plD (ws[ws.length-1]'(by omega))):=by
   rw[Yn,Yz,Yo (by omega)];rfl
  have q1:((b0++[q]).map dD)[((b0++[q]).map dD).length-1]?=some (dD q):=by
   rw[Yn,Yz,hl,Ql,YN (Yx _),Vo];rfl
  refine⟨rfl,rfl,_,_,rfl,f1,rfl,rfl,_,_,rfl,w1,rfl,rfl,_,_,rfl,q1,_,rfl,⟨rfl,by simp⟩,?_⟩;have e1:((b0++[q]).map dD).dropLast=b0.map dD:=by rw[YD];exact WI
  have e2:(fs.map plD).dropLast=fs.dropLast.map plD:=List.map_dropLast.symm;have e3:(ws.map plD).dropLast=ws.dropLast.map plD:=List.map_dropLast.symm
  have:=hR b0 q rfl
  rw[show vO (ExcR.J3 mg "Village") x b1 b2 b3 b0 fs.dropLast ws.dropLast=.ins x (ExcR.J3 mg "Village") vF [(b1,((b0++[q]).map dD).dropLast),(b2,(fs.map plD).dropLast),(b3,(ws.map plD).dropLast)] by rw[e1,e2,e3]] at this;exact this
def HF (G:Glob K mg) (DD:Def K mg "_law_at" Fw ["_law_script","_law_k"])
  : KO P w K mg base:=by
 refine DD.oz (k:=0) Za2 (fun _ _ _ _ _ _ E hr=>⟨_,(Jz (JA (JL Xh (pv 1) (ln K G.len (pv 0)) (JN _)) (J0 (J4 (jx K (pv 0) (pv 1))))
   JC) (J0 (J4 Jw))), (Jy (JD (J6 (Xf (Ju 1) (JV (sz (Ju 0))))) (J8 (Jx (Ju 0) (Ju 1))) JB) (J8 Jv))⟩) (.a fun ds R X h=>?_)
 ·obtain⟨ns,k,rfl,hk,hR⟩:=h;refine⟨rfl,?_⟩;refine ite2 (fun g=>?_) (fun g=>?_)
  ·have g':k<(ns.length:Int):=Yv g;have e:=Yo (show k.toNat<ns.length by omega);rw[Y1,e] at hR;exact⟨_,TH hk e,hR⟩
  ·have g':¬k<(ns.length:Int):=fun z=>g (Ys z);rw[Y1,WS (by omega)] at hR;exact hR
def Iw (G:Glob K mg) (DD:Def K mg "_law_whole" Fn ["_law_found"])
  : PP P w K mg base:=by
 refine DD.oz (k:=0) Za4 (fun _ _ _ _ _ _ E hr=>⟨_,(J0 (J4 (Tv (U7 (Kl (K:=K)) (by rfl) G.isinstance W9 (bz (pv 0) (Kh (v:=.ty "int") rfl G.int boot_int rfl))) (Tq (Fu (U7 (Kl (K:=K)) (by rfl) G.isinstance W9 (bz (pv 0) (Kh (v:=.ty "bool") rfl G.bool boot_bool rfl)))))))), (J8 (Ti (Kf (tz (Ju 0) Kd)) (SE (Kf (tz (Ju 0) Kd)))))⟩) (.a fun ds R X h=>?_)
 ·obtain⟨i,rfl,hR⟩:=h;refine⟨rfl,?_⟩;exact⟨_,.same _,_,.ib,hR⟩
def OA (G:Glob K mg) (DD:Def K mg "_law_mix" SS ["_law_cell","_law_place_here"])
  : Pa P w K mg base:=by
 refine DD.oz (k:=0) Cz (fun _ _ _ _ _ _ E hr=>⟨_,(Jz (Pu.pz 2 Cz.nd (J1 JQ (J1 Pe (J1 JT (J1 JT (J1 JQ (pv 0) Jw) (J1 Pe Jw (pv 1))) Jw) Jw) Jw)) (J0 (J4 (J1 JQ (J1 Pe (J1 JT (J1 JT (pv 2) (J1 Pe Jw (pv 1))) Jw) Jw) Jw)))), (Jy (J7 (JP (KG (JU (JU (JP (Ju 0) Jv) (KG Jv (Ju 1))) Jv) Jv) Jv) (J2 2)) (J8 (JP (KG (JU (JU (Ju 2) (KG Jv (Ju 1))) Jv) Jv) Jv)))⟩) (.a fun ds R X h=>?_)
 ·obtain⟨c,p,rfl,hR⟩:=h;refine⟨rfl,?_⟩;unfold mixP at hR;exact⟨(by show(0:Int)<2147483647;decide),.inl ⟨by decide,by decide⟩,.inr ⟨by decide,by decide⟩,(by show(0:Int)<2147483647;decide),.inl ⟨by decide,by decide⟩,.inr ⟨by decide,by decide⟩,(by show(0:Int)<2147483647;decide),hR⟩
def Lu (G:Glob K mg) (DD:Def K mg "_law_menu" Bp ["_law_cell"])
  : GC P w K mg base:=by
 refine DD.oz (k:=0) BJ (fun _ _ _ _ _ _ E hr=>⟨_,(Jz (Pu.pz 1 BJ.nd (jx K (JH (JG Jw (JG Jw (JG Jw (JG Jw (JG Jw JY)))))) (J1 JQ (J1 Uq (pv 0) Jw) Jw))) (Jz (Pu.pz 2 BJ.nd (jx K (JH (JG Jw (JG Jw (JG Jw (JG Jw (JG Jw JY)))))) (J1 JQ (J1 Uq (pv 0) Jw) Jw))) (J0 (J4 (JH (JG (J1 JT Jw (J1 JQ (pv 0) Jw)) (JG (jx K (JH (JG Jw (JG Jw (JG Jw (JG Jw JY))))) (J1 JQ (J1 Uq (pv 0) Jw) Jw)) (JG (J1 JQ (J1 Uq (pv 0) Jw) Jw) (JG (pv 1) (JG (pv 2) JY)))))))))), (Jy (J7 (Jx (JI (JK Jv (JK Jv (JK Jv (JK Jv (JK Jv JJ)))))) (JP (Up (Ju 0) Jv) Jv)) (J2 1)) (Jy (J7 (Jx (JI (JK Jv (JK Jv (JK Jv (JK Jv (JK Jv JJ)))))) (JP (Up (Ju 0) Jv) Jv)) (J2 2)) (JE 2 (JE 1 (J8 (JI (JK (JU Jv (JP (Ju 0) Jv)) (JK (Jx (JI (JK Jv (JK Jv (JK Jv (JK Jv JJ))))) (JP (Up (Ju 0) Jv) Jv)) (JK (JP (Up (Ju 0) Jv) Jv) (JK (Ju 1) (JK (Ju 2) JJ)))))))))))⟩) (.a fun ds R X h=>?_)
 ·obtain⟨c,rfl,hR⟩:=h;refine⟨rfl,?_⟩;have h1:0<=c / 10 % 4/\c / 10 % 4<4:=by omega
  have h2:0<=c / 400 % 5/\c / 400 % 5<5:=by omega
  have hb:∀v∈([1,3,7,9]:List Int),1<=v/\v<=9/\(v=1\/v=3\/v=7\/v=9):=by decide
  have hde:∀i:Int,0<=i->i<5->∃d e:Int,atI [D.int 1000,.int 3,.int 1,.int 2,.int 3] i=some (.int d)/\atI [D.int 1,.int 1,.int 1,.int 1,.int 998] i=some (.int e)/\(1<=d/\d<=1000)/\1<=e/\e+d<=1001:=fun i a b=>by
   have:i=0\/i=1\/i=2\/i=3\/i=4:=by omega
   rcases this with rfl|rfl|rfl|rfl|rfl
   ·exact⟨1000,1,rfl,rfl,by decide,by decide,by decide⟩
   ·exact⟨3,1,rfl,rfl,by decide,by decide,by decide⟩
   ·exact⟨1,1,rfl,rfl,by decide,by decide,by decide⟩
   ·exact⟨2,1,rfl,rfl,by decide,by decide,by decide⟩
   ·exact⟨3,998,rfl,rfl,by decide,by decide,by decide⟩
  obtain⟨d,e,e1,e2,hd,he⟩:=hde _ h2.1 h2.2;have hbb:=hb _ (YH (l:=([1,3,7,9]:List Int)) (n:=(c / 10 % 4).toNat) (by show(c / 10 % 4).toNat<4;omega));refine⟨by simp,⟨by decide,by decide⟩,(by show(0:Int)<5;decide),_,e1,by simp,⟨by decide,by decide⟩,(by show(0:Int)<5;decide),_,e2,(by show(0:Int)<10;decide),by simp,⟨by decide,by decide⟩,(by show(0:Int)<4;decide),_,Ko (f:=D.int) (xs:=[1,3,7,9]) h1.1 h1.2,⟨by decide,by decide⟩,(by show(0:Int)<10;decide),by simp,?_⟩;exact hR [_,_,_,_,_] ⟨_,_,_,_,_,rfl,by omega,hbb,by omega,hd,he⟩
def Ma (G:Glob K mg) (DD:Def K mg "_law_holder" Sf ["_law_menu_here","_law_k"])
  : Tj P w K mg base:=by
 refine DD.oz (k:=0) Zef (fun _ _ _ _ _ _ E hr=>⟨_,(J0 (J4 (J1 JT Jw (J1 JQ (J1 JT (J1 Pe (pv 1) (jx K (pv 0) Jw)) (jx K (pv 0) Jw)) Jw)))), (J8 (JU Jv (JP (JU (KG (Ju 1) (Jx (Ju 0) Jv)) (Jx (Ju 0) Jv)) Jv)))⟩) (.a fun ds R X h=>?_)
 ·obtain⟨m,k,rfl,hM,hR⟩:=h;refine⟨rfl,?_⟩;obtain⟨a,b,c,d,e,rfl,ha,hb,hc,hd,he⟩:=hM;exact⟨_,rfl,.inr ⟨by omega,by omega⟩,_,rfl,(by show(0:Int)<10;decide),hR _ (by omega) (by omega) rfl⟩
def OU (G:Glob K mg) (DD:Def K mg "_law_present" Sw ["_law_strips"])
  : FG P w K mg base:=by
 refine DD.oz (k:=0) Az (fun _ _ _ _ _ _ E hr=>⟨_,(Jz (Pu.pz 1 Az.nd (UQ (N':=["_law_strip"]) (φ:=[none]) rfl (Own.CompOk.of (by rfl)) (Ul (K:=K) (pv 0)) (fun _ _ _ _ _=>⟨(gz 0 (show(["_law_strip"]:List Str).Nodup from by decide +kernel)),Xp,(jx K (pv 0) Jw)⟩))) (J0 (J4 (UQ (N':=["_law_holder_here","_law_owners"]) (φ:=[none,some 1]) rfl (Own.CompOk.of (by rfl)) (DH rfl G.range (bz Jw Jw)) (fun _ _ _ _ _=>⟨(gz 0 (show(["_law_holder_here","_law_owners"]:List Str).Nodup from by decide +kernel)),(Xr (JL (Kb (K:=K) (show _<cLine from U6 hr)) (pv 0) (pv 1) (by with_unfolding_all rfl))),(pv 0)⟩))))), (Jy (J7 (Uw (UT (Ju 0)) (J2 0) XD (Jx (Ju 0) Jv)) (J2 1)) (J8 (Uw (SndI.c (E8 (tz Jv Jv))) (J2 0) (J6 (Xq (Ju 0) (Ju 1))) (Ju 0))))⟩) (.a fun ds R X h=>?_)
 ·obtain⟨ps,rfl,hz,hR⟩:=h;refine⟨rfl,?_⟩;refine UG (xs:=ps) (emb:=prD) (fun q=>some (.int q.1)) (by omega) (fun q hq=>⟨_,rfl,_,rfl,rfl⟩) ?_;rw[mapD (fun q:Int×Int=>D.int q.1),show ps.map (fun q:Int×Int=>D.int q.1)=(ps.map (·.1)).map D.int by rw[Wh];rfl];refine⟨⟨by decide,by decide,by decide,by decide⟩,Bw (n:=10) (fun i=>if decide ((1:Int)+(i:Int)∈ps.map (·.1))=true then some (.int (1+(i:Int))) else none) (by decide) (fun i hi=>?_) ?_⟩
  ·exact⟨_,.li _ _,ite2 (fun g=>⟨_,rfl,Yr g⟩) (fun g=>Yq g)⟩
  rw[X0 (fun i:Nat=>decide ((1:Int)+(i:Int)∈ps.map (·.1)))]
  have e:((List.range 10).filter fun i:Nat=>decide ((1:Int)+(i:Int)∈ps.map (·.1))).map (fun i:Nat=>D.int (1+(i:Int)))=(JF ps).map D.int:=by
   unfold JF;rw[MU,List.filter_map,Wh];rfl
  rw[e];exact hR
def Zc6 (G:Glob K mg) (DD:Def K mg "_law_price" SO ["_law_strips","_law_order"])
  : AN P w K mg base:=by
 refine DD.oz (k:=0) P7 (fun _ _ _ _ _ _ E hr=>⟨_,(Jz (K9 (N':=["_law_strip","_law_order"]) (φ:=[none,some 1]) (i:=2) P7.nd rfl rfl rfl (Own.CompOk.of (by rfl)) (Ul (K:=K) (pv 0)) (fun _ _ _ _ _=>⟨(gz 0 (show(["_law_strip","_law_order"]:List Str).Nodup from by decide +kernel)),Xp,(IE (K:=K) YM PySem.F.slot_list_index PySem.F.type_list_index (Zce (K:=K)) (pv 1) (az (jx K (pv 0) Jw)))⟩)) (Jz (Pu.pz 3 P7.nd Jw) (Jz (U4 YI rfl (X4 rfl G.range (az (ln K G.len (pv 0)))) (gz 4 P7.nd) (J0 (U4 YI rfl (X4 rfl G.range (az (pv 4))) (gz 5 P7.nd) (J0 (JA (JL UY (jx K (pv 2) (pv 5)) (jx K (pv 2) (pv 4)) (JN _)) (J0 (Pu.pz 3 P7.nd (J1 JT (pv 3) (J1 Pe (jx K (jx K (pv 0) (pv 5)) Jw) (jx K (jx K (pv 0) (pv 4)) Jw)))))
   JC))))) (J0 (J4 (pv 3)))))), (Jy (J7 (Uw (UT (Ju 0)) (J2 0) XD (Zc8 (Ju 1) (sz (Jx (Ju 0) Jv)))) (J2 2)) (Jy (J7 Jv (J2 3)) (Jy (U5 [4,5] (XA (sz (JV (sz (Ju 0))))) (J2 4) (U5 [5] (XA (sz (Ju 4))) (J2 5) (JD (J6 (US (Jx (Ju 2) (Ju 5)) (Jx (Ju 2) (Ju 4)))) (J7 (JU (Ju 3) (KG (Jx (Jx (Ju 0) (Ju 5)) Jv) (Jx (Jx (Ju 0) (Ju 4)) Jv))) (J2 3)) JB))) (XH 3))))⟩) (.a fun ds R X h=>?_)
 ·obtain⟨ps,os,rfl,hF,hz,hin,hR⟩:=h;refine⟨rfl,?_⟩;have hlm:(ps.map prD).length=ps.length:=Yn ..;refine UG (xs:=ps) (emb:=prD) (fun q=>some (.int (os.idxOf q.1:Nat))) (by omega) (fun q hq=>⟨⟨_,rfl⟩,_,rfl,os,rfl,hin q hq,_,rfl,rfl⟩) ?_;rw[mapD (fun q:Int×Int=>D.int (os.idxOf q.1:Nat)),show ps.map (fun q:Int×Int=>D.int (os.idxOf q.1:Nat))=(ps.map fun q:Int×Int=>((os.idxOf q.1:Nat):Int)).map D.int by rw[Wh];rfl];generalize ers:(ps.map fun q:Int×Int=>((os.idxOf q.1:Nat):Int))=rs
  have rx:∀(j:Nat) (hj:j<ps.length),atI (rs.map D.int) (0+(j:Int))=some (.int (os.idxOf ps[j].1:Nat)):=fun j hj=>by
   rw[show(0:Int)+(j:Int)=(j:Int) by omega,←ers];exact Kx (f:=D.int) (Ta (by rw[Yz,Yo hj];rfl))
  have px:∀(j:Nat) (hj:j<ps.length),atI (ps.map prD) (0+(j:Int))=some (prD ps[j]):=fun j hj=>by
   rw[show(0:Int)+(j:Int)=(j:Int) by omega];exact Kx (f:=prD) (Ta (Yo hj))
  refine⟨⟨by omega,by omega⟩,XM (fun k γ'=>γ'=[some (.bor (.lst (ps.map prD))),some (.bor (.lst (os.map D.int))),some (.own (rs.map D.int)),some (.sh (.int (priM ps os k))),none,none]) rfl ?_ ?_⟩
  ·rintro k γ' hk rfl
   have hk':k<ps.length:=by
    have:k<(((ps.map prD).length:Nat):Int).toNat:=hk
    omega
   have hgk:ps.getD k (0,0)=ps[k]:=by rw[Y1,Yo hk'];rfl
   have ep:priM ps os (k+1)=priM ps os k+rsM ps os ps[k].1 k*ps[k].2:=by simp only[priM];rw[hgk]
   have hwk:=hF ps[k] (YH hk');refine⟨⟨by omega,by omega⟩,XM (fun j γ'=>γ'=[some (.bor (.lst (ps.map prD))),some (.bor (.lst (os.map D.int))),some (.own (rs.map D.int)),some (.sh (.int (priM ps os k+rsM ps os ps[k].1 j*ps[k].2))),some (.sh (.int (0+(k:Int)))),none]) ?_ ?_ ?_⟩
   ·rw[show rsM ps os ps[k].1 0=0 from rfl,Int.zero_mul,Qv]
    rfl
   ·rintro j γ' hj rfl
    have hj':j<ps.length:=by
     have:j<((0:Int)+(k:Int)).toNat:=hj
     omega
    have hgj:ps.getD j (0,0)=ps[j]:=by rw[Y1,Yo hj'];rfl
    have hwj:=hF ps[j] (YH hj');have step:rsM ps os ps[k].1 (j+1)=rsM ps os ps[k].1 j+(if os.idxOf ps[k].1<os.idxOf ps[j].1 then ps[j].2 else 0):=by simp only[rsM];rw[hgj]
    refine⟨_,rx j hj',_,rx k hk',ite2 (fun g=>?_) (fun g=>?_)⟩
    ·have g':((os.idxOf ps[k].1:Nat):Int)<((os.idxOf ps[j].1:Nat):Int):=Yv g;refine⟨_,px j hj',_,rfl,_,px k hk',_,rfl,.inl ⟨by show -(2 ^ 64)<ps[j].2;omega,by show ps[j].2<2 ^ 64;omega⟩,?_⟩;rw[step,Yr (by omega),Int.add_mul,←Int.add_assoc];rfl
    ·have g':¬((os.idxOf ps[k].1:Nat):Int)<((os.idxOf ps[j].1:Nat):Int):=fun z=>g (Ys z);rw[step,Yq (by omega),Qv];rfl
   ·rintro γ' rfl;rw[show((0:Int)+(k:Int)).toNat=k by omega,←ep];rfl
  ·rintro γ' rfl;rw[show(((ps.map prD).length:Nat):Int).toNat=ps.length by omega];exact hR
def Zck (G:Glob K mg) (DD:Def K mg "_law_no_ring" Sn ["_law_holders","_law_wishes"])
  : ER P w K mg base:=by
 refine DD.oz (k:=0) Pj (fun _ _ _ _ _ _ E hr=>⟨_,(Jz (Pu.pz 2 Pj.nd (X2 (KS (K:=K)) (by rfl) G.list boot_list (az (pv 0)))) (Jz (U4 YI rfl (Ul (K:=K) (pv 0)) (gz 3 Pj.nd) (Jz (K9 (N':=["_law_pair_here","_law_left"]) (φ:=[none,some 2]) (i:=4) Pj.nd rfl rfl rfl (Own.CompOk.of (by rfl)) (Ul (K:=K) (pv 1)) (fun _ _ _ _ _=>⟨(gz 0 (show(["_law_pair_here","_law_left"]:List Str).Nodup from by decide +kernel)),(Xr (PW.pt (Ks (JL (Kb (K:=K) (show _<cLine from U6 hr)) (jx K (pv 0) Jw) (pv 1) (by with_unfolding_all rfl)) (KI (JL (Kb (K:=K) (show _<cLine from U6 hr)) (jx K (pv 0) Jw) (pv 1) (by with_unfolding_all rfl)))))),(pv 0)⟩)) (Jz (Pu.pz 5 Pj.nd (UQ (N':=["_law_pair_here"]) (φ:=[none]) rfl (Own.CompOk.of (by rfl)) (Ul (K:=K) (pv 4)) (fun _ _ _ _ _=>⟨(gz 0 (show(["_law_pair_here"]:List Str).Nodup from by decide +kernel)),Xp,(jx K (pv 0) Jw)⟩))) (J0 (Pu.pz 2 Pj.nd (UQ (N':=["_law_holder_here","_law_behind"]) (φ:=[none,some 5]) rfl (Own.CompOk.of (by rfl)) (Ul (K:=K) (pv 2)) (fun _ _ _ _ _=>⟨(gz 0 (show(["_law_holder_here","_law_behind"]:List Str).Nodup from by decide +kernel)),(Xr (JL (Kb (K:=K) (show _<cLine from U6 hr)) (pv 0) (pv 1) (by with_unfolding_all rfl))),(pv 0)⟩))))))) (J0 (J4 (K0 (Nl (K:=K) (show _<cLine from hr.units0)) (pv 2) (JH JY) (JN _)))))), (Jy (J7 (KE (sz (Ju 0))) (J2 2)) (Jy (JE 0 (U5 [3,4,5] (X3 (Ju 0)) (J2 3) (Jy (J7 (Uw (UT (Ju 1)) (J2 0) (KL (J6 (Xq (Jx (Ju 0) Jv) (Ju 1))) (J6 (Xq (Jx (Ju 0) Jv) (Ju 1)))) (Ju 0)) (J2 4)) (Jy (J7 (Uw (UT (Ju 4)) (J2 0) XD (Jx (Ju 0) Jv)) (J2 5)) (J7 (Uw (UT (Ju 2)) (J2 0) (J6 (Xq (Ju 0) (Ju 1))) (Ju 0)) (J2 2)))))) (J8 (Pz (Ju 2) (JI JJ)))))⟩) (.a fun ds R X h=>?_)
 ·obtain⟨hs,ws,rfl,hz,hw,hR⟩:=h;refine⟨rfl,?_⟩;refine⟨Pi _,rfl,X1 (xs:=hs) (emb:=D.int) (fun i γ'=>γ'=[some (.bor (.lst (hs.map D.int))),some (.bor (.lst (ws.map prD))),some (.own ((Ug ws hs i).map D.int)),none,none,none]/\(Ug ws hs i).length<=50) ⟨rfl,hz⟩ ?_ ?_⟩
  ·rintro i hi γ' ⟨rfl,hl⟩;generalize e:Ug ws hs i=ls at hl;have e2:Ug ws hs (i+1)=Xw ws ls:=YS (Xw ws) e;have li:(Ku ws ls).length<=50:=Y7 (Wk _ _) hw;refine UG (xs:=ws) (emb:=prD) (fun q=>if (decide (q.1∈ls)&&decide (q.2∈ls))=true then some (prD q) else none) (by omega) (fun q hq=>?_) ?_
   ·refine⟨_,rfl,_,.li _ _,ite2 (fun g1=>⟨_,rfl,_,.li _ _,ite2 (fun g2=>⟨_,rfl,Yr ?_⟩) (fun g2=>Yq ?_)⟩) (fun g1=>iteF (Yq ?_))⟩
    ·have g1':decide (q.1∈ls)=true:=g1;have g2':decide (q.2∈ls)=true:=g2;rw[g1',g2'];rfl
    ·have g2':decide (q.2∈ls)=false:=Qq.mpr g2;rw[g2',Bool.and_false];exact Y9
    ·have g1':decide (q.1∈ls)=false:=Qq.mpr g1;rw[g1',Q7];exact Y9
   rw[X0 (fun q:Int×Int=>decide (q.1∈ls)&&decide (q.2∈ls))];show _;refine UG (xs:=Ku ws ls) (emb:=prD) (fun q=>some (.int q.2)) (by omega) (fun q hq=>⟨_,rfl,_,rfl,rfl⟩) ?_;rw[mapD (fun q:Int×Int=>D.int q.2),show(Ku ws ls).map (fun q:Int×Int=>D.int q.2)=((Ku ws ls).map (·.2)).map D.int by rw[Wh];rfl];refine UG (xs:=ls) (emb:=D.int) (fun h=>if decide (h∈(Ku ws ls).map (·.2))=true then some (.int h) else none) (by omega) (fun h hh=>?_) ?_
   ·exact⟨_,.li _ _,ite2 (fun g=>⟨_,rfl,Yr g⟩) (fun g=>Yq g)⟩
   rw[X0 (fun h:Int=>decide (h∈(Ku ws ls).map (·.2)))];exact⟨by rw[e2];rfl,by rw[e2];exact Y7 (Wk _ _) hl⟩
  ·rintro γ' ⟨rfl,hl⟩;refine⟨Wy _,?_⟩;have e:((Ug ws hs hs.length).map D.int).isEmpty=decide (Ug ws hs hs.length=[]):=by cases Ug ws hs hs.length<;>simp
   show R (.sh (.bl ((Ug ws hs hs.length).map D.int).isEmpty));rw[e];exact hR
def RB (G:Glob K mg) (DD:Def K mg "_law_field_step" Fv ["_law_strips","_law_deed_here"])
  : Eb P w K mg base:=by
 refine DD.oz (k:=0) Tp (fun _ _ _ _ _ _ E hr=>⟨_,(Jz (Pu.pz 2 Tp.nd (jx K (pv 1) Jw)) (Jz (JA (PW.pt (Uy (JL Xh (pv 2) Jw (JN _)) (UA (JL UY (pv 2) (J1 UK (ln K G.len (pv 0)) (X2 Ie (by rfl) G.int boot_int (az (K0 (PM (K:=K) (show _<cLine from hr.units0)) (jx K (pv 1) Jw) JZ (JN _))))) (JN _))))) (J0 (J4 (JH (bz Jw (pv 0)))))
   JC) (Jz (Pu.pz 3 Tp.nd (jx K (jx K (pv 0) (J1 UK (pv 2) Jw)) Jw)) (Jz (Pu.pz 4 Tp.nd (jx K (jx K (pv 0) (J1 UK (pv 2) Jw)) Jw)) (Jz (JA (cq K hr (jx K (pv 1) Jw) JZ) (Jz (JA (PW.pt (Uy (JL Xh (jx K (pv 1) Jw) Jw (JN _)) (UA (JL UY (jx K (pv 1) Jw) Jw (JN _))))) (J0 (J4 (JH (bz Jw (pv 0)))))
   JC) (Jz (JA (cq K hr (jx K (pv 1) Jw) (pv 3)) (J0 (J4 (JH (bz Jw (pv 0)))))
   JC) (J0 (J4 (JH (bz Jw (J1 UZ (J1 UZ (Xi (Xg (K:=K)) (pv 0) Xo (UX (J1 UK (pv 2) Jw))) (JH (az (JR (bz (jx K (pv 1) Jw) (pv 4)))))) (Xi (Xg (K:=K)) (pv 0) (UX (pv 2)) Xo))))))))
   JC) (Jz (JA (cq K hr (jx K (pv 1) Jw) JZ) (Jz (JA (PW.pt (Uy (JL Xh (jx K (pv 1) Jw) Jw (JN _)) (UA (JL Pm (jx K (pv 1) Jw) (pv 4) (JN _))))) (J0 (J4 (JH (bz Jw (pv 0)))))
   JC) (Jz (JA (cq K hr (ln K G.len (pv 0)) Jw) (J0 (J4 (JH (bz Jw (pv 0)))))
   JC) (Jz (Pu.pz 5 Tp.nd (JH (bz (JR (bz (pv 3) (jx K (pv 1) Jw))) (JR (bz (pv 3) (J1 UK (pv 4) (jx K (pv 1) Jw))))))) (J0 (J4 (JH (bz Jw (J1 UZ (J1 UZ (Xi (Xg (K:=K)) (pv 0) Xo (UX (J1 UK (pv 2) Jw))) (pv 5)) (Xi (Xg (K:=K)) (pv 0) (UX (pv 2)) Xo)))))))))
   JC) (Jz (JA (cn K hr (jx K (jx K (pv 0) (pv 2)) Jw) (pv 3)) (J0 (J4 (JH (bz Jw (pv 0)))))
   JC) (Jz (JA (JL UY (J1 JT (pv 4) (jx K (jx K (pv 0) (pv 2)) Jw)) Jw (JN _)) (J0 (J4 (JH (bz Jw (pv 0)))))
   JC) (J0 (J4 (JH (bz Jw (J1 UZ (J1 UZ (Xi (Xg (K:=K)) (pv 0) Xo (UX (J1 UK (pv 2) Jw))) (JH (az (JR (bz (pv 3) (J1 JT (pv 4) (jx K (jx K (pv 0) (pv 2)) Jw))))))) (Xi (Xg (K:=K)) (pv 0) (UX (J1 JT (pv 2) Jw)) Xo)))))))))))))), (Jy (J7 (Jx (Ju 1) Jv) (J2 2)) (Jy (JD (U0 (J6 (Xf (Ju 2) Jv)) (J6 (US (Ju 2) (UL (JV (sz (Ju 0))) (Hl (sz (Ua (Jx (Ju 1) Jv) Ub))))))) (JE 0 (J8 (JI (tz Jv (Ju 0))))) JB) (Jy (J7 (Jx (Jx (Ju 0) (UL (Ju 2) Jv)) Jv) (J2 3)) (Jy (J7 (Jx (Jx (Ju 0) (UL (Ju 2) Jv)) Jv) (J2 4)) (Jy (JD (J6 (Ua (Jx (Ju 1) Jv) Ub)) (Jy (JD (U0 (J6 (Xf (Jx (Ju 1) Jv) Jv)) (J6 (US (Jx (Ju 1) Jv) Jv))) (JE 0 (J8 (JI (tz Jv (Ju 0))))) JB) (Jy (JD (J6 (Ua (Jx (Ju 1) Jv) (Ju 3))) (JE 0 (J8 (JI (tz Jv (Ju 0))))) JB) (J8 (JI (tz Jv (Xd (Xd (Xu (Ju 0) Xm (Xa (UL (Ju 2) Jv))) (JI (sz (JS (tz (Jx (Ju 1) Jv) (Ju 4)))))) (Xu (Ju 0) (Xa (Ju 2)) Xm))))))) JB) (Jy (JD (J6 (Ua (Jx (Ju 1) Jv) Ub)) (Jy (JD (U0 (J6 (Xf (Jx (Ju 1) Jv) Jv)) (J6 (PN (Jx (Ju 1) Jv) (Ju 4)))) (JE 0 (J8 (JI (tz Jv (Ju 0))))) JB) (Jy (JD (J6 (Ua (JV (sz (Ju 0))) Jv)) (JE 0 (J8 (JI (tz Jv (Ju 0))))) JB) (Jy (J7 (JI (tz (JS (tz (Ju 3) (Jx (Ju 1) Jv))) (JS (tz (Ju 3) (UL (Ju 4) (Jx (Ju 1) Jv)))))) (J2 5)) (J8 (JI (tz Jv (Xd (Xd (Xu (Ju 0) Xm (Xa (UL (Ju 2) Jv))) (Ju 5)) (Xu (Ju 0) (Xa (Ju 2)) Xm)))))))) JB) (Jy (JD (J6 (Xv (Jx (Jx (Ju 0) (Ju 2)) Jv) (Ju 3))) (JE 0 (J8 (JI (tz Jv (Ju 0))))) JB) (Jy (JD (J6 (US (JU (Ju 4) (Jx (Jx (Ju 0) (Ju 2)) Jv)) Jv)) (JE 0 (J8 (JI (tz Jv (Ju 0))))) JB) (J8 (JI (tz Jv (Xd (Xd (Xu (Ju 0) Xm (Xa (UL (Ju 2) Jv))) (JI (sz (JS (tz (Ju 3) (JU (Ju 4) (Jx (Jx (Ju 0) (Ju 2)) Jv))))))) (Xu (Ju 0) (Xa (JU (Ju 2) Jv)) Xm)))))))))))))⟩) (.b fun ds R X h=>?_)
 ·obtain⟨f,x,rfl,hx,hz,hR⟩:=h;refine⟨rfl,?_⟩;have hl:(f.map prD).length=f.length:=Yn ..;have l1:∀p:Int,(cutD (f.map prD) none (some (p-1))).length<=1000:=fun p=>by have:=(Kq (f.map prD) none (some (p-1))).length_le;rw[Yn] at this;omega
  have l2:∀p:Int,(cutD (f.map prD) (some p) none).length<=1000:=fun p=>by have:=(Kq (f.map prD) (some p) none).length_le;rw[Yn] at this;omega
  cases x with
  | wish a b=>cases hx
  | drop a b=>cases hx
  | sell p h=>
   have hR:R (.own [.int (codeN (UI f p h)),plD (if UI f p h=none then XX f p h else f)]):=hR
   have no:∀c:Str,UI f p h=some c->R (.own [.int (codeN (some c)),plD f]):=fun c e=>by
    rw[e,Yq (by intro z;cases z)] at hR;exact hR
   unfold UI at no hR
   have one:(p<1\/(f.length:Int)<p)->R (.own [.int 1,plD f]):=fun z=>by
    rw[←NN];exact no _ (Yr z)
   refine⟨_,rfl,ite2 (fun g=>iteT ?_) (fun g=>⟨_,rfl,ite2 (fun g2=>?_) (fun g2=>?_)⟩)⟩
   ·exact⟨by simp,one (.inl (Yv g))⟩
   ·have g':(((f.map prD).length:Nat):Int)-0<p:=Yv g2;exact⟨by simp,one (.inr (by omega))⟩
   ·have n1:¬p<1:=fun z=>g (Ys z);have n2:¬(((f.map prD).length:Nat):Int)-0<p:=fun z=>g2 (Ys z);rw[Yq (by omega)] at no hR;have a1:=X8 (ps:=f) (p:=p) (by omega) (by omega);refine⟨_,a1,_,rfl,_,a1,_,rfl,_,rfl,?_⟩;refine⟨_,rfl,ite2 (fun g3=>iteT ?_) (fun g3=>⟨_,rfl,ite2 (fun g4=>?_) (fun g4=>?_)⟩)⟩
    ·have g':h<1:=Yv g3
     have:=no _ (Yr (by omega))
     rw[NG] at this;exact⟨by simp,this⟩
    ·have g':10<h:=Yv g4
     have:=no _ (Yr (by omega))
     rw[NG] at this;exact⟨by simp,this⟩
    ·have n3:¬h<1:=fun z=>g3 (Ys z);have n4:¬10<h:=fun z=>g4 (Ys z);rw[Yq (Wg.mpr ⟨by omega,by omega⟩)] at no hR;refine⟨_,rfl,ite2 (fun g5=>?_) (fun g5=>?_)⟩
     ·have g':h=(atP1 f p).1:=Yv g5
      have:=no _ (Yr g'.symm)
      rw[Eu] at this;exact⟨by simp,this⟩
     ·have g':¬h=(atP1 f p).1:=fun z=>g5 (Ys z);rw[Yq (fun z=>g' z.symm),Yr rfl] at hR;have e:=Cd (ps:=f) (p:=p) (x:=(h,(atP1 f p).2)) (by omega) (by omega);refine⟨rfl,_,rfl,by simp,by simp,rfl,rfl,Y7 (YU (l1 p) (Yx 1)) (by decide),rfl,rfl,rfl,Y7 (YU (by rw[Yy];exact YU (l1 p) (Yx 1)) (l2 p)) (by decide),by simp,?_⟩;have e9:plD (XX f p h)=.lst (cutD (f.map prD) none (some (p-1))++[prD (h,(atP1 f p).2)]++cutD (f.map prD) (some p) none):=YS D.lst e.symm;rw[e9] at hR;exact hR
  | part p w=>
   have hR:R (.own [.int (codeN (UE f p w)),plD (if UE f p w=none then UO f p w else f)]):=hR
   have no:∀c:Str,UE f p w=some c->R (.own [.int (codeN (some c)),plD f]):=fun c e=>by
    rw[e,Yq (by intro z;cases z)] at hR;exact hR
   unfold UE at no hR
   have one:(p<1\/(f.length:Int)<p)->R (.own [.int 1,plD f]):=fun z=>by
    rw[←NN];exact no _ (Yr z)
   refine⟨_,rfl,ite2 (fun g=>iteT ?_) (fun g=>⟨_,rfl,ite2 (fun g2=>?_) (fun g2=>?_)⟩)⟩
   ·exact⟨by simp,one (.inl (Yv g))⟩
   ·have g':(((f.map prD).length:Nat):Int)-0<p:=Yv g2;exact⟨by simp,one (.inr (by omega))⟩
   ·have n1:¬p<1:=fun z=>g (Ys z);have n2:¬(((f.map prD).length:Nat):Int)-0<p:=fun z=>g2 (Ys z);rw[Yq (by omega)] at no hR;have a1:=X8 (ps:=f) (p:=p) (by omega) (by omega);refine⟨_,a1,_,rfl,_,a1,_,rfl,_,rfl,_,rfl,?_⟩;refine⟨_,rfl,ite2 (fun g3=>iteT ?_) (fun g3=>⟨_,rfl,ite2 (fun g4=>?_) (fun g4=>?_)⟩)⟩
    ·have:=no _ (Yr (.inl (Yv g3)))
     rw[BU] at this;exact⟨by simp,this⟩
    ·have:=no _ (Yr (.inr (Yv g4)))
     rw[BU] at this;exact⟨by simp,this⟩
    ·have n3:¬w<1:=fun z=>g3 (Ys z);have n4:¬(atP1 f p).2<=w:=fun z=>g4 (Ys z);rw[Yq (by omega)] at no hR;refine ite2 (fun g5=>?_) (fun g5=>?_)
     ·have g':(((f.map prD).length:Nat):Int)=40:=Yv g5
      have:=no _ (Yr (by omega))
      rw[EH] at this;exact⟨by simp,this⟩
     ·have g':¬(((f.map prD).length:Nat):Int)=40:=fun z=>g5 (Ys z);rw[Yq (by omega),Yr rfl] at hR;refine⟨_,rfl,by simp,_,rfl,by simp,by simp,?_⟩;refine⟨rfl,rfl,rfl,Y7 (YU (l1 p) (Yx 2)) (by decide),rfl,rfl,rfl,Y7 (YU (by rw[Yy];exact YU (l1 p) (Yx 2)) (l2 p)) (by decide),by simp,?_⟩;have e9:plD (UO f p w)=.lst (cutD (f.map prD) none (some (p-1))++[prD ((atP1 f p).1,w),prD ((atP1 f p).1,(atP1 f p).2-w)]++cutD (f.map prD) (some p) none):=YS D.lst (GP (by omega)).symm;rw[e9] at hR;exact hR
  | unite p=>
   have hR:R (.own [.int (codeN (uniE f p)),plD (if uniE f p=none then uniL f p else f)]):=hR
   have no:∀c:Str,uniE f p=some c->R (.own [.int (codeN (some c)),plD f]):=fun c e=>by
    rw[e,Yq (by intro z;cases z)] at hR;exact hR
   unfold uniE at no hR
   have one:(p<1\/(f.length:Int)<=p)->R (.own [.int 1,plD f]):=fun z=>by
    rw[←NN];exact no _ (Yr z)
   refine⟨_,rfl,ite2 (fun g=>iteT ?_) (fun g=>⟨_,rfl,ite2 (fun g2=>?_) (fun g2=>?_)⟩)⟩
   ·exact⟨by simp,one (.inl (Yv g))⟩
   ·have g':(((f.map prD).length:Nat):Int)-1<p:=Yv g2;exact⟨by simp,one (.inr (by omega))⟩
   ·have n1:¬p<1:=fun z=>g (Ys z);have n2:¬(((f.map prD).length:Nat):Int)-1<p:=fun z=>g2 (Ys z);rw[Yq (by omega)] at no hR;have a1:=X8 (ps:=f) (p:=p) (by omega) (by omega);have a2:=AC (ps:=f) (p:=p) (by omega) (by omega);refine⟨_,a1,_,rfl,_,a1,_,rfl,_,rfl,_,rfl,?_⟩;refine⟨_,a2,_,rfl,ite2 (fun g3=>?_) (fun g3=>?_)⟩
    ·have g':¬(atP1 f (p+1)).1=(atP1 f p).1:=fun z=>by rw[Ys z] at g3;cases g3
     have:=no _ (Yr (fun z=>g' z.symm))
     rw[Gz] at this;exact⟨by simp,this⟩
    ·have g':(atP1 f (p+1)).1=(atP1 f p).1:=YV fun z=>g3 (by rw[YB z];rfl);rw[Yq (Wg.mpr g'.symm)] at no hR;refine⟨_,a2,_,rfl,ite2 (fun g4=>?_) (fun g4=>?_)⟩
     ·have:=no _ (Yr (Yv g4))
      rw[AZ] at this;exact⟨by simp,this⟩
     ·rw[Yq (fun z=>g4 (Ys z)),Yr rfl] at hR;refine⟨rfl,_,a2,_,rfl,by simp,by simp,rfl,rfl,Y7 (YU (l1 p) (Yx 1)) (by decide),rfl,rfl,rfl,Y7 (YU (by rw[Yy];exact YU (l1 p) (Yx 1)) (l2 (p+1))) (by decide),by simp,?_⟩;have e9:plD (uniL f p)=.lst (cutD (f.map prD) none (some (p-1))++[prD ((atP1 f p).1,(atP1 f p).2+(atP1 f (p+1)).2)]++cutD (f.map prD) (some (p+1)) none):=YS D.lst (Gp (by omega)).symm;rw[e9] at hR;exact hR
def IY (G:Glob K mg) (DD:Def K mg "_law_wish_step" FN ["_law_wishes","_law_deed_here"])
  : FW P w K mg base:=by
 refine DD.oz (k:=0) Av (fun _ _ _ _ _ _ E hr=>⟨_,(Jz (Pu.pz 2 Av.nd (JR (bz (jx K (pv 1) Jw) (jx K (pv 1) Jw)))) (Jz (JA (cq K hr (jx K (pv 1) Jw) JZ) (Jz (JA (JL (B9 (K:=K) (show _<cLine from U6 hr)) (pv 2) (pv 0) (by with_unfolding_all rfl)) (J0 (J4 (JH (bz Jw (pv 0)))))
   JC) (J0 (J4 (JH (bz Jw (UQ (N':=["_law_one","_law_pair_here"]) (φ:=[none,some 2]) rfl (Own.CompOk.of (by rfl)) (Ul (K:=K) (pv 0)) (fun _ _ _ _ _=>⟨(gz 0 (show(["_law_one","_law_pair_here"]:List Str).Nodup from by decide +kernel)),(Xr (JL (Ex (K:=K) (show _<cLine from hr.units0)) (pv 0) (pv 1) (JN _))),(pv 0)⟩)))))))
   JC) (Jz (JA (PW.pt (Uy (JL Xh (U7 (Oj (K:=K) rfl) (by rfl) G.min boot_min (az (pv 2))) Jw (JN _)) (UA (JL UY (U7 (Zdr (K:=K) rfl) (by rfl) G.max boot_max (az (pv 2))) Jw (JN _))))) (J0 (J4 (JH (bz Jw (pv 0)))))
   JC) (Jz (JA (cq K hr (jx K (pv 1) Jw) (jx K (pv 1) Jw)) (J0 (J4 (JH (bz Jw (pv 0)))))
   JC) (Jz (JA (JL (Kb (K:=K) (show _<cLine from U6 hr)) (pv 2) (pv 0) (by with_unfolding_all rfl)) (J0 (J4 (JH (bz Jw (pv 0)))))
   JC) (Jz (JA (cq K hr (ln K G.len (pv 0)) Jw) (J0 (J4 (JH (bz Jw (pv 0)))))
   JC) (J0 (J4 (JH (bz Jw (J1 UZ (pv 0) (JH (az (pv 2)))))))))))))), (Jy (J7 (JS (tz (Jx (Ju 1) Jv) (Jx (Ju 1) Jv))) (J2 2)) (Jy (JD (J6 (Ua (Jx (Ju 1) Jv) Ub)) (Jy (JD (J6 (Xq (Ju 2) (Ju 0))) (JE 0 (J8 (JI (tz Jv (Ju 0))))) JB) (J8 (JI (tz Jv (Uw (UT (Ju 0)) (J2 0) (J6 (FY (Ju 0) (Ju 1))) (Ju 0)))))) JB) (Jy (JD (U0 (J6 (Xf (Lf (sz (Ju 2))) Jv)) (J6 (US (Zcz (sz (Ju 2))) Jv))) (JE 0 (J8 (JI (tz Jv (Ju 0))))) JB) (Jy (JD (J6 (Ua (Jx (Ju 1) Jv) (Jx (Ju 1) Jv))) (JE 0 (J8 (JI (tz Jv (Ju 0))))) JB) (Jy (JD (J6 (Xq (Ju 2) (Ju 0))) (JE 0 (J8 (JI (tz Jv (Ju 0))))) JB) (Jy (JD (J6 (Ua (JV (sz (Ju 0))) Jv)) (JE 0 (J8 (JI (tz Jv (Ju 0))))) JB) (JE 2 (J8 (JI (tz Jv (Xd (Ju 0) (JI (sz (Ju 2))))))))))))))⟩) (.b fun ds R X h=>?_)
 ·obtain⟨w,x,rfl,hx,hz,hR⟩:=h;refine⟨rfl,?_⟩;have hl:(w.map prD).length=w.length:=Yn ..;cases x with
  | sell p h=>cases hx
  | part p h=>cases hx
  | unite p=>cases hx
  | drop a b=>
   refine⟨_,rfl,_,rfl,by simp,_,rfl,?_⟩;show ∃c,InR (prD (a,b)) (plD w) c/\_;have hR:R (.own [.int (codeN (Ux w a b)),plD (if Ux w a b=none then XN w a b else w)]):=hR;refine⟨_,.lp (a,b) w,ite2 (fun g=>?_) (fun g=>?_)⟩
   ·have g':¬(a,b)∈w:=fun z=>by rw[Yr rfl,Ys z] at g;cases g
    have e:Ux w a b=some ("NoWish" : Str):=Yq g';rw[e,Ep,Yq (by intro z;cases z)] at hR;exact⟨by simp,hR⟩
   ·have g':(a,b)∈w:=YV fun z=>g (by rw[Yr rfl,YB z];rfl);have e:Ux w a b=none:=Yr g';rw[e,Yr rfl] at hR;refine UG (xs:=w) (emb:=prD) (fun q=>if (!decide (q=(a,b)))=true then some (prD q) else none) (by omega) (fun q hq=>?_) ?_
    ·refine⟨[q.1,q.2],[a,b],rfl,rfl,?_⟩;have e:decide ([q.1,q.2]=[a,b])=decide (q=(a,b)):=OS q (a,b);show if (!decide ([q.1,q.2]=[a,b]))=true then _ else _;rw[e];exact ite2 (fun h=>⟨_,rfl,Yr h⟩) (fun h=>Yq h)
    ·rw[X0 (fun q:Int×Int=>!decide (q=(a,b)))];exact⟨by simp,hR⟩
  | wish a b=>
   refine⟨_,rfl,_,rfl,by simp,_,rfl,?_⟩;have hR:R (.own [.int (codeN (U2 w a b)),plD (if U2 w a b=none then w++[(a,b)] else w)]):=hR
   have no:∀c:Str,U2 w a b=some c->R (.own [.int (codeN (some c)),plD w]):=fun c e=>by
    rw[e,Yq (by intro z;cases z)] at hR;exact hR
   have bad:¬((1<=a/\a<=10)/\(1<=b/\b<=10))->R (.own [.int 2,plD w]):=fun z=>by
    rw[←NG];refine no _ ?_;unfold U2;by_cases c1:1<=a/\a<=10
    ·rw[Yq (Wg.mpr c1),Yr (fun y=>z ⟨c1,y⟩)]
    ·rw[Yr c1]
   have mn:∀x y:Int,(if y<x then y else x)<=x/\(if y<x then y else x)<=y/\((if y<x then y else x)=x\/(if y<x then y else x)=y):=fun x y=>by split<;>omega
   have mx:∀x y:Int,x<=(if y>x then y else x)/\y<=(if y>x then y else x)/\((if y>x then y else x)=x\/(if y>x then y else x)=y):=fun x y=>by split<;>omega
   have m1:=mn a b;have m2:=mx a b;refine ite2 (fun g=>iteT ?_) (fun g=>ite2 (fun g2=>?_) (fun g2=>?_))
   ·have g':(if b<a then b else a)<1:=Yv g;exact⟨by simp,bad (by omega)⟩
   ·have g':10<(if b>a then b else a):=Yv g2;exact⟨by simp,bad (by omega)⟩
   ·have n1:¬(if b<a then b else a)<1:=fun z=>g (Ys z);have n2:¬10<(if b>a then b else a):=fun z=>g2 (Ys z);have c1:1<=a/\a<=10:=by omega
    have c2:1<=b/\b<=10:=by omega
    unfold U2 at no hR;rw[Yq (Wg.mpr c1),Yq (Wg.mpr c2)] at no hR;refine⟨_,rfl,_,rfl,ite2 (fun g3=>?_) (fun g3=>?_)⟩
    ·have:=no _ (Yr (Yv g3))
     rw[Ak] at this;exact⟨by simp,this⟩
    ·have n3:¬a=b:=fun z=>g3 (Ys z);rw[Yq n3] at no hR;show ∃c,InR (prD (a,b)) (plD w) c/\_;refine⟨_,.lp (a,b) w,ite2 (fun g4=>?_) (fun g4=>?_)⟩
     ·have:=no _ (Yr (Yv g4))
      rw[GB] at this;exact⟨by simp,this⟩
     ·have n4:¬(a,b)∈w:=fun z=>g4 (Ys z);rw[Yq n4] at no hR;refine ite2 (fun g5=>?_) (fun g5=>?_)
      ·have g':(((w.map prD).length:Nat):Int)=20:=Yv g5
       have:=no _ (Yr (by omega))
       rw[Gc] at this;exact⟨by simp,this⟩
      ·have g':¬(((w.map prD).length:Nat):Int)=20:=fun z=>g5 (Ys z);rw[Yq (by omega),Yr rfl] at hR;refine⟨by simp,rfl,rfl,Y7 (YU (WG hl) (Yx 1)) (by omega),by simp,?_⟩;have e9:plD (w++[(a,b)])=.lst (w.map prD++[prD (a,b)]):=YS D.lst YD;rw[e9] at hR;exact hR
def LJ (G:Glob K mg) (DD:Def K mg "_law_odd" B0 ["_law_cell","_law_good"])
  : SM P w K mg base:=by
 refine DD.oz (k:=0) MB (fun _ _ _ _ _ _ E hr=>⟨_,(Jz (JA (cq K hr (J1 JQ (pv 0) Jw) Jw) (J0 (J4 (jx K (JH (JG Jw (JG Jw (JG (U9 UD Jw) (JG (J1 BP Jw Jw) JY))))) (J1 JQ (J1 Uq (pv 0) Jw) Jw))))
   JC) (J0 (J4 (pv 1)))), (Jy (JD (J6 (Ua (JP (Ju 0) Jv) Jv)) (J8 (Jx (JI (JK Jv (JK Jv (JK (U8 Jv) (JK (Sd Jv Jv) JJ))))) (JP (Up (Ju 0) Jv) Jv))) JB) (XH 1))⟩) (.a fun ds R X h=>?_)
 ·obtain⟨c,g,rfl,hR⟩:=h;refine⟨rfl,?_⟩;have h4:0<=c / 7 % 4/\c / 7 % 4<4:=by omega
  refine⟨(by show(0:Int)<7;decide),ite2 (fun _=>?_) (fun _=>hR _)⟩;exact⟨⟨by decide,by decide,by decide⟩,by simp,⟨by decide,by decide⟩,(by show(0:Int)<4;decide),_,Ko (f:=D.int) (xs:=[0,11,-3,10 ^ (30:Int).toNat]) h4.1 h4.2,hR _⟩
def ID (G:Glob K mg) (DD:Def K mg "_law_place" FS ["_law_cell","_law_strips"])
  : D2 P w K mg base:=by
 refine DD.oz (k:=0) Hs (fun _ _ _ _ _ _ E hr=>⟨_,(Jz (JA (cq K hr (J1 JQ (pv 0) Jw) Jw) (J0 (J4 (jx K (JH (JG Jw (JG (U9 UD Jw) (JG (J1 JT (ln K G.len (pv 1)) Jw) (JG (J1 BP Jw Jw) JY))))) (J1 JQ (J1 Uq (pv 0) Jw) Jw))))
   JC) (Jz (JA (JL (Nl (K:=K) (show _<cLine from hr.units0)) (pv 1) (JH JY) (JN _)) (J0 (J4 Jw))
   JC) (J0 (J4 (J1 JT Jw (J1 JQ (J1 Uq (pv 0) Jw) (ln K G.len (pv 1)))))))), (Jy (JD (J6 (Ua (JP (Ju 0) Jv) Jv)) (J8 (Jx (JI (JK Jv (JK (U8 Jv) (JK (JU (JV (sz (Ju 1))) Jv) (JK (Sd Jv Jv) JJ))))) (JP (Up (Ju 0) Jv) Jv))) JB) (Jy (JD (J6 (Pz (Ju 1) (JI JJ))) (J8 Jv) JB) (J8 (JU Jv (JP (Up (Ju 0) Jv) (JV (sz (Ju 1))))))))⟩) (.a fun ds R X h=>?_)
 ·obtain⟨c,ps,rfl,hz,hR⟩:=h;refine⟨rfl,?_⟩;have h4:0<=c / 11 % 4/\c / 11 % 4<4:=by omega
  have hl:(ps.map prD).length=ps.length:=Yn ..;refine⟨(by show(0:Int)<11;decide),ite2 (fun _=>?_) (fun _=>?_)⟩
  ·exact⟨⟨by decide,by decide,by decide⟩,by simp,⟨by decide,by decide⟩,(by show(0:Int)<4;decide),_,Ko (f:=D.int) (xs:=[0,-1,(((ps.map prD).length:Nat):Int)+1,10 ^ (30:Int).toNat]) h4.1 h4.2,hR _⟩
  ·refine⟨by simp,?_⟩;have emp:(ps.map prD).isEmpty=decide (ps=[]):=by cases ps<;>simp
   show if (ps.map prD).isEmpty=true then _ else _;rw[emp];refine ite2 (fun _=>hR _) (fun g=>?_);have hne:0<ps.length:=WB.mpr fun z=>g (Ys z);exact⟨⟨by decide,by decide⟩,(by show 0<(((ps.map prD).length:Nat):Int);omega),hR _⟩
def Ra (G:Glob K mg) (DD:Def K mg "_law_width" NY ["_law_cell","_law_strips","_law_place_here"])
  : D8 P w K mg base:=by
 refine DD.oz (k:=0) IB (fun _ _ _ _ _ _ E hr=>⟨_,(Jz (JA (PW.pt (Uy (JL Xh (pv 2) Jw (JN _)) (Uy (JL UY (pv 2) (ln K G.len (pv 1)) (JN _)) (UA (cq K hr (J1 JQ (pv 0) Jw) Jw))))) (J0 (J4 (jx K (JH (JG Jw (JG (U9 UD Jw) (JG Jw (JG Jw (JG Jw (JG Jw (JG (J1 BP Jw Jw) JY)))))))) (J1 JQ (J1 Uq (pv 0) Jw) Jw))))
   JC) (J0 (J4 (J1 JQ (J1 Uq (pv 0) Jw) (J1 JT (jx K (jx K (pv 1) (J1 UK (pv 2) Jw)) Jw) Jw))))), (Jy (JD (U0 (J6 (Xf (Ju 2) Jv)) (U0 (J6 (US (Ju 2) (JV (sz (Ju 1))))) (J6 (Ua (JP (Ju 0) Jv) Jv)))) (J8 (Jx (JI (JK Jv (JK (U8 Jv) (JK Jv (JK Jv (JK Jv (JK Jv (JK (Sd Jv Jv) JJ)))))))) (JP (Up (Ju 0) Jv) Jv))) JB) (J8 (JP (Up (Ju 0) Jv) (JU (Jx (Jx (Ju 1) (UL (Ju 2) Jv)) Jv) Jv))))⟩) (.a fun ds R X h=>?_)
 ·obtain⟨c,ps,p,rfl,hz,hF,hR⟩:=h;refine⟨rfl,?_⟩;have hl:(ps.map prD).length=ps.length:=Yn ..;have h7:0<=c / 5 % 7/\c / 5 % 7<7:=by omega
  have out:∃v:Int,atI ([0,-1,1,1000,1001,999,10 ^ (30:Int).toNat].map D.int) (c / 5 % 7)=some (.int v):=⟨_,Ko (f:=D.int) (xs:=[0,-1,1,1000,1001,999,10 ^ (30:Int).toNat]) h7.1 h7.2⟩;obtain⟨v,ev⟩:=out;refine ite2 (fun g=>iteT ?_) (fun g=>ite2 (fun g2=>iteT ?_) (fun g2=>⟨(by show(0:Int)<5;decide),ite2 (fun g3=>?_) (fun g3=>?_)⟩))
  ·exact⟨⟨by decide,by decide,by decide⟩,by simp,⟨by decide,by decide⟩,(by show(0:Int)<7;decide),_,ev,hR _⟩
  ·exact⟨⟨by decide,by decide,by decide⟩,by simp,⟨by decide,by decide⟩,(by show(0:Int)<7;decide),_,ev,hR _⟩
  ·exact⟨⟨by decide,by decide,by decide⟩,by simp,⟨by decide,by decide⟩,(by show(0:Int)<7;decide),_,ev,hR _⟩
  ·have n1:¬p<1:=fun z=>g (Ys z);have n2:¬(((ps.map prD).length:Nat):Int)<p:=fun z=>g2 (Ys z);have hm:=hF _ (Nm (ps:=ps) (p:=p) (by omega) (by omega));exact⟨⟨by decide,by decide⟩,_,X8 (by omega) (by omega),_,rfl,(by show 0<(atP1 ps p).2+1;omega),hR _⟩
def Rj (G:Glob K mg) (DD:Def K mg "_law_next" FI ["_law_cell","_law_strips"])
  : Et P w K mg base:=by
 refine DD.oz (k:=0) Px (fun _ _ _ _ _ _ E hr=>⟨_,(Jz (Pu.pz 2 Px.nd (JH JY)) (Jz (U4 YI rfl (X4 rfl G.range (az (J1 UK (ln K G.len (pv 1)) Jw))) (gz 3 Px.nd) (Jz (Pu.pz 4 Px.nd (J1 JT (jx K (jx K (pv 1) (pv 3)) Jw) (jx K (jx K (pv 1) (J1 JT (pv 3) Jw)) Jw))) (J0 (JA (PW.pt (Ks (cq K hr (jx K (jx K (pv 1) (pv 3)) Jw) (jx K (jx K (pv 1) (J1 JT (pv 3) Jw)) Jw)) (KI (JL Zap (pv 4) Jw (JN _))))) (J0 (Um (XT YM Wi Wj XZ (pv 2) (az (JR (bz JZ (J1 JT (pv 3) Jw)))))))
   JC)))) (Jz (K9 (N':=["_law_k","_law_strips"]) (φ:=[none,some 1]) (i:=5) Px.nd rfl rfl rfl (Own.CompOk.of (by rfl)) (X4 rfl G.range (az (ln K G.len (pv 1)))) (fun _ _ _ _ _=>⟨(gz 0 (show(["_law_k","_law_strips"]:List Str).Nodup from by decide +kernel)),(Xr (JL UY (jx K (jx K (pv 1) (pv 0)) Jw) Jw (JN _))),(J1 JT (pv 0) Jw)⟩)) (Ke (JA (PW.pt (Ks (JL (EA (K:=K) (show _<cLine from hr.units0)) (pv 2) (JH JY) (JN _)) (KI (PW.pt (Uy (cq K hr (J1 JQ (pv 0) Jw) Jw) (UA (JL (Nl (K:=K) (show _<cLine from hr.units0)) (pv 5) (JH JY) (JN _)))))))) (J0 (J4 (jx K (pv 2) (J1 JQ (J1 Uq (pv 0) Jw) (ln K G.len (pv 2))))))
   JC) (Jz (JA (JL (Nl (K:=K) (show _<cLine from hr.units0)) (pv 5) (JH JY) (JN _)) (J0 (J4 (JR (az JZ))))
   JC) (Jz (Pu.pz 6 Px.nd (jx K (pv 5) (J1 JQ (J1 Uq (pv 0) Jw) (ln K G.len (pv 5))))) (J0 (J4 (JR (dz JZ (pv 6) (J1 JT Jw (J1 JQ (J1 Uq (pv 0) Jw) (J1 UK (jx K (jx K (pv 1) (J1 UK (pv 6) Jw)) Jw) Jw))))))))))))), (Jy (J7 (JI JJ) (J2 2)) (Jy (U5 [3,4] (XA (sz (UL (JV (sz (Ju 1))) Jv))) (J2 3) (Jy (J7 (JU (Jx (Jx (Ju 1) (Ju 3)) Jv) (Jx (Jx (Ju 1) (JU (Ju 3) Jv)) Jv)) (J2 4)) (JD (KL (J6 (Ua (Jx (Jx (Ju 1) (Ju 3)) Jv) (Jx (Jx (Ju 1) (JU (Ju 3) Jv)) Jv))) (J6 (Mf (Ju 4) Jv))) (P2 2 (JS (tz Ub (JU (Ju 3) Jv)))) JB))) (Jy (J7 (Uw (SndI.c (XA (sz (JV (sz (Ju 1)))))) (J2 0) (J6 (US (Jx (Jx (Ju 1) (Ju 0)) Jv) Jv)) (JU (Ju 0) Jv)) (J2 5)) (Kp (JD (KL (J6 (Pz (Ju 2) (JI JJ))) (U0 (J6 (Ua (JP (Ju 0) Jv) Jv)) (J6 (Pz (Ju 5) (JI JJ))))) (J8 (Jx (Ju 2) (JP (Up (Ju 0) Jv) (JV (sz (Ju 2)))))) JB) (Jy (JD (J6 (Pz (Ju 5) (JI JJ))) (J8 (JS (sz Ub))) JB) (Jy (J7 (Jx (Ju 5) (JP (Up (Ju 0) Jv) (JV (sz (Ju 5))))) (J2 6)) (JE 6 (J8 (JS (uz Ub (Ju 6) (JU Jv (JP (Up (Ju 0) Jv) (UL (Jx (Jx (Ju 1) (UL (Ju 6) Jv)) Jv) Jv)))))))))))))⟩) (.a fun ds R X h=>?_)
 ·obtain⟨c,f,rfl,hF,hz,hU,hP,hB⟩:=h;refine⟨rfl,?_⟩;have hl:(f.map prD).length=f.length:=Yn ..;refine⟨by simp,⟨by omega,by omega⟩,XM (fun i γ'=>∃qs:List Int,qs.length<=i/\(∀p∈qs,uniE f p=none)/\γ'=[some (.sh (.int c)),some (.bor (plD f)),some (.own (qs.map fun p=>dD (Dd.unite p).q)),none,none,none,none]) ⟨[],Yx _,(fun p hp=>by cases hp),rfl⟩ ?_ ?_⟩
  ·rintro i γ' hi ⟨qs,h1,h2,rfl⟩;have hi':i<((((f.map prD).length:Nat):Int)-1).toNat:=hi;have k1:=X8 (ps:=f) (p:=0+(i:Int)+1) (by omega) (by omega);have k2:=AC (ps:=f) (p:=0+(i:Int)+1) (by omega) (by omega);rw[show(0+(i:Int)+1-1)=0+(i:Int) by omega] at k1;refine⟨_,k1,_,rfl,_,k2,_,rfl,?_⟩;refine⟨_,k1,_,rfl,_,k2,_,rfl,?_⟩;have lq:(qs.map fun p=>dD (Dd.unite p).q).length=qs.length:=Yn ..;refine ite2 (fun g1=>?_) (fun g1=>iteF ⟨qs,by omega,h2,rfl⟩);refine ite2 (fun g2=>?_) (fun g2=>⟨qs,by omega,h2,rfl⟩);have g1':(atP1 f (0+(i:Int)+1)).1=(atP1 f (0+(i:Int)+1+1)).1:=Yv g1;have g2':(atP1 f (0+(i:Int)+1)).2+(atP1 f (0+(i:Int)+1+1)).2<=1000:=Yv g2;refine⟨by simp,by omega,qs++[0+(i:Int)+1],by rw[Yy,YZ];omega,fun p hp=>?_,by rw[YD];rfl⟩;rcases YJ.mp hp with hp|hp
   ·exact h2 p hp
   ·rw[Y0] at hp;subst hp;unfold uniE;rw[Yq (by omega),Yq (fun z=>z g1'),Yq (by omega)]
  ·rintro γ' ⟨qs,h1,h2,rfl⟩;have lq:(qs.map fun p=>dD (Dd.unite p).q).length=qs.length:=Yn ..;refine⟨⟨by omega,by omega⟩,Bw (fun i=>if decide (1<(atP1 f ((i:Int)+1)).2)=true then some (.int (0+(i:Int)+1)) else none) (by omega) (fun i hi=>?_) ?_⟩
   ·have hi':i<f.length:=by omega
    have k1:=X8 (ps:=f) (p:=(i:Int)+1) (by omega) (by omega);rw[show((i:Int)+1-1)=0+(i:Int) by omega] at k1;refine⟨_,k1,_,rfl,?_⟩;refine ite2 (fun g=>⟨_,rfl,Yr g⟩) (fun g=>Yq g)
   obtain⟨xs,ex,hx⟩:=AJ (P:=fun p=>(1<=p/\p<=f.length)/\1<(atP1 f p).2) (fun i:Nat=>if decide (1<(atP1 f ((i:Int)+1)).2)=true then some (D.int (0+(i:Int)+1)) else none) (List.range (((f.map prD).length:Nat):Int).toNat) (fun i hi d hd=>by
    have hi':=List.mem_range.mp hi;have hi2:i<f.length:=by omega
    split at hd
    ·rename_i g;cases hd
     refine⟨_,rfl,⟨by omega,by omega⟩,?_⟩;rw[show(0+(i:Int)+1)=(i:Int)+1 by omega];exact Yv g
    ·cases hd)
   have lx:(xs.map D.int).length=xs.length:=Yn ..
   have lx2:xs.length<=40:=by
    have:=Q6 (fun i:Nat=>if decide (1<(atP1 f ((i:Int)+1)).2)=true then some (D.int (0+(i:Int)+1)) else none) (List.range (((f.map prD).length:Nat):Int).toNat)
    rw[ex,Vl] at this;omega
   rw[ex];have eq0:(qs.map fun p=>dD (Dd.unite p).q).isEmpty=decide (qs=[]):=by cases qs<;>simp
   have ex0:(xs.map D.int).isEmpty=decide (xs=[]):=by cases xs<;>simp
   refine Kg (fun γ'=>γ'=[some (.sh (.int c)),some (.bor (plD f)),some (.own (qs.map fun p=>dD (Dd.unite p).q)),none,none,some (.own (xs.map D.int)),none]) ?_ ?_
   ·refine⟨by simp,?_⟩;show if (!(qs.map fun p=>dD (Dd.unite p).q).isEmpty)=true then _ else _;rw[eq0];refine ite2 (fun g=>?_) (fun g=>iteF rfl);have hne:qs≠[]:=fun z=>by rw[Ys z] at g;cases g
    have hp:0<qs.length:=WB.mpr hne;have q1:=Qn (c / 2) (show(((qs.map fun p=>dD (Dd.unite p).q).length:Nat):Int)≠0 by omega);have q2:=WQ (c / 2) (show 0<(((qs.map fun p=>dD (Dd.unite p).q).length:Nat):Int) by omega);have ea:=Ko (f:=fun p=>dD (Dd.unite p).q) (xs:=qs) q1 (by omega);have hm:qs[(c / 2 % (((qs.map fun p=>dD (Dd.unite p).q).length:Nat):Int)).toNat]'(by omega)∈qs:=YH _;refine⟨(by show(0:Int)<2;decide),ite2 (fun _=>?_) (fun _=>⟨by simp,?_⟩)⟩
    ·exact⟨⟨by decide,by decide⟩,(by show 0<(((qs.map fun p=>dD (Dd.unite p).q).length:Nat):Int);omega),_,ea,hU _ (h2 _ hm)⟩
    ·refine ite2 (fun _=>?_) (fun _=>rfl);exact⟨⟨by decide,by decide⟩,(by show 0<(((qs.map fun p=>dD (Dd.unite p).q).length:Nat):Int);omega),_,ea,hU _ (h2 _ hm)⟩
   ·rintro γ' rfl;refine⟨by simp,?_⟩;show if (xs.map D.int).isEmpty=true then _ else _;rw[ex0];refine ite2 (fun g=>⟨by simp,hB⟩) (fun g=>?_);have hne:xs≠[]:=fun z=>g (Ys z);have hp:0<xs.length:=WB.mpr hne;have q1:=Qn (c / 2) (show(((xs.map D.int).length:Nat):Int)≠0 by omega);have q2:=WQ (c / 2) (show 0<(((xs.map D.int).length:Nat):Int) by omega);have ea:=Ko (f:=D.int) (xs:=xs) q1 (by omega);obtain⟨⟨p1,p2⟩,p3⟩:=hx _ (YH (show(c / 2 % (((xs.map D.int).length:Nat):Int)).toNat<xs.length by omega));generalize xs[(c / 2 % (((xs.map D.int).length:Nat):Int)).toNat]'(by omega)=p at ea p1 p2 p3;have r1:=Qn (c / 80) (show(atP1 f p).2-1≠0 by omega);have r2:=WQ (c / 80) (show 0<(atP1 f p).2-1 by omega);exact⟨⟨by decide,by decide⟩,(by show 0<(((xs.map D.int).length:Nat):Int);omega),_,ea,⟨by decide,by decide⟩,_,X8 p1 p2,_,rfl,(by show 0<(atP1 f p).2-1;omega),by simp,hP p _ p1 p2 (by omega) (by omega)⟩
def He (G:Glob K mg) (DD:Def K mg "_law_copy" BR ["_law_found"])
  : Ga P w K mg base:=by
 refine DD.oz (k:=0) Zaf (fun _ _ _ _ _ _ E hr=>⟨_,(Jz (JA (Uv (Ue (K:=K) (U7 (Kl (K:=K)) (by rfl) G.isinstance W9 (bz (pv 0) (Kh (v:=.ty "list") rfl G.list boot_list rfl))))) (J0 (J4 (JH (az Zbh))))
   JC) (J0 (J4 (X2 (KS (K:=K)) (by rfl) G.list boot_list (az (pv 0)))))), (Jy (JD (UM (Ut (Kf (tz (Ju 0) Kd)))) (J8 (JI (sz Zd3))) JB) (J8 (KE (sz (Ju 0)))))⟩) (.a fun ds R X h=>?_)
 ·obtain⟨xs,rfl,hR⟩:=h;refine⟨rfl,?_⟩;exact⟨true,.same _,iteF ⟨Pi _,hR⟩⟩
def Zcv (G:Glob K mg) (DD:Def K mg "check_strips" BA ["strips"])
  (Zk:Nf P w K mg base)
  (Z1:Ax P w K mg base)
  : AK P w K mg base:=by
 refine DD.ox (k:=1) Fm (fun _ _ _ _ _ _ E hr=>⟨_,(Jz (JA (JL UY (ln K G.len (pv 0)) (ExcR.Xn G.STRIPS) (JN _)) (J0 (ExcR.Xb G.g_TooManyStrips.c G.m_TooManyStrips ExcR.UU rfl (az (ExcR.pe_f (ExcR.X5 (ExcR.KC (ExcR.Xn G.STRIPS) (ExcR.X5 ExcR.KZ)))))))
   JC) (J0 (U4 ExcR.Zea rfl (Ul (K:=K) (pv 0)) (T4 (K:=K) (n:=2) rfl (XQ (gz 1 Fm.nd) (XQ (gz 2 Fm.nd) PZ))) (Jz (Um (UW Zk (hr.mono (by decide)) ExcR.U1 (az (pv 1)))) (J0 (Um (UW Z1 (hr.mono (by decide)) ExcR.U1 (az (pv 2))))))))), (Jy (JD (J6 (US (JV (sz (Ju 0))) Jv)) (UV (sz (se_f (X6 (Pf Jv (X6 KD)))))) JB) (JE 0 (U5 [1,2] (X3 (Ju 0)) (N2 (Ky (J2 1) (Ky (J2 2) Nq))) (Jy (Xc (Xl (sz (Ju 1)))) (Xc (Xl (sz (Ju 2))))))))⟩) (.a fun ds R X h=>?_)
 ·obtain⟨ps,rfl,hz,hR⟩:=h;refine⟨rfl,?_⟩;have hl:(ps.map prD).length=ps.length:=Yn ..;unfold Pp at hR;refine ite2 (fun g=>?_) (fun g=>?_)
  ·have g':(40:Int)<((ps.map prD).length:Int):=Yv g;rw[Yr (by omega)] at hR;exact⟨by decide,by decide,by decide,by decide,by decide,by simp,hR⟩
  ·have g':¬(40:Int)<((ps.map prD).length:Int):=fun z=>g (Ys z);rw[Yq (by omega)] at hR;refine⟨rfl,X1 (xs:=ps) (emb:=prD) (fun i γ'=>γ'=[some (.bor (plD ps)),none,none]/\K5 (ps.drop i)=K5 ps) ⟨rfl,rfl⟩ ?_ ?_⟩
   ·rintro i hi γ' ⟨rfl,hf⟩;have ed:ps.drop i=ps[i]::ps.drop (i+1):=WZ hi;rw[ed,HM] at hf;generalize ps[i]=p at hf ⊢;refine⟨rfl,p.1,rfl,?_⟩;unfold Pt;by_cases c:1<=p.1/\p.1<=10
    ·rw[Yq (fun z=>z c)] at hf;rw[Yr c];refine⟨p.2,rfl,?_⟩;unfold S9;by_cases c2:1<=p.2/\p.2<=1000
     ·rw[Yq (fun z=>z c2)] at hf;rw[Yr c2];exact⟨rfl,hf⟩
     ·rw[Yr c2] at hf;rw[Yq c2];rw[←hf] at hR;exact hR
    ·rw[Yr c] at hf;rw[Yq c];rw[←hf] at hR;exact hR
   ·rintro γ' ⟨rfl,hf⟩;rw[List.drop_length] at hf;rw[←hf] at hR;exact hR
def LC (G:Glob K mg) (DD:Def K mg "ring_from" Bi ["least","holders","wishes"])
  (Z2:Cn P w K mg base)
  : Gv P w K mg base:=by
 refine DD.oz (k:=1) Pb (fun _ _ _ _ _ _ E hr=>⟨_,(Jz (Pu.pz 3 Pb.nd (JH (az (JH (az (pv 0)))))) (Jz (Pu.pz 4 Pb.nd (U7 (Bm (K:=K) (w:=w) rfl) (by rfl) G.sorted boot_sorted (az (UQ (N':=["holder","least"]) (φ:=[none,some 0]) rfl (Own.CompOk.of (by rfl)) (Ul (K:=K) (pv 1)) (fun _ _ _ _ _=>⟨(gz 0 (show(["holder","least"]:List Str).Nodup from by decide +kernel)),(Xr (JL UY (pv 0) (pv 1) (JN _))),(pv 0)⟩))))) (Jz (Fi YI (Ue (K:=K) (pv 3)) (Jz (K9 (N':=["path","wishes","least"]) (φ:=[none,some 2,some 0]) (i:=5) Pb.nd rfl rfl rfl (Own.CompOk.of (by rfl)) (Ul (K:=K) (pv 3)) (fun _ _ _ _ _=>⟨(gz 0 (show(["path","wishes","least"]:List Str).Nodup from by decide +kernel)),(Xr (JL (Kb (K:=K) (show _<cLine from U6 hr)) (JR (bz (jx K (pv 0) (U9 UD Jw)) (pv 2))) (pv 1) (by with_unfolding_all rfl))),(pv 0)⟩)) (Jz (JA (Ue (K:=K) (pv 5)) (J0 (J4 (jx K (pv 5) Jw)))
   JC) (Jz (Pu.pz 3 Pb.nd (fz Z2 hr (dz (pv 3) (pv 4) (pv 2)))) (Jz (Pu.pz 6 Pb.nd (UQ (N':=["path"]) (φ:=[none]) rfl (Own.CompOk.of (by rfl)) (Ul (K:=K) (pv 3)) (fun _ _ _ _ _=>⟨(gz 0 (show(["path"]:List Str).Nodup from by decide +kernel)),Xp,(jx K (pv 0) (U9 UD Jw))⟩))) (J0 (K9 (N':=["holder","reached"]) (φ:=[none,some 6]) (i:=4) Pb.nd rfl rfl rfl (Own.CompOk.of (by rfl)) (Ul (K:=K) (pv 4)) (fun _ _ _ _ _=>⟨(gz 0 (show(["holder","reached"]:List Str).Nodup from by decide +kernel)),(Xr (JL (B9 (K:=K) (show _<cLine from U6 hr)) (pv 0) (pv 1) (by with_unfolding_all rfl))),(pv 0)⟩)))))))) (J0 (J4 (JH JY)))))), (Jy (JE 0 (J7 (JI (sz (JI (sz (Ju 0))))) (J2 3))) (Jy (J7 (Bo (sz (Uw (UT (Ju 1)) (J2 0) (J6 (US (Ju 0) (Ju 1))) (Ju 0)))) (J2 4)) (Jy (FE [5,6] (Ut (Ju 3)) (Jy (JE 0 (J7 (Uw (UT (Ju 3)) (J2 0) (J6 (Xq (JS (tz (Jx (Ju 0) (U8 Jv)) (Ju 2))) (Ju 1))) (Ju 0)) (J2 5))) (Jy (JD (Ut (Ju 5)) (DM (Jx (Ju 5) Jv)) JB) (Jy (J7 (J9 (uz (Ju 3) (Ju 4) (Ju 2))) (J2 3)) (Jy (J7 (Uw (UT (Ju 3)) (J2 0) XD (Jx (Ju 0) (U8 Jv))) (J2 6)) (J7 (Uw (UT (Ju 4)) (J2 0) (J6 (Xq (Ju 0) (Ju 1))) (Ju 0)) (J2 4))))))) (DM (JI JJ)))))⟩) (.a fun ds R X h=>?_)
 ·obtain⟨l,hs,ws,rfl,hz,hN,hR⟩:=h;refine⟨rfl,?_⟩;refine⟨by simp,by simp,UG (xs:=hs) (emb:=D.int) (fun h=>if decide (l<h)=true then some (.int h) else none) (by omega) (fun h _=>ite2 (fun g=>⟨_,rfl,Yr g⟩) (fun g=>Yq g)) ?_⟩;rw[CW fun h=>decide (l<h)];refine⟨hs.filter fun h=>decide (l<h),rfl,Vf (Wk _ _) (by omega),fun ls hp hsrt=>?_⟩
  have hm:∀h∈ls,Gr hs l h:=fun h z=>by
   rw[hp.mem_iff,YO,Qr] at z;exact z
  have hlen:ls.length<=hs.length:=by
   rw[hp.length_eq];exact Wk _ _
  refine Bl (fun γ'=>∃k ps ls,γ'=[some (.sh (.int l)),some (.bor (.lst (hs.map D.int))),some (.bor (.lst (ws.map prD))),some (.own (ps.map (em l))),some (.own (ls.map D.int)),none,none]/\(∀p∈ps,p.length=k/\Path (Gr hs l) ws l p)/\(∀h∈ls,Gr hs l h)/\ps.length<=60/\ls.length<=hs.length/\(k+ls.length<=hs.length\/(ps=[]/\k<=hs.length+1)))
   (fun γ=>2*Aa 4 γ+min 1 (Aa 3 γ)) ⟨0,[[]],ls,rfl,(fun p z=>by rw[Y0.mp z];exact⟨rfl,trivial⟩),hm,by simp,hlen,.inl (by omega)⟩ ?_
  rintro γ' ⟨k,ps,ls,rfl,L,hm,hpl,hll,hk⟩;have emp:(!(ps.map (em l)).isEmpty)=decide (ps≠[]):=by cases ps<;>simp
  show if (!(ps.map (em l)).isEmpty)=true then _ else _;rw[emp];refine ite2 (fun g=>?_) (fun g=>?_)
  ·have hne:ps≠[]:=Yv g;have hk':k+ls.length<=hs.length:=hk.elim id fun z=>absurd z.1 hne;have hpk:∀p∈ps,p.length<=60:=fun p hp=>by rw[(L p hp).1];omega
   have hn:∀p∈ps,(Ud l p,l)∉ws:=fun p hp z=>hN p ⟨(L p hp).2,z⟩;refine UG (xs:=ps) (emb:=em l) (fun _=>none) (by omega) (fun p hp=>⟨_,Bk l p,by simp,_,.lp (Ud l p,l) ws,ite2 (fun g=>absurd (Yv g) (hn p hp)) (fun g=>rfl)⟩) ?_;have e0:ps.filterMap (fun _=>(none:Option D))=[]:=by simp
   rw[e0];refine⟨l,ps,ls,ws,rfl,fun p hp=>Y7 (hpk p hp) (by decide),by omega,fun lg G hlg=>?_⟩;refine UG (xs:=lg) (emb:=em l) (fun p=>some (.int (Ud l p))) (by omega) (fun p _=>⟨_,Bk l p,_,rfl,rfl⟩) ?_;have e1:lg.filterMap (fun p=>some (D.int (Ud l p)))=(lg.map (Ud l)).map D.int:=by rw[Qp,Wh];rfl
   rw[e1];refine UG (xs:=ls) (emb:=D.int) (fun h=>if decide (¬h∈lg.map (Ud l))=true then some (.int h) else none) (by omega) (fun h _=>⟨_,.li h _,?_⟩) ?_
   ·by_cases c:h∈lg.map (Ud l)
    ·simp only[Ys c];exact iteF (Yq (by simp[c]))
    ·simp only[YB c];exact iteT ⟨_,rfl,Yr (by simp[c])⟩
   rw[CW fun h=>decide (¬h∈lg.map (Ud l))];have hfl:=Wk (fun h=>decide (¬h∈lg.map (Ud l))) ls
   have hless:lg≠[]->(ls.filter fun h=>decide (¬h∈lg.map (Ud l))).length<ls.length:=fun hne=>by
    obtain⟨q,hq⟩:=List.exists_mem_of_ne_nil lg hne
    have hm:Ud l q∈ls:=by
     obtain⟨p,_,x,hx,rfl,_⟩:=G q hq;rw[KN];exact hx
    refine Nat.lt_of_le_of_ne hfl fun z=>?_
    have:=List.filter_eq_self.mp (List.Sublist.eq_of_length (Va (l:=ls)) z) (Ud l q) hm
    rw[Qr] at this;exact this (List.mem_map_of_mem hq)
   refine⟨⟨k+1,lg,_,rfl,fun q hq=>?_,fun h hh=>hm h (YO.mp hh).1,by omega,by omega,?_⟩,?_⟩
   ·obtain⟨p,hp,x,hx,rfl,hw⟩:=G q hq;exact⟨by rw[Yy,(L p hp).1];rfl,path_app.mpr ⟨(L p hp).2,hm x hx,hw,trivial⟩⟩
   ·by_cases c:lg=[]
    ·exact .inr ⟨c,by omega⟩
    ·have:=hless c
     exact .inl (by omega)
   ·show 2*((ls.filter fun h=>decide (¬h∈lg.map (Ud l))).map D.int).length+min 1 (lg.map (em l)).length<2*(ls.map D.int).length+min 1 (ps.map (em l)).length;rw[Yn,Yn,Yn,Yn]
    have:0<ps.length:=WB.mpr hne
    by_cases c:lg=[]
    ·rw[c];rw[c] at hfl;simp only[List.length_nil];omega
    ·have:=hless c
     omega
  ·have hpe:ps=[]:=YV fun z=>g (Ys z);subst hpe;exact⟨by simp,hR⟩
def Zbl (G:Glob K mg) (DD:Def K mg "sold" BG ["strips","place","holder"])
  (Zp:Fx P w K mg base)
  (Zk:Nf P w K mg base)
  : EF P w K mg base:=by
 refine DD.ox (k:=1) ED (fun _ _ _ _ _ _ E hr=>⟨_,(Jz (Um (UW Zp (hr.mono (by decide)) ExcR.U1 (bz (pv 0) (pv 1)))) (Jz (Um (UW Zk (hr.mono (by decide)) ExcR.U1 (az (pv 2)))) (Jz (Pu.pz 3 ED.nd (jx K (pv 0) (J1 UK (pv 1) Jw))) (Jz (JA (cq K hr (jx K (pv 3) Jw) (pv 2)) (J0 (ExcR.Xb G.g_OwnStrip.c G.m_OwnStrip ExcR.UU rfl (az JZ)))
   JC) (J0 (J4 (J1 UZ (J1 UZ (Xi (Xg (K:=K)) (pv 0) Xo (UX (J1 UK (pv 1) Jw))) (JH (az (JR (bz (pv 2) (jx K (pv 3) Jw)))))) (Xi (Xg (K:=K)) (pv 0) (UX (pv 1)) Xo)))))))), (Jy (Xc (Xl (tz (Ju 0) (Ju 1)))) (Jy (Xc (Xl (sz (Ju 2)))) (Jy (J7 (Jx (Ju 0) (UL (Ju 1) Jv)) (J2 3)) (Jy (JD (J6 (Ua (Jx (Ju 3) Jv) (Ju 2))) (UV (sz Ub)) JB) (JE 2 (J8 (Xd (Xd (Xu (Ju 0) Xm (Xa (UL (Ju 1) Jv))) (JI (sz (JS (tz (Ju 2) (Jx (Ju 3) Jv)))))) (Xu (Ju 0) (Xa (Ju 1)) Xm))))))))⟩) (.a fun ds R X h=>?_)
 ·obtain⟨ps,p,h,rfl,hz,hR⟩:=h;refine⟨rfl,?_⟩;unfold UI at hR;refine⟨ps,p,rfl,?_⟩;unfold Nd;by_cases c:p<1\/(ps.length:Int)<p
  ·rw[Yr c] at hR ⊢;exact hR
  ·rw[Yq c] at hR ⊢;refine⟨h,rfl,?_⟩;unfold Pt;by_cases c2:1<=h/\h<=10
   ·rw[Yq (fun z=>z c2)] at hR;rw[Yr c2];refine⟨_,X8 (by omega) (by omega),?_⟩;have l1:(cutD (ps.map prD) none (some (p-1))).length<=1000:=by have:=(Kq (ps.map prD) none (some (p-1))).length_le;rw[Yn] at this;omega
    have l2:(cutD (ps.map prD) (some p) none).length<=1000:=by have:=(Kq (ps.map prD) (some p) none).length_le;rw[Yn] at this;omega
    refine⟨_,rfl,ite2 (fun g=>?_) (fun g=>?_)⟩
    ·have g':(atP1 ps p).1=h:=Yv g;rw[Yr g'] at hR;exact⟨by simp,hR⟩
    ·have g':¬(atP1 ps p).1=h:=fun z=>g (Ys z);rw[Yq g'] at hR;refine⟨XU _,_,rfl,by simp,by simp,rfl,rfl,Y7 (YU l1 (Yx 1)) (by decide),XU _,rfl,rfl,Y7 (YU (by rw[Yy];exact YU l1 (Yx 1)) l2) (by decide),?_⟩;have e:=Cd (ps:=ps) (p:=p) (x:=(h,(atP1 ps p).2)) (by omega) (by omega);show R (.own (cutD (ps.map prD) none (some (p-1))++[prD (h,(atP1 ps p).2)]++cutD (ps.map prD) (some p) none));rw[e];exact hR
   ·rw[Yr c2] at hR;rw[Yq c2];exact hR
def Zbu (G:Glob K mg) (DD:Def K mg "parted" SY ["strips","place","width"])
  (Zp:Fx P w K mg base)
  : CP P w K mg base:=by
 refine DD.ox (k:=1) EM (fun _ _ _ _ _ _ E hr=>⟨_,(Jz (Um (UW Zp (hr.mono (by decide)) ExcR.U1 (bz (pv 0) (pv 1)))) (Jz (Pu.pz 3 EM.nd (jx K (pv 0) (J1 UK (pv 1) Jw))) (Jz (JA (PW.pt (Uy (JL Xh (pv 2) Jw (JN _)) (UA (JL Pm (pv 2) (jx K (pv 3) Jw) (JN _))))) (J0 (ExcR.Xb G.g_BadPart.c G.m_BadPart ExcR.UU rfl (az JZ)))
   JC) (Jz (JA (JL Pm (ln K G.len (pv 0)) (ExcR.Xn G.STRIPS) (JN _)) (J0 (ExcR.Xb G.g_TooManyStrips.c G.m_TooManyStrips ExcR.UU rfl (az (ExcR.pe_f (ExcR.X5 (ExcR.KC (ExcR.Xn G.STRIPS) (ExcR.X5 ExcR.KZ)))))))
   JC) (J0 (J4 (J1 UZ (J1 UZ (Xi (Xg (K:=K)) (pv 0) Xo (UX (J1 UK (pv 1) Jw))) (JH (bz (JR (bz (jx K (pv 3) Jw) (pv 2))) (JR (bz (jx K (pv 3) Jw) (J1 UK (jx K (pv 3) Jw) (pv 2))))))) (Xi (Xg (K:=K)) (pv 0) (UX (pv 1)) Xo)))))))), (Jy (Xc (Xl (tz (Ju 0) (Ju 1)))) (Jy (J7 (Jx (Ju 0) (UL (Ju 1) Jv)) (J2 3)) (Jy (JD (U0 (J6 (Xf (Ju 2) Jv)) (J6 (PN (Ju 2) (Jx (Ju 3) Jv)))) (UV (sz Ub)) JB) (Jy (JD (J6 (PN (JV (sz (Ju 0))) Jv)) (UV (sz (se_f (X6 (Pf Jv (X6 KD)))))) JB) (JE 2 (J8 (Xd (Xd (Xu (Ju 0) Xm (Xa (UL (Ju 1) Jv))) (JI (tz (JS (tz (Jx (Ju 3) Jv) (Ju 2))) (JS (tz (Jx (Ju 3) Jv) (UL (Jx (Ju 3) Jv) (Ju 2))))))) (Xu (Ju 0) (Xa (Ju 1)) Xm))))))))⟩) (.a fun ds R X h=>?_)
 ·obtain⟨ps,p,w,rfl,hz,hR⟩:=h;refine⟨rfl,?_⟩;have hl:(ps.map prD).length=ps.length:=Yn ..;refine⟨ps,p,rfl,?_⟩;unfold UE at hR;unfold Nd;by_cases c:p<1\/(ps.length:Int)<p
  ·rw[Yr c] at hR ⊢;exact hR
  ·rw[Yq c] at hR ⊢;refine⟨_,X8 (by omega) (by omega),?_⟩
   have go:¬(w<1\/(atP1 ps p).2<=w)->_:=fun c2=>by
    rw[Yq c2] at hR;exact hR
   by_cases c2:w<1\/(atP1 ps p).2<=w
   ·rw[Yr c2] at hR;refine ite2 (fun g=>iteT ⟨by simp,hR⟩) (fun g=>⟨_,rfl,ite2 (fun g2=>⟨by simp,hR⟩) (fun g2=>?_)⟩);have g':¬w<1:=fun z=>g (Ys z);have g2':¬(atP1 ps p).2<=w:=fun z=>g2 (Ys z);omega
   ·rw[Yq c2] at hR;refine ite2 (fun g=>absurd (Yv g) (by omega)) (fun g=>⟨_,rfl,ite2 (fun g2=>absurd (Yv g2) (by omega)) (fun g2=>?_)⟩);refine ite2 (fun g3=>?_) (fun g3=>?_)
    ·have g3':(40:Int)<=((ps.map prD).length:Int):=Yv g3;rw[Yr (by omega)] at hR;exact⟨by decide,by decide,by decide,by decide,by decide,by simp,hR⟩
    ·have g3':¬(40:Int)<=((ps.map prD).length:Int):=fun z=>g3 (Ys z);rw[Yq (by omega)] at hR;have l1:(cutD (ps.map prD) none (some (p-1))).length<=1000:=by have:=(Kq (ps.map prD) none (some (p-1))).length_le;rw[Yn] at this;omega
     have l2:(cutD (ps.map prD) (some p) none).length<=1000:=by have:=(Kq (ps.map prD) (some p) none).length_le;rw[Yn] at this;omega
     refine⟨XU _,_,rfl,by simp,_,rfl,_,rfl,by simp,by simp,rfl,rfl,Y7 (YU l1 (Yx 2)) (by decide),XU _,rfl,rfl,Y7 (YU (by rw[Yy];exact YU l1 (Yx 2)) l2) (by decide),?_⟩;rw[←GP (by omega)] at hR;exact hR
def Zdc (G:Glob K mg) (DD:Def K mg "united" NZ ["strips","place"])
  (Z3:CM P w K mg base)
  : Dz P w K mg base:=by
 refine DD.ox (k:=1) Sg (fun _ _ _ _ _ _ E hr=>⟨_,(Jz (Um (UW Z3 (hr.mono (by decide)) ExcR.U1 (bz (pv 0) (pv 1)))) (Jz (Pu.pz 2 Sg.nd (jx K (pv 0) (J1 UK (pv 1) Jw))) (Jz (Pu.pz 3 Sg.nd (jx K (pv 0) (pv 1))) (Jz (JA (cn K hr (jx K (pv 2) Jw) (jx K (pv 3) Jw)) (J0 (ExcR.Xb G.g_UnlikeHolders.c G.m_UnlikeHolders ExcR.UU rfl (az JZ)))
   JC) (Jz (JA (JL UY (J1 JT (jx K (pv 2) Jw) (jx K (pv 3) Jw)) (ExcR.Xn G.WIDEST) (JN _)) (J0 (ExcR.Xb G.g_TooWide.c G.m_TooWide ExcR.UU rfl (az (ExcR.pe_f (ExcR.X5 (ExcR.KC (ExcR.Xn G.WIDEST) (ExcR.X5 ExcR.KZ)))))))
   JC) (J0 (J4 (J1 UZ (J1 UZ (Xi (Xg (K:=K)) (pv 0) Xo (UX (J1 UK (pv 1) Jw))) (JH (az (JR (bz (jx K (pv 2) Jw) (J1 JT (jx K (pv 2) Jw) (jx K (pv 3) Jw))))))) (Xi (Xg (K:=K)) (pv 0) (UX (J1 JT (pv 1) Jw)) Xo))))))))), (Jy (Xc (Xl (tz (Ju 0) (Ju 1)))) (Jy (J7 (Jx (Ju 0) (UL (Ju 1) Jv)) (J2 2)) (Jy (J7 (Jx (Ju 0) (Ju 1)) (J2 3)) (Jy (JD (J6 (Xv (Jx (Ju 2) Jv) (Jx (Ju 3) Jv))) (UV (sz Ub)) JB) (Jy (JD (J6 (US (JU (Jx (Ju 2) Jv) (Jx (Ju 3) Jv)) Jv)) (UV (sz (se_f (X6 (Pf Jv (X6 KD)))))) JB) (J8 (Xd (Xd (Xu (Ju 0) Xm (Xa (UL (Ju 1) Jv))) (JI (sz (JS (tz (Jx (Ju 2) Jv) (JU (Jx (Ju 2) Jv) (Jx (Ju 3) Jv))))))) (Xu (Ju 0) (Xa (JU (Ju 1) Jv)) Xm))))))))⟩) (.a fun ds R X h=>?_)
 ·obtain⟨ps,p,rfl,hz,hR⟩:=h;refine⟨rfl,?_⟩;have hl:(ps.map prD).length=ps.length:=Yn ..;refine⟨ps,p,rfl,?_⟩;unfold uniE at hR;by_cases c:p<1\/(ps.length:Int)<=p
  ·rw[Yr c] at hR ⊢;exact hR
  ·rw[Yq c] at hR ⊢
   have e2:atI (ps.map prD) p=some (prD (atP1 ps (p+1))):=by
    have:=X8 (ps:=ps) (p:=p+1) (by omega) (by omega)
    rwa[show p+1-1=p by omega] at this
   refine⟨_,X8 (by omega) (by omega),_,e2,_,rfl,_,rfl,ite2 (fun g=>?_) (fun g=>?_)⟩
   ·have g':¬(atP1 ps p).1=(atP1 ps (p+1)).1:=fun z=>by rw[Ys z] at g;cases g
    rw[Yr g'] at hR;exact⟨by simp,hR⟩
   ·have g':(atP1 ps p).1=(atP1 ps (p+1)).1:=YV fun z=>g (by rw[YB z];rfl);rw[Yq (fun z=>z g')] at hR;refine⟨_,rfl,_,rfl,ite2 (fun g2=>?_) (fun g2=>?_)⟩
    ·rw[Yr (Yv g2)] at hR;exact⟨by decide,by decide,by decide,by decide,by decide,by simp,hR⟩
    ·rw[Yq (fun z=>g2 (Ys z))] at hR;have l1:(cutD (ps.map prD) none (some (p-1))).length<=1000:=by have:=(Kq (ps.map prD) none (some (p-1))).length_le;rw[Yn] at this;omega
     have l2:(cutD (ps.map prD) (some (p+1)) none).length<=1000:=by have:=(Kq (ps.map prD) (some (p+1)) none).length_le;rw[Yn] at this;omega
     refine⟨XU _,_,rfl,_,rfl,_,rfl,by simp,by simp,rfl,rfl,Y7 (YU l1 (Yx 1)) (by decide),XU _,rfl,rfl,Y7 (YU (by rw[Yy];exact YU l1 (Yx 1)) l2) (by decide),?_⟩;rw[←Gp (by omega)] at hR;exact hR
def Ia (G:Glob K mg) (DD:Def K mg "with_wish" Fz ["wishes","ahead","behind"])
  (Zk:Nf P w K mg base)
  : DC P w K mg base:=by
 refine DD.ox (k:=1) Zb3 (fun _ _ _ _ _ _ E hr=>⟨_,(Jz (Um (UW Zk (hr.mono (by decide)) ExcR.U1 (az (pv 1)))) (Jz (Um (UW Zk (hr.mono (by decide)) ExcR.U1 (az (pv 2)))) (Jz (JA (cq K hr (pv 1) (pv 2)) (J0 (ExcR.Xb G.g_LikeHolders.c G.m_LikeHolders ExcR.UU rfl (az JZ)))
   JC) (Jz (JA (JL (Kb (K:=K) (show _<cLine from U6 hr)) (JR (bz (pv 1) (pv 2))) (pv 0) (by with_unfolding_all rfl)) (J0 (ExcR.Xb G.g_WishStands.c G.m_WishStands ExcR.UU rfl (az JZ)))
   JC) (Jz (JA (JL Pm (ln K G.len (pv 0)) (ExcR.Xn G.MOST_WISHES) (JN _)) (J0 (ExcR.Xb G.g_TooManyWishes.c G.m_TooManyWishes ExcR.UU rfl (az (ExcR.pe_f (ExcR.X5 (ExcR.KC (ExcR.Xn G.MOST_WISHES) (ExcR.X5 ExcR.KZ)))))))
   JC) (J0 (J4 (J1 UZ (pv 0) (JH (az (JR (bz (pv 1) (pv 2))))))))))))), (Jy (Xc (Xl (sz (Ju 1)))) (Jy (Xc (Xl (sz (Ju 2)))) (Jy (JD (J6 (Ua (Ju 1) (Ju 2))) (UV (sz Ub)) JB) (Jy (JD (J6 (Xq (JS (tz (Ju 1) (Ju 2))) (Ju 0))) (UV (sz Ub)) JB) (Jy (JD (J6 (PN (JV (sz (Ju 0))) Jv)) (UV (sz (se_f (X6 (Pf Jv (X6 KD)))))) JB) (JE 2 (JE 1 (J8 (Xd (Ju 0) (JI (sz (JS (tz (Ju 1) (Ju 2))))))))))))))⟩) (.a fun ds R X h=>?_)
 ·obtain⟨ws,a,b,rfl,hz,hR⟩:=h;refine⟨rfl,?_⟩;have hl:(ws.map prD).length=ws.length:=Yn ..;unfold U2 at hR;refine⟨a,rfl,?_⟩;unfold Pt;by_cases c1:1<=a/\a<=10
  ·rw[Yq (fun z=>z c1)] at hR;rw[Yr c1];refine⟨b,rfl,?_⟩;unfold Pt;by_cases c2:1<=b/\b<=10
   ·rw[Yq (fun z=>z c2)] at hR;rw[Yr c2];refine ite2 (fun g=>?_) (fun g=>?_)
    ·rw[Yr (Yv g)] at hR;exact⟨by simp,hR⟩
    ·rw[Yq (fun z=>g (Ys z))] at hR;refine⟨by simp,_,.lp (a,b) ws,ite2 (fun g2=>?_) (fun g2=>?_)⟩
     ·rw[Yr (Yv g2)] at hR;exact⟨by simp,hR⟩
     ·rw[Yq (fun z=>g2 (Ys z))] at hR;refine ite2 (fun g3=>?_) (fun g3=>?_)
      ·have g3':(20:Int)<=((ws.map prD).length:Int):=Yv g3;rw[Yr (by omega)] at hR;exact⟨by decide,by decide,by decide,by decide,by decide,by simp,hR⟩
      ·have g3':¬(20:Int)<=((ws.map prD).length:Int):=fun z=>g3 (Ys z);rw[Yq (by omega)] at hR;refine⟨by simp,by simp,XU _,rfl,Y7 (YU (Y7 (WG hl) hz) (Yx 1)) (by decide),?_⟩;rw[YD] at hR;exact hR
   ·rw[Yr c2] at hR;rw[Yq c2];exact hR
  ·rw[Yr c1] at hR;rw[Yq c1];exact hR
def IF (G:Glob K mg) (DD:Def K mg "pair_costs" BH ["strips"])
  (Zi:NM P w K mg base)
  (Z4:DP P w K mg base)
  : Bz P w K mg base:=by
 refine DD.oz (k:=1) T6 (fun _ _ _ _ _ _ E hr=>⟨_,(Jz (Pu.pz 1 T6.nd (fz Zi hr (az (pv 0)))) (Jz (Pu.pz 2 T6.nd Ru) (Jz (U4 YI rfl (Ul (K:=K) (pv 1)) (gz 3 T6.nd) (J0 (U4 YI rfl (Ul (K:=K) (pv 1)) (gz 4 T6.nd) (J0 (Fs (U6 hr) (pv 2) (JR (bz (pv 3) (pv 4))) (fz Z4 hr (dz (pv 0) (pv 3) (pv 4))) rfl))))) (J0 (J4 (pv 2)))))), (Jy (J7 (J9 (sz (Ju 0))) (J2 1)) (Jy (J7 O4 (J2 2)) (Jy (JE 1 (U5 [3,4] (X3 (Ju 1)) (J2 3) (JE 1 (U5 [4] (X3 (Ju 1)) (J2 4) (JE 4 (JE 3 (Sr 2 (JS (tz (Ju 3) (Ju 4))) (J9 (uz (Ju 0) (Ju 3) (Ju 4)))))))))) (XH 2))))⟩) (.a fun ds R X h=>?_)
 ·obtain⟨ps,rfl,hF,hz,hR⟩:=h;refine⟨rfl,?_⟩;refine⟨ps,rfl,hF,hz,?_⟩;have hh:=KM ps;generalize JF ps=hs at hh hR ⊢
  refine⟨rfl,X1 (xs:=hs) (emb:=D.int) (fun i γ'=>∃kvs:List (List Key×V),γ'=[some (.bor (.lst (ps.map prD))),some (.sh (.lst (hs.map D.int))),some (.own (.dT kvs)),none,none]/\kvs.length<=i*10/\
   ∀x∈hs.take i,∀y∈hs,valV kvs [.inl x,.inl y]=some (.int (pcM ps x y ps.length))) ⟨[],rfl,by simp,by simp⟩ ?_ ?_⟩
  ·rintro i hi γ' ⟨kvs,rfl,hl,hv⟩
   refine⟨rfl,X1 (xs:=hs) (emb:=D.int) (fun j γ'=>∃kvs:List (List Key×V),γ'=[some (.bor (.lst (ps.map prD))),some (.sh (.lst (hs.map D.int))),some (.own (.dT kvs)),some (.sh (.int hs[i])),none]/\kvs.length<=i*10+j/\
    (∀x∈hs.take i,∀y∈hs,valV kvs [.inl x,.inl y]=some (.int (pcM ps x y ps.length)))/\∀y∈hs.take j,valV kvs [.inl hs[i],.inl y]=some (.int (pcM ps hs[i] y ps.length))) ⟨kvs,rfl,by omega,hv,by simp⟩ ?_ ?_⟩
   ·rintro j hj γ' ⟨kvs,rfl,hl,hv,hw⟩;refine⟨ps,_,_,rfl,hF,by simp,_,_,rfl,rfl,by omega,_,rfl,Y7 (NP _ _ _) (by omega),fun x hx y hy=>?_,fun y hy=>?_⟩
    ·rw[N1];by_cases e:([.inl x,.inl y]:List Key)=[.inl hs[i],.inl hs[j]]
     ·rw[Yr e];simp only[Qm,Sum.inl.injEq,and_true] at e;rw[e.1,e.2]
     ·rw[Yq e];exact hv x hx y hy
    ·rw[N1];by_cases e:([.inl hs[i],.inl y]:List Key)=[.inl hs[i],.inl hs[j]]
     ·rw[Yr e];simp only[Qm,Sum.inl.injEq,and_true] at e;rw[e.2]
     ·rw[Yq e];rw[Wf hj,YJ,Y0] at hy;rcases hy with hy|hy
      ·exact hw y hy
      ·subst hy;exact absurd rfl e
   ·rintro γ' ⟨kvs,rfl,hl,hv,hw⟩;rw[Qf] at hw;refine⟨kvs,rfl,by omega,fun x hx y hy=>?_⟩;rw[Wf hi,YJ,Y0] at hx;rcases hx with hx|hx
    ·exact hv x hx y hy
    ·subst hx;exact hw y hy
  ·rintro γ' ⟨kvs,rfl,hl,hv⟩;rw[Qf] at hv;exact hR kvs hv
def Zct (G:Glob K mg) (DD:Def K mg "cost_with_last" F9 ["members","last","least","pairs"])
  (Zl:Nx P w K mg base)
  : Df P w K mg base:=by
 refine DD.oz (k:=1) E2 (fun _ _ _ _ _ _ E hr=>⟨_,(Jz (Pu.pz 4 E2.nd (fz Zl hr (bz (pv 0) (pv 1)))) (J0 (J4 (J1 JT (Tz (U6 hr) (pv 2) (pv 4) (fun _ _=>rfl)) (U7 (EB (K:=K) rfl) (by rfl) G.sum boot_sum (az (UQ (N':=["other","pairs","last"]) (φ:=[none,some 3,some 1]) rfl (Own.CompOk.of (by rfl)) (PY (K:=K) (pv 4)) (fun _ _ _ _ _=>⟨(gz 0 (show(["other","pairs","last"]:List Str).Nodup from by decide +kernel)),Xp,(Tz (U6 hr) (pv 1) (JR (bz (pv 0) (pv 2))) (fun _ _=>rfl))⟩)))))))), (Jy (J7 (J9 (tz (Ju 0) (Ju 1))) (J2 4)) (JE 1 (J8 (JU (Tn (Ju 2) (Ju 4)) (Ae (sz (Uw (SndI.c (TL (Ju 4))) (J2 0) XD (Tn (Ju 1) (JS (tz (Ju 0) (Ju 2)))))))))))⟩) (.a fun ds R X h=>?_)
 ·obtain⟨ms,l,le,pa,c,v,rfl,hz,hv,hc,hR⟩:=h;refine⟨rfl,?_⟩;rw[PU];have hz':(JO ms l).length<=1000:=Y7 less_sub.length_le hz;refine⟨ms,l,rfl,hz,_,_,NC _,hv,rfl,_,rfl,UG (s:=.sh .non) (xs:=JO ms l) (emb:=D.int) (fun m=>some (.int (c m))) (by omega) (fun m hm=>?_) ?_⟩
  ·exact⟨by simp,_,_,rfl,hc m hm,rfl,_,rfl,rfl⟩
  ·rw[mapD];exact⟨(JO ms l).map c,by rw[Wh];rfl,hR⟩
def Zac (G:Glob K mg) (DD:Def K mg "cost_with_first" SX ["members","first","least","pairs"])
  (Zl:Nx P w K mg base)
  : EN P w K mg base:=by
 refine DD.oz (k:=1) CS (fun _ _ _ _ _ _ E hr=>⟨_,(Jz (Pu.pz 4 CS.nd (fz Zl hr (bz (pv 0) (pv 1)))) (J0 (J4 (J1 JT (Tz (U6 hr) (pv 2) (pv 4) (fun _ _=>rfl)) (U7 (EB (K:=K) rfl) (by rfl) G.sum boot_sum (az (UQ (N':=["other","pairs","first"]) (φ:=[none,some 3,some 1]) rfl (Own.CompOk.of (by rfl)) (PY (K:=K) (pv 4)) (fun _ _ _ _ _=>⟨(gz 0 (show(["other","pairs","first"]:List Str).Nodup from by decide +kernel)),Xp,(Tz (U6 hr) (pv 1) (JR (bz (pv 2) (pv 0))) (fun _ _=>rfl))⟩)))))))), (Jy (J7 (J9 (tz (Ju 0) (Ju 1))) (J2 4)) (JE 1 (J8 (JU (Tn (Ju 2) (Ju 4)) (Ae (sz (Uw (SndI.c (TL (Ju 4))) (J2 0) XD (Tn (Ju 1) (JS (tz (Ju 2) (Ju 0)))))))))))⟩) (.a fun ds R X h=>?_)
 ·obtain⟨ms,l,le,pa,c,v,rfl,hz,hv,hc,hR⟩:=h;refine⟨rfl,?_⟩;rw[PU];have hz':(JO ms l).length<=1000:=Y7 less_sub.length_le hz;refine⟨ms,l,rfl,hz,_,_,NC _,hv,rfl,_,rfl,UG (s:=.sh .non) (xs:=JO ms l) (emb:=D.int) (fun m=>some (.int (c m))) (by omega) (fun m hm=>?_) ?_⟩
  ·exact⟨by simp,_,_,rfl,hc m hm,rfl,_,rfl,rfl⟩
  ·rw[mapD];exact⟨(JO ms l).map c,by rw[Wh];rfl,hR⟩
def Zdx (G:Glob K mg) (DD:Pu.DefM K (Meth K (ExcR.J3 mg "Village") "drop") "drop" "Village.drop" Fy ["self","ahead","behind"])
  (Zf:P6 P w K mg base)
  (Z5:Aj P w K mg base)
  (Zg:Pn P w K mg base)
  (Zc:XY P w K mg base)
  (Zd:XO P w K mg base)
  : Ej P w K mg base:=by
 refine DD.ox (k:=1) D4 (fun _ _ _ _ _ _ E hr=>⟨_,(Jz (Um (Uh Zf G.cl_Village (hr.mono (by decide)) ExcR.U1 (pv 0))) (Jz (Pu.pz 3 D4.nd (UW Z5 (hr.mono (by decide)) ExcR.U1 (dz (Uh Zc G.cl_Village (hr.mono (by decide)) Ui (pv 0)) (pv 1) (pv 2)))) (J0 (J4 (XS Zg G.cl_Village (hr.mono (by decide)) Ui (pv 0) (dz (JR (dz JZ (pv 1) (pv 2))) (Uh Zd G.cl_Village (hr.mono (by decide)) Ui (pv 0)) (pv 3))))))), (Jy (Xc (TC T7 (Ju 0) JJ)) (Jy (J7 (Xl (uz (U3 Kj (Ju 0) JJ) (Ju 1) (Ju 2))) (J2 3)) (JE 2 (JE 1 (JE 3 (XI (P8 0 Tx (uz (JS (uz Ub (Ju 1) (Ju 2))) (U3 Kn (Ju 0) JJ) (Ju 3)))))))))⟩) (.c fun o ss R X h=>?_)
 ·obtain⟨x,b1,b2,b3,bk,fs,ws,f,w,p,h,rfl,rfl,hb,hf,hw,hz,hR⟩:=h;refine⟨rfl,?_⟩;unfold N6 at hR;refine⟨rfl,rfl,bk,fs++[f],ws++[w],rfl,?_⟩;unfold KY;by_cases c:100<=bk.length
  ·rw[Yr c] at hR ⊢;exact⟨_,rfl,⟨rfl,by simp⟩,hR⟩
  ·rw[Yq c] at hR ⊢;refine⟨rfl,rfl,bk,fs++[f],ws,w,rfl,w,p,h,rfl,hz,?_⟩;cases e:Ux w p h with
   | some c=>
    rw[e] at hR;exact⟨_,rfl,⟨rfl,by simp⟩,hR⟩
   | none=>
    rw[e] at hR;refine⟨rfl,rfl,by simp,rfl,rfl,bk,fs,ws++[w],f,rfl,?_⟩;exact⟨x,b1,b2,b3,bk,fs++[f],ws++[w],("drop",[p,h]),f,XN w p h,rfl,rfl,hb,by rw[Yy];simp;omega,by rw[Yy];simp;omega,_,rfl,⟨rfl,by simp⟩,hR⟩
def Ib (G:Glob K mg) (DD:Def K mg "_law_draw" SN ["_law_script","_law_k"])
  (Ze:Pa P w K mg base)
  (Zb:KO P w K mg base)
  : Dh P w K mg base:=by
 refine DD.oz (k:=1) Lp (fun _ _ _ _ _ _ E hr=>⟨_,(Jz (JA (cq K hr (J1 JQ (fz Zb hr (bz (pv 0) Jw)) Jw) Jw) (J0 (J4 (fz Zb hr (bz (pv 0) (J1 JT Jw (pv 1))))))
   JC) (J0 (J4 (fz Ze hr (bz (fz Zb hr (bz (pv 0) Jw)) (pv 1)))))), (Jy (JD (J6 (Ua (JP (J9 (tz (Ju 0) Jv)) Jv) Jv)) (J8 (J9 (tz (Ju 0) (JU Jv (Ju 1))))) JB) (J8 (J9 (tz (J9 (tz (Ju 0) Jv)) (Ju 1)))))⟩) (.a fun ds R X h=>?_)
 ·obtain⟨ns,k,rfl,hk,hR⟩:=h;refine⟨rfl,?_⟩;refine⟨ns,0,rfl,by decide,(by show(0:Int)<2;decide),ite2 (fun _=>?_) (fun _=>?_)⟩
  ·exact⟨ns,_,rfl,by omega,hR _⟩
  ·exact⟨ns,1,rfl,by decide,_,_,rfl,hR _⟩
def OX (G:Glob K mg) (DD:Def K mg "_law_spare" Fh ["_law_script"])
  (Ze:Pa P w K mg base)
  (Zb:KO P w K mg base)
  : A0 P w K mg base:=by
 refine DD.oz (k:=1) Zee (fun _ _ _ _ _ _ E hr=>⟨_,(Jz (JA (cq K hr (J1 JQ (fz Zb hr (bz (pv 0) Jw)) Jw) Jw) (J0 (J4 (J1 Uq (fz Zb hr (bz (pv 0) Jw)) Jw)))
   JC) (J0 (J4 (fz Ze hr (bz (fz Zb hr (bz (pv 0) Jw)) Jw))))), (Jy (JD (J6 (Ua (JP (J9 (tz (Ju 0) Jv)) Jv) Jv)) (J8 (Up (J9 (tz (Ju 0) Jv)) Jv)) JB) (J8 (J9 (tz (J9 (tz (Ju 0) Jv)) Jv))))⟩) (.a fun ds R X h=>?_)
 ·obtain⟨ns,rfl,hR⟩:=h;refine⟨rfl,?_⟩;exact⟨ns,0,rfl,by decide,(by show(0:Int)<2;decide),ite2 (fun _=>⟨ns,0,rfl,by decide,⟨by decide,by decide⟩,hR _⟩) (fun _=>⟨ns,1,rfl,by decide,_,_,rfl,hR _⟩)⟩
def Mm (G:Glob K mg) (DD:Def K mg "_law_row" Bf ["_law_found","_law_due"])
  (Zj:PP P w K mg base)
  : AF P w K mg base:=by
 refine DD.oz (k:=1) Du (fun _ _ _ _ _ _ E hr=>⟨_,(Jz (JA (PW.pt (Uy (Uv (Ue (K:=K) (U7 (Kl (K:=K)) (by rfl) G.isinstance W9 (bz (pv 0) (Kh (v:=.ty "list") rfl G.list boot_list rfl))))) (UA (cn K hr (ln K G.len (pv 0)) (ln K G.len (pv 1)))))) (J0 (J4 Ur))
   JC) (Jz (U4 YI rfl (X4 rfl G.range (az (ln K G.len (pv 1)))) (gz 2 Du.nd) (J0 (JA (PW.pt (Uy (Uv (Ue (K:=K) (fz Zj hr (az (jx K (pv 0) (pv 2)))))) (UA (cn K hr (jx K (pv 0) (pv 2)) (jx K (pv 1) (pv 2)))))) (J0 (J4 Ur))
   JC))) (J0 (J4 Ur)))), (Jy (JD (U0 (UM (Ut (Kf (tz (Ju 0) Kd)))) (J6 (Xv (JV (sz (Ju 0))) (JV (sz (Ju 1)))))) (J8 Us) JB) (Jy (U5 [2] (XA (sz (JV (sz (Ju 1))))) (J2 2) (JD (U0 (UM (Ut (J9 (sz (Jx (Ju 0) (Ju 2)))))) (J6 (Xv (Jx (Ju 0) (Ju 2)) (Jx (Ju 1) (Ju 2))))) (J8 Us) JB)) (J8 Us)))⟩) (.a fun ds R X h=>?_)
 ·obtain⟨xs,rfl,hz,hR⟩:=h;refine⟨rfl,?_⟩;have hl:(xs.map D.int).length=xs.length:=Yn ..;refine⟨_,.same _,iteF (Kv rfl ?_)⟩;refine⟨⟨by omega,by omega⟩,XM (fun i γ'=>γ'=[some (.bor (.lst (xs.map D.int))),some (.bor (.lst (xs.map D.int))),none]) rfl ?_ ?_⟩
  ·rintro i γ' hi rfl;have hi':i<(((xs.map D.int).length:Nat):Int).toNat:=hi;have ez:(0:Int)+(i:Int)=(i:Int):=by omega
   have hb:i<xs.length:=by omega
   have ha:atI (xs.map D.int) (0+(i:Int))=some (.int xs[i]):=by rw[ez];exact B7 hb
   exact⟨_,ha,_,rfl,iteF ⟨_,ha,_,ha,Kv rfl rfl⟩⟩
  ·rintro γ' rfl;exact hR
def IC (G:Glob K mg) (DD:Def K mg "_law_tuples" S7 ["_law_found","_law_due"])
  (Zj:PP P w K mg base)
  : AB P w K mg base:=by
 refine DD.oz (k:=1) BW (fun _ _ _ _ _ _ E hr=>⟨_,(Jz (JA (PW.pt (Uy (Uv (Ue (K:=K) (U7 (Kl (K:=K)) (by rfl) G.isinstance W9 (bz (pv 0) (Kh (v:=.ty "list") rfl G.list boot_list rfl))))) (UA (cn K hr (ln K G.len (pv 0)) (ln K G.len (pv 1)))))) (J0 (J4 Ur))
   JC) (Jz (U4 YI rfl (X4 rfl G.range (az (ln K G.len (pv 1)))) (gz 2 BW.nd) (Jz (JA (PW.pt (Uy (Uv (Ue (K:=K) (U7 (Kl (K:=K)) (by rfl) G.isinstance W9 (bz (jx K (pv 0) (pv 2)) (Kh (v:=.ty "tuple") rfl G.tuple boot_tuple rfl))))) (UA (cn K hr (ln K G.len (jx K (pv 0) (pv 2))) (ln K G.len (jx K (pv 1) (pv 2))))))) (J0 (J4 Ur))
   JC) (J0 (U4 YI rfl (X4 rfl G.range (az (ln K G.len (jx K (pv 1) (pv 2))))) (gz 3 BW.nd) (J0 (JA (PW.pt (Uy (Uv (Ue (K:=K) (fz Zj hr (az (jx K (jx K (pv 0) (pv 2)) (pv 3)))))) (UA (cn K hr (jx K (jx K (pv 0) (pv 2)) (pv 3)) (jx K (jx K (pv 1) (pv 2)) (pv 3)))))) (J0 (J4 Ur))
   JC)))))) (J0 (J4 Ur)))), (Jy (JD (U0 (UM (Ut (Kf (tz (Ju 0) Kd)))) (J6 (Xv (JV (sz (Ju 0))) (JV (sz (Ju 1)))))) (J8 Us) JB) (Jy (U5 [2,3] (XA (sz (JV (sz (Ju 1))))) (J2 2) (Jy (JD (U0 (UM (Ut (Kf (tz (Jx (Ju 0) (Ju 2)) Kd)))) (J6 (Xv (JV (sz (Jx (Ju 0) (Ju 2)))) (JV (sz (Jx (Ju 1) (Ju 2))))))) (J8 Us) JB) (U5 [3] (XA (sz (JV (sz (Jx (Ju 1) (Ju 2)))))) (J2 3) (JD (U0 (UM (Ut (J9 (sz (Jx (Jx (Ju 0) (Ju 2)) (Ju 3)))))) (J6 (Xv (Jx (Jx (Ju 0) (Ju 2)) (Ju 3)) (Jx (Jx (Ju 1) (Ju 2)) (Ju 3))))) (J8 Us) JB)))) (J8 Us)))⟩) (.a fun ds R X h=>?_)
 ·obtain⟨ps,rfl,hz,hR⟩:=h;refine⟨rfl,?_⟩;have hl:(ps.map prD).length=ps.length:=Yn ..;refine⟨_,.same _,iteF (Kv rfl ?_)⟩;refine⟨⟨by omega,by omega⟩,XM (fun i γ'=>∃t,γ'=[some (.bor (.lst (ps.map prD))),some (.bor (.lst (ps.map prD))),none,t]) ⟨_,rfl⟩ ?_ ?_⟩
  ·rintro i γ' hi ⟨t,rfl⟩;have hi':i<(((ps.map prD).length:Nat):Int).toNat:=hi;have ez:(0:Int)+(i:Int)=(i:Int):=by omega
   have hb:i<ps.length:=by omega
   have ha:atI (ps.map prD) (0+(i:Int))=some (prD ps[i]):=by rw[ez];exact B7 hb
   generalize ps[i]=q at ha;refine⟨_,ha,_,.same _,iteF ⟨_,ha,_,ha,?_⟩⟩;refine⟨_,ha,⟨(by show -(2 ^ 62)<=(2:Int);decide),(by show(2:Int)<2 ^ 62;decide)⟩,XM (fun j γ'=>∃t,γ'=[some (.bor (.lst (ps.map prD))),some (.bor (.lst (ps.map prD))),some (.sh (.int (0+(i:Int)))),t]) ⟨_,rfl⟩ ?_ ?_⟩
   ·rintro j γ' hj ⟨t,rfl⟩;have hj2:j<2:=hj
    obtain⟨z,ea⟩:∃z:Int,atI [D.int q.1,D.int q.2] (0+(j:Int))=some (.int z):=by
     have:j=0\/j=1:=by omega
     rcases this with rfl|rfl
     ·exact⟨_,rfl⟩
     ·exact⟨_,rfl⟩
    exact⟨_,ha,_,ea,z,rfl,iteF ⟨_,ha,_,ea,_,ha,_,ea,Kv rfl ⟨_,rfl⟩⟩⟩
   ·rintro γ' ⟨t,rfl⟩;exact⟨_,rfl⟩
  ·rintro γ' ⟨t,rfl⟩;exact hR
def Zba (G:Glob K mg) (DD:Def K mg "_law_deed_is" F8 ["_law_found","_law_due"])
  (Zj:PP P w K mg base)
  : Gi P w K mg base:=by
 refine DD.oz (k:=1) EO (fun _ _ _ _ _ _ E hr=>⟨_,(Jz (JA (PW.pt (Uy (Uv (Ue (K:=K) (U7 (Kl (K:=K)) (by rfl) G.isinstance W9 (bz (pv 0) (Kh (v:=.ty "tuple") rfl G.tuple boot_tuple rfl))))) (Uy (cn K hr (ln K G.len (pv 0)) (ln K G.len (pv 1))) (UA (Uv (Ue (K:=K) (U7 (Kl (K:=K)) (by rfl) G.isinstance W9 (bz (jx K (pv 0) Jw) (Kh (v:=.ty "str") rfl G.str boot_str rfl))))))))) (J0 (J4 Ur))
   JC) (Jz (JA (cn K hr (jx K (pv 0) Jw) (jx K (pv 1) Jw)) (J0 (J4 Ur))
   JC) (Jz (U4 YI rfl (DH rfl G.range (bz Jw (ln K G.len (pv 1)))) (gz 2 EO.nd) (J0 (JA (PW.pt (Uy (Uv (Ue (K:=K) (fz Zj hr (az (jx K (pv 0) (pv 2)))))) (UA (cn K hr (jx K (pv 0) (pv 2)) (jx K (pv 1) (pv 2)))))) (J0 (J4 Ur))
   JC))) (J0 (J4 Ur))))), (Jy (JD (U0 (UM (Ut (Kf (tz (Ju 0) Kd)))) (U0 (J6 (Xv (JV (sz (Ju 0))) (JV (sz (Ju 1))))) (UM (Ut (Kf (tz (Jx (Ju 0) Jv) Kd)))))) (J8 Us) JB) (Jy (JD (J6 (Xv (Jx (Ju 0) Jv) (Jx (Ju 1) Jv))) (J8 Us) JB) (Jy (U5 [2] (E8 (tz Jv (JV (sz (Ju 1))))) (J2 2) (JD (U0 (UM (Ut (J9 (sz (Jx (Ju 0) (Ju 2)))))) (J6 (Xv (Jx (Ju 0) (Ju 2)) (Jx (Ju 1) (Ju 2))))) (J8 Us) JB)) (J8 Us))))⟩) (.a fun ds R X h=>?_)
 ·obtain⟨q,rfl,hz,hR⟩:=h;refine⟨rfl,?_⟩;have hl:(D.str q.1::q.2.map D.int).length=q.2.length+1:=by rw[YC,Yn]
  rw[MC];show _;rw[YA,Ni];refine⟨_,.same _,iteF (Kv rfl ⟨_,UR _ _,_,.same _,iteF ⟨_,UR _ _,_,UR _ _,Kv rfl ?_⟩⟩)⟩;refine⟨⟨by omega,by omega⟩,XM (fun i γ'=>γ'=[some (.sh (dD q)),some (.sh (dD q)),none]) rfl ?_ ?_⟩
  ·rintro i γ' hi rfl
   have hi':i<q.2.length:=by
    have:i<((((D.str q.1::q.2.map D.int).length:Nat):Int)-1).toNat:=hi
    omega
   exact⟨_,SB hi',_,rfl,iteF ⟨_,SB hi',_,SB hi',Kv rfl rfl⟩⟩
  ·rintro γ' rfl;exact hR
def Mr (G:Glob K mg) (DD:Def K mg "_law_step" Si ["_law_now","_law_deed_here"])
  (Z6:Eb P w K mg base)
  (Z7:FW P w K mg base)
  : Cf P w K mg base:=by
 refine DD.oz (k:=1) Sv (fun _ _ _ _ _ _ E hr=>⟨_,(Jz (JA (PW.pt (Uy (cq K hr (jx K (pv 1) Jw) JZ) (UA (cq K hr (jx K (pv 1) Jw) JZ)))) (Jz (Pu.pz 2 Sv.nd (fz Z7 hr (bz (jx K (pv 0) Jw) (pv 1)))) (J0 (J4 (JH (dz (jx K (pv 2) Jw) (jx K (pv 0) Jw) (jx K (pv 2) Jw))))))
   JC) (Jz (Pu.pz 2 Sv.nd (fz Z6 hr (bz (jx K (pv 0) Jw) (pv 1)))) (J0 (J4 (JH (dz (jx K (pv 2) Jw) (jx K (pv 2) Jw) (jx K (pv 0) Jw))))))), (Jy (JD (U0 (J6 (Ua (Jx (Ju 1) Jv) Ub)) (J6 (Ua (Jx (Ju 1) Jv) Ub))) (Jy (JE 1 (J7 (SR (tz (Jx (Ju 0) Jv) (Ju 1))) (J2 2))) (J8 (JI (uz (Jx (Ju 2) Jv) (Jx (Ju 0) Jv) (Jx (Ju 2) Jv))))) JB) (Jy (JE 1 (J7 (SR (tz (Jx (Ju 0) Jv) (Ju 1))) (J2 2))) (J8 (JI (uz (Jx (Ju 2) Jv) (Jx (Ju 2) Jv) (Jx (Ju 0) Jv))))))⟩) (.b fun ds R X h=>?_)
 ·obtain⟨f,w,ds,x,rfl,hz,hw,hR⟩:=h;refine⟨rfl,?_⟩;have at1:atI (plD f::plD w::ds) 1=some (plD w):=TH (by decide) rfl
  have land:∀x:Dd,x.land=true->R (.own [.int (codeN (x.err f w)),plD (x.nf f w),plD (x.nw f w)])->R (.own [.int (codeN (x.err f [])),plD (x.fld' f),plD w]):=fun x h k=>by
   have e:=x.err_land h f w [];have e2:x.wsh w=w:=by cases x<;>first|rfl|cases h
   unfold Dd.nf Dd.nw at k;rw[e2,e,ite_self] at k;unfold Dd.fld';exact k
  have wish:∀x:Dd,x.land=false->R (.own [.int (codeN (x.err f w)),plD (x.nf f w),plD (x.nw f w)])->R (.own [.int (codeN (x.err [] w)),plD f,plD (x.wsh' w)]):=fun x h k=>by
   have e:=x.err_wish h f [] w;have e2:x.fld f=f:=by cases x<;>first|rfl|cases h
   unfold Dd.nf Dd.nw at k;rw[e2,e,ite_self] at k;unfold Dd.wsh';exact k
  cases x with
  | sell p h=>exact⟨_,rfl,_,rfl,_,UR _ _,f,.sell p h,rfl,rfl,hz,_,rfl,_,rfl,_,at1,by simp,land _ rfl hR⟩
  | part p h=>exact⟨_,rfl,_,rfl,_,UR _ _,f,.part p h,rfl,rfl,hz,_,rfl,_,rfl,_,at1,by simp,land _ rfl hR⟩
  | unite p=>exact⟨_,rfl,_,rfl,_,UR _ _,f,.unite p,rfl,rfl,hz,_,rfl,_,rfl,_,at1,by simp,land _ rfl hR⟩
  | wish a b=>exact⟨_,rfl,_,at1,w,.wish a b,rfl,rfl,hw,_,rfl,_,UR _ _,_,rfl,by simp,wish _ rfl hR⟩
  | drop a b=>exact⟨_,rfl,_,rfl,_,at1,w,.drop a b,rfl,rfl,hw,_,rfl,_,UR _ _,_,rfl,by simp,wish _ rfl hR⟩
def Ry (G:Glob K mg) (DD:Def K mg "_law_start" BL ["_law_script","_law_menu_here","_law_many"])
  (Zb:KO P w K mg base)
  (Ze:Pa P w K mg base)
  (Zh:Tj P w K mg base)
  : D7 P w K mg base:=by
 refine DD.oz (k:=1) K8 (fun _ _ _ _ _ _ E hr=>⟨_,(Jz (Pu.pz 3 K8.nd (fz Zb hr (bz (pv 0) Jw))) (Jz (Pu.pz 4 K8.nd (JH JY)) (Jz (U4 YI rfl (X4 rfl G.range (az (pv 2))) (gz 5 K8.nd) (Jz (Pu.pz 6 K8.nd (pv 3)) (Ke (JA (cq K hr (J1 JQ (fz Zb hr (bz (pv 0) Jw)) Jw) Jw) (J0 (Pu.pz 6 K8.nd (fz Ze hr (bz (fz Zb hr (bz (pv 0) Jw)) (J1 JT Jw (pv 5))))))
   JC) (Jz (Pu.pz 7 K8.nd (J1 JT (jx K (pv 1) Jw) (J1 JQ (J1 Uq (pv 6) (jx K (pv 1) Jw)) (jx K (pv 1) Jw)))) (Jz (Um (XT YM Wi Wj XZ (pv 4) (az (JR (bz (fz Zh hr (bz (pv 1) (J1 JQ (pv 6) (jx K (pv 1) Jw)))) (pv 7)))))) (J0 (Pu.pz 3 K8.nd (J1 Uq (J1 Uq (pv 3) (jx K (pv 1) Jw)) (jx K (pv 1) Jw))))))))) (J0 (J4 (pv 4)))))), (Jy (J7 (J9 (tz (Ju 0) Jv)) (J2 3)) (Jy (J7 (JI JJ) (J2 4)) (Jy (U5 [5,6,7] (XA (sz (Ju 2))) (J2 5) (Jy (JE 3 (J7 (Ju 3) (J2 6))) (Kp (JD (J6 (Ua (JP (J9 (tz (Ju 0) Jv)) Jv) Jv)) (J7 (J9 (tz (J9 (tz (Ju 0) Jv)) (JU Jv (Ju 5)))) (J2 6)) JB) (Jy (J7 (JU (Jx (Ju 1) Jv) (JP (Up (Ju 6) (Jx (Ju 1) Jv)) (Jx (Ju 1) Jv))) (J2 7)) (Jy (JE 7 (P2 4 (JS (tz (J9 (tz (Ju 1) (JP (Ju 6) (Jx (Ju 1) Jv)))) (Ju 7))))) (J7 (Up (Up (Ju 3) (Jx (Ju 1) Jv)) (Jx (Ju 1) Jv)) (J2 3))))))) (XH 4))))⟩) (.a fun ds R X h=>?_)
 ·obtain⟨ns,m,n,rfl,hM,h0,h1,hR⟩:=h;refine⟨rfl,?_⟩;have hMM:=hM;obtain⟨a,b,c,d,e,rfl,ha,hb,hc,hd,he⟩:=hM;refine⟨ns,2,rfl,by decide,by simp,⟨by omega,by omega⟩,XM (fun i γ'=>∃(ps:List (Int×Int)) (r:Int),γ'=[some (.bor (.scr ns)),some (.bor (.lst (([a,b,c,d,e]:List Int).map D.int))),some (.sh (.int n)),some (.sh (.int r)),some (.own (ps.map prD)),none,none,none]/\Field ps/\ps.length=i) ⟨[],_,rfl,(fun q hq=>by cases hq),rfl⟩ ?_ ?_⟩
  ·rintro i γ' hi ⟨ps,r,rfl,hF,hl⟩;have hlm:(ps.map prD).length=ps.length:=Yn ..;have hi':i<n.toNat:=hi;refine Kg (fun γ'=>∃(v:Int) (t:Option S),γ'=[some (.bor (.scr ns)),some (.bor (.lst (([a,b,c,d,e]:List Int).map D.int))),some (.sh (.int n)),some (.sh (.int r)),some (.own (ps.map prD)),t,some (.sh (.int v)),none]) ?_ ?_
   ·refine⟨ns,0,rfl,by decide,(by show(0:Int)<2;decide),ite2 (fun _=>?_) (fun _=>⟨_,_,rfl⟩)⟩;exact⟨ns,1,rfl,by decide,_,_,rfl,_,_,rfl⟩
   ·rintro γ' ⟨v,t,rfl⟩;have q1:=Qn (v / a) (show d≠0 by omega);have q2:=WQ (v / a) (show 0<d by omega);refine⟨_,rfl,_,rfl,⟨by omega,by omega⟩,_,rfl,(by show 0<d;omega),_,rfl,(by show 0<a;omega),[a,b,c,d,e],_,rfl,hMM,fun h l1 l2 _=>⟨by simp,by omega,?_⟩⟩;refine⟨_,rfl,⟨by omega,by omega⟩,_,rfl,⟨by omega,by omega⟩,ps++[(h,e+v / a % d)],r / a / d,?_,fun q hq=>?_,by rw[Yy,hl];rfl⟩
    ·rw[YD];rfl
    ·rcases YJ.mp hq with hq|hq
     ·exact hF q hq
     ·rw[Y0] at hq;subst hq;exact⟨l1,l2,by show 1<=e+v / a % d;omega,by show e+v / a % d<=1000;omega⟩
  ·rintro γ' ⟨ps,r,rfl,hF,hl⟩;exact hR ps hF hl
def Zbt (G:Glob K mg) (DD:Def K mg "_law_days" F3 ["_law_script","_law_most"])
  (Ze:Pa P w K mg base)
  (Zb:KO P w K mg base)
  : CI P w K mg base:=by
 refine DD.oz (k:=1) OE (fun _ _ _ _ _ _ E hr=>⟨_,(Jz (JA (cq K hr (J1 JQ (fz Zb hr (bz (pv 0) Jw)) Jw) Jw) (J0 (J4 (Xi (Xg (K:=K)) (pv 0) (UX Jw) (UX (J1 JT Jw (pv 1))))))
   JC) (J0 (J4 (UQ (N':=["_law_k","_law_script"]) (φ:=[none,some 0]) rfl (Own.CompOk.of (by rfl)) (X4 rfl G.range (az (J1 JQ (fz Zb hr (bz (pv 0) Jw)) (J1 JT (pv 1) Jw)))) (fun _ _ _ _ _=>⟨(gz 0 (show(["_law_k","_law_script"]:List Str).Nodup from by decide +kernel)),Xp,(fz Ze hr (bz (fz Zb hr (bz (pv 1) Jw)) (J1 JT Jw (pv 0))))⟩))))), (Jy (JD (J6 (Ua (JP (J9 (tz (Ju 0) Jv)) Jv) Jv)) (J8 (M4 (Ju 0) (Xa Jv) (Xa (JU Jv (Ju 1))))) JB) (J8 (Uw (SndI.c (XA (sz (JP (J9 (tz (Ju 0) Jv)) (JU (Ju 1) Jv))))) (J2 0) XD (J9 (tz (J9 (tz (Ju 1) Jv)) (JU Jv (Ju 0)))))))⟩) (.a fun ds R X h=>?_)
 ·obtain⟨ns,n,rfl,h0,h1,hR⟩:=h;refine⟨rfl,?_⟩;refine⟨ns,0,rfl,by decide,(by show(0:Int)<2;decide),ite2 (fun _=>?_) (fun _=>?_)⟩
  ·refine hR _ ?_;unfold Pu.cutD;rw[Wr]
   have e3:HT.sIx ns.length 0 (some 3)=min 3 ns.length:=by
    rw[show(3:Int)=((3:Nat):Int) by rfl,HT.Nj]
   have e2:HT.sIx ns.length ns.length (some (3+n))=min (3+n).toNat ns.length:=by
    rw[show(3+n:Int)=(((3+n).toNat:Nat):Int) by omega,HT.Nj];rfl
   rw[e3,e2];omega
  ·refine⟨ns,2,rfl,by decide,(by show 0<n+1;omega),?_⟩;have q1:=Qn (ns.getD (2:Int).toNat 0) (show n+1≠0 by omega);have q2:=WQ (ns.getD (2:Int).toNat 0) (show 0<n+1 by omega);refine⟨⟨by omega,by omega⟩,Bw (fun i=>some (.int (mixP (ns.getD (1:Int).toNat 0) (200+(0+(i:Int)))))) (by omega) (fun i hi=>⟨ns,1,rfl,by decide,_,_,rfl,_,rfl,rfl⟩) ?_⟩
   have e:(List.range (ns.getD (2:Int).toNat 0 % (n+1)).toNat).filterMap (fun i:Nat=>some (D.int (mixP (ns.getD (1:Int).toNat 0) (200+(0+(i:Int))))))=((List.range (ns.getD (2:Int).toNat 0 % (n+1)).toNat).map fun i:Nat=>mixP (ns.getD (1:Int).toNat 0) (200+(0+(i:Int)))).map D.int:=by
    rw[Qp,Wh];rfl
   rw[e];refine hR _ ?_;rw[Yn,Vl];omega
def HZ (G:Glob K mg) (DD:Def K mg "_law_pair" FO ["_law_cell","_law_menu_here"])
  (Zn:SM P w K mg base)
  (Zh:Tj P w K mg base)
  : Br P w K mg base:=by
 refine DD.oz (k:=1) Tf (fun _ _ _ _ _ _ E hr=>⟨_,(Jz (Pu.pz 2 Tf.nd (jx K (JH (JG Jw (JG (jx K (pv 1) Jw) (JG (jx K (pv 1) Jw) (JG (jx K (pv 1) Jw) JY))))) (J1 JQ (pv 0) Jw))) (Jz (Pu.pz 3 Tf.nd (J1 JQ (J1 Uq (pv 0) Jw) (pv 2))) (Jz (Pu.pz 4 Tf.nd (J1 JQ (J1 JT (J1 JT (pv 3) Jw) (J1 JQ (J1 Uq (pv 0) Jw) (U7 (Gj rfl) (by rfl) G.max boot_max (bz Jw (J1 UK (pv 2) Jw))))) (pv 2))) (Jz (Pu.pz 5 Tf.nd (fz Zn hr (bz (J1 Uq (pv 0) Jw) (fz Zh hr (bz (pv 1) (pv 3)))))) (J0 (J4 (JR (bz (pv 5) (fz Zn hr (bz (J1 Uq (pv 0) Jw) (fz Zh hr (bz (pv 1) (pv 4))))))))))))), (Jy (J7 (Jx (JI (JK Jv (JK (Jx (Ju 1) Jv) (JK (Jx (Ju 1) Jv) (JK (Jx (Ju 1) Jv) JJ))))) (JP (Ju 0) Jv)) (J2 2)) (Jy (J7 (JP (Up (Ju 0) Jv) (Ju 2)) (J2 3)) (Jy (J7 (JP (JU (JU (Ju 3) Jv) (JP (Up (Ju 0) Jv) (Do (tz Jv (UL (Ju 2) Jv))))) (Ju 2)) (J2 4)) (Jy (J7 (J9 (tz (Up (Ju 0) Jv) (J9 (tz (Ju 1) (Ju 3))))) (J2 5)) (JE 5 (J8 (JS (tz (Ju 5) (J9 (tz (Up (Ju 0) Jv) (J9 (tz (Ju 1) (Ju 4)))))))))))))⟩) (.a fun ds R X h=>?_)
 ·obtain⟨c,m,rfl,hM,hR⟩:=h;refine⟨rfl,?_⟩;have hMM:=hM;obtain⟨a,b,e,d,f,rfl,ha,hb,he,hd,hf⟩:=hM;have h4:0<=c % 4/\c % 4<4:=by omega
  obtain⟨pool,ep,hp⟩:∃p:Int,atI [D.int 10,.int a,.int a,.int a] (c % 4)=some (.int p)/\1<=p/\p<=10:=by
   have:c % 4=0\/c % 4=1\/c % 4=2\/c % 4=3:=by omega
   rcases this with e|e|e|e<;>rw[e]
   ·exact⟨10,rfl,by decide,by decide⟩
   ·exact⟨a,rfl,ha⟩
   ·exact⟨a,rfl,ha⟩
   ·exact⟨a,rfl,ha⟩
  have hmx:0<(if pool-1>1 then pool-1 else 1):=by split<;>omega
  refine⟨_,rfl,_,rfl,_,rfl,by simp,(by show(0:Int)<4;decide),_,ep,?_⟩;refine⟨⟨by decide,by decide⟩,(by show 0<pool;omega),⟨by decide,by decide⟩,hmx,(by show 0<pool;omega),?_⟩;refine⟨⟨by decide,by decide⟩,_,_,rfl,hMM,fun h1 _ _ _=>⟨_,_,rfl,fun v1=>?_⟩⟩;exact⟨⟨by decide,by decide⟩,_,_,rfl,hMM,fun h2 _ _ _=>⟨_,_,rfl,fun v2=>⟨by simp,hR v1 v2⟩⟩⟩
def II (G:Glob K mg) (DD:Def K mg "find_ring" Fj ["holders","wishes"])
  (Z8:Gv P w K mg base)
  : Ai P w K mg base:=by
 refine DD.oz (k:=2) PV (fun _ _ _ _ _ _ E hr=>⟨_,(Jz (Pu.pz 2 PV.nd (JH JY)) (Jz (U4 YI rfl (Ul (K:=K) (U7 (Bm (K:=K) (w:=w) rfl) (by rfl) G.sorted boot_sorted (az (pv 0)))) (gz 3 PV.nd) (Jz (Pu.pz 4 PV.nd (fz Z8 hr (dz (pv 3) (pv 0) (pv 1)))) (J0 (JA (PW.pt (Ks (Ue (K:=K) (pv 4)) (KI (PW.pt (Uy (Uv (Ue (K:=K) (pv 2))) (UA (JL Xh (ln K G.len (pv 4)) (ln K G.len (pv 2)) (JN _)))))))) (J0 (Pu.pz 2 PV.nd (pv 4)))
   JC)))) (J0 (J4 (pv 2))))), (Jy (J7 (JI JJ) (J2 2)) (Jy (JE 2 (U5 [3,4] (X3 (Bo (sz (Ju 0)))) (J2 3) (Jy (J7 (J9 (uz (Ju 3) (Ju 0) (Ju 1))) (J2 4)) (JD (KL (Ut (Ju 4)) (U0 (UM (Ut (Ju 2))) (J6 (Xf (JV (sz (Ju 4))) (JV (sz (Ju 2))))))) (JE 4 (J7 (Ju 4) (J2 2))) JB)))) (JE 2 (XH 2))))⟩) (.a fun ds R X h=>?_)
 ·obtain⟨hs,ws,rfl,hz,hN,hR⟩:=h;refine⟨rfl,?_⟩;refine⟨by simp,hs,rfl,by omega,fun ns hp hsrt=>?_⟩;refine⟨rfl,X1 (xs:=ns) (emb:=D.int) (fun i γ'=>γ'=[some (.bor (.lst (hs.map D.int))),some (.bor (.lst (ws.map prD))),some (.sh (.lst [])),none,none]) rfl ?_ ?_⟩
  ·rintro i hi γ' rfl;have hl:=hN ns[i] (hp.mem_iff.mp (YH hi));generalize ns[i]=l at hl ⊢;exact⟨l,hs,ws,rfl,hz,hl,rfl⟩
  ·rintro γ' rfl;exact hR
def Zb5 (G:Glob K mg) (DD:Def K mg "least_costs" Ss ["strips","wishes","pairs"])
  (Z9:AI P w K mg base)
  (Zi:NM P w K mg base)
  (ZA:Co P w K mg base)
  (ZC:Df P w K mg base)
  : Bc P w K mg base:=by
 refine DD.oz (k:=2) Nr (fun _ _ _ _ _ _ E hr=>⟨_,(Jz (Pu.pz 3 Nr.nd (Zdz (U6 hr) (JR JY) Jw)) (Jz (U4 YI rfl (Ul (K:=K) (Xi (Xg (K:=K)) (fz Z9 hr (az (fz Zi hr (az (pv 0))))) (UX Jw) Xo)) (gz 4 Nr.nd) (Jz (K9 (N':=["holder","members","wishes"]) (φ:=[none,some 4,some 1]) (i:=5) Nr.nd rfl rfl rfl (Own.CompOk.of (by rfl)) (PY (K:=K) (pv 4)) (fun _ _ _ _ _=>⟨(gz 0 (show(["holder","members","wishes"]:List Str).Nodup from by decide +kernel)),(Xr (Ue (K:=K) (fz ZA hr (dz (pv 1) (pv 0) (pv 2))))),(pv 0)⟩)) (J0 (Fs (U6 hr) (pv 3) (pv 4) (U7 (M6 (K:=K) rfl) (by rfl) G.min boot_min (az (UQ (N':=["last","members","least","pairs"]) (φ:=[none,some 4,some 3,some 2]) rfl (Own.CompOk.of (by rfl)) (Ul (K:=K) (pv 5)) (fun _ _ _ _ _=>⟨(gz 0 (show(["last","members","least","pairs"]:List Str).Nodup from by decide +kernel)),Xp,(fz ZC hr (JG (pv 1) (JG (pv 0) (JG (pv 2) (JG (pv 3) JY)))))⟩)))) rfl)))) (J0 (J4 (pv 3))))), (Jy (J7 (Mq (JS JJ) Jv) (J2 3)) (Jy (U5 [4,5] (X3 (Xu (J9 (sz (J9 (sz (Ju 0))))) (Xa Jv) Xm)) (J2 4) (Jy (J7 (Uw (SndI.c (TL (Ju 4))) (J2 0) (Ut (J9 (uz (Ju 1) (Ju 0) (Ju 2)))) (Ju 0)) (J2 5)) (Sr 3 (Ju 4) (IX (sz (Uw (UT (Ju 5)) (J2 0) XD (J9 (JK (Ju 1) (JK (Ju 0) (JK (Ju 2) (JK (Ju 3) JJ))))))))))) (XH 3)))⟩) (.a fun ds R X h=>?_)
 ·obtain⟨ps,ws,pa,c,rfl,hF,hz,hw,hu,hc,hL,hR⟩:=h;refine⟨rfl,?_⟩;refine⟨by simp,_,_,rfl,rfl,?_⟩;refine⟨ps,rfl,hF,hz,_,rfl,KM ps,?_⟩;have hh:=KM ps;have nd:(JF ps).Nodup:=(KB ps).imp (fun h=>Vp h);generalize JF ps=hs at hh nd hc hL hR ⊢;have hsl:=FT hs;have hsub:=Ts hs;have hbef:=CN nd;have hsn:=Da nd
  have hlen:(JX hs).length<=1024:=by
   rw[hsl];exact QY (j:=10) (by decide) hh
  obtain⟨T,eT⟩:=MD hs;rw[eT] at hsub hbef hsn hlen hR ⊢;refine⟨rfl,rfl,?_⟩
  have ec:Pu.cutD (List.map tD ([]::T)) (some 1) none=T.map tD:=by
   rw[KW,PR _ (by decide)];rfl
  rw[ec];refine X1 (xs:=T) (emb:=tD) (fun i γ'=>∃kvs:List (List Key×V),γ'=[some (.bor (.lst (ps.map prD))),some (.bor (.lst (ws.map prD))),some (.bor (.dT pa)),some (.own (.dT kvs)),none,none]/\Tab ws c ([]::T.take i) kvs) ⟨_,rfl,MM ws c⟩ ?_ ?_
  ·rintro i hi γ' ⟨kvs,rfl,ht⟩;have em:([]::T)[i+1]?=some T[i]:=by rw[Wd,Yo hi]
   have hmem:T[i]∈[]::T:=YE em;have hsm:=hsub _ hmem;have hne:T[i]≠[]:=fun e=>(YX.mp hsn).1 (e▸YH hi)
   have hnew:T[i]∉[]::T.take i:=fun z=>by
    rcases Y5.mp z with z|z
    ·exact hne z
    ·obtain⟨j,hj,e⟩:=W6.mp z;rw[Wr] at hj;rw[List.getElem_take] at e;exact List.pairwise_iff_getElem.mp (YX.mp hsn).2 j i (by omega) hi (by omega) e
   have hml:T[i].length<=10:=Y7 hsm.length_le hh
   have hless:∀l∈T[i],JO T[i] l∈[]::T.take i:=fun l hl=>by
    obtain⟨j,hj,e⟩:=hbef (i+1) _ em l hl
    have:([]::T.take i)=([]::T).take (i+1):=by rw[List.take_succ_cons]
    rw[this];refine YE (i:=j) ?_;rw[W4 hj];exact e
   have ndm:T[i].Nodup:=nd.sublist hsm
   have hkl:kvs.length<=1024:=by
    have:=YS List.length ht.keys
    rw[Yn,Yn,YC,Wr] at this;rw[YC] at hlen;omega
   have etk:[]::T.take (i+1)=([]::T.take i)++[T[i]]:=by rw[Wf hi];rfl
   rw[etk];generalize T[i]=ms at *;obtain⟨vs,hvs⟩:=CB fun l hl=>ht.val _ (hless l hl);obtain⟨l0,hl0,hl0'⟩:=hL ms hsm hne;refine⟨_,rfl,UG (s:=.sh .non) (xs:=ms) (emb:=D.int) (fun h=>if Kc ws ms h=true then some (.int h) else none) (by omega) (fun h hm=>?_) ?_⟩
   ·refine⟨ms,h,ws,rfl,hw,?_⟩;refine ite2 (fun g=>⟨_,rfl,Yr g⟩) (fun g=>Yq g)
   ·rw[X0 (fun h=>Kc ws ms h)];refine UG (xs:=ms.filter (fun h=>Kc ws ms h)) (emb:=D.int) (fun l=>some (.int (vs l+((JO ms l).map (c · l)).sum))) (Y7 (Wk _ _) (by omega)) (fun l hl=>?_) ?_
    ·obtain⟨hl1,hl2⟩:=YO.mp hl;exact⟨ms,l,kvs,pa,(c · l),vs l,rfl,by omega,(hvs l hl1).1,fun m hm=>hc m (hsm.subset (less_sub.subset hm)) l (hsm.subset hl1),_,rfl,rfl⟩
    ·rw[mapD];refine⟨(ms.filter (fun h=>Kc ws ms h)).map fun l=>vs l+((JO ms l).map (c · l)).sum,by rw[Wh];rfl,?_,fun M hM hle=>⟨_,_,NC ms,rfl,by omega,_,rfl,ht.put hnew (Zby ndm hu (fun l hl=>(hvs l hl).2) ?_ ?_)⟩⟩
     ·rw[Yn];exact List.length_pos_of_mem (YO.mpr ⟨hl0,lastM_iff.mpr hl0'⟩)
     ·obtain⟨l,hl,e⟩:=YT.mp hM;obtain⟨hl1,hl2⟩:=YO.mp hl;exact⟨l,hl1,hl2,e.symm⟩
     ·intro l hl hlast;exact hle _ (YT.mpr ⟨l,YO.mpr ⟨hl,hlast⟩,rfl⟩)
  ·rintro γ' ⟨kvs,rfl,ht⟩;rw[Qf] at ht;exact hR kvs ht
def OJ (G:Glob K mg) (DD:Pu.DefM K (Mk K (ExcR.J3 mg "Village")) "__init__" "Village.__init__" F7 ["self","strips"])
  (ZD:AK P w K mg base)
  : AX P w K mg base:=by
 refine DD.ox (k:=2) RU (fun _ _ _ _ _ _ E hr=>⟨_,(Jz (Um (UW ZD (hr.mono (by decide)) ExcR.U1 (az (pv 1)))) (Jz (BC (pv 0) (JH JY) rfl) (Jz (BC (pv 0) (JH (az (X2 (KS (K:=K)) (by rfl) G.list boot_list (az (pv 1))))) rfl) (J0 (BC (pv 0) (JH (az (JH JY))) rfl))))), (Jy (Xc (Xl (sz (Ju 1)))) (Jy (Sy 0 G.cl_Village G.n_Village_book Zd2 (JI JJ)) (Jy (Sy 0 G.cl_Village G.n_Village_fields Zep (JI (sz (KE (sz (Ju 1)))))) (Sy 0 G.cl_Village G.n_Village_wished Zbz (JI (sz (JI JJ)))))))⟩) (.c fun o ss R X h=>?_)
 ·obtain⟨x,ps,rfl,rfl,hz,hR⟩:=h;refine⟨rfl,?_⟩;refine⟨ps,rfl,hz,?_⟩;cases e:Pp ps with
  | some c=>
   rw[e] at hR;exact⟨_,rfl,⟨rfl,by simp⟩,hR⟩
  | none=>
   rw[e] at hR;refine⟨by simp,rfl,rfl,by decide,fun b1=>?_⟩;refine⟨rfl,by simp,rfl,rfl,by decide,fun b2=>?_⟩;refine⟨by simp,by simp,rfl,rfl,by decide,fun b3=>?_⟩;exact⟨_,rfl,⟨rfl,by simp⟩,hR b1 b2 b3⟩
def Oy (G:Glob K mg) (DD:Pu.DefM K (Meth K (ExcR.J3 mg "Village") "sell") "sell" "Village.sell" BE ["self","place","holder"])
  (Zf:P6 P w K mg base)
  (ZE:EF P w K mg base)
  (Zg:Pn P w K mg base)
  (Zd:XO P w K mg base)
  (Zc:XY P w K mg base)
  : GA P w K mg base:=by
 refine DD.ox (k:=2) FV (fun _ _ _ _ _ _ E hr=>⟨_,(Jz (Um (Uh Zf G.cl_Village (hr.mono (by decide)) ExcR.U1 (pv 0))) (Jz (Pu.pz 3 FV.nd (UW ZE (hr.mono (by decide)) ExcR.U1 (dz (Uh Zd G.cl_Village (hr.mono (by decide)) Ui (pv 0)) (pv 1) (pv 2)))) (J0 (J4 (XS Zg G.cl_Village (hr.mono (by decide)) Ui (pv 0) (dz (JR (dz JZ (pv 1) (pv 2))) (pv 3) (Uh Zc G.cl_Village (hr.mono (by decide)) Ui (pv 0)))))))), (Jy (Xc (TC T7 (Ju 0) JJ)) (Jy (J7 (Xl (uz (U3 Kn (Ju 0) JJ) (Ju 1) (Ju 2))) (J2 3)) (JE 2 (JE 1 (JE 3 (XI (P8 0 Tx (uz (JS (uz Ub (Ju 1) (Ju 2))) (Ju 3) (U3 Kj (Ju 0) JJ)))))))))⟩) (.c fun o ss R X h=>?_)
 ·obtain⟨x,b1,b2,b3,bk,fs,ws,f,w,p,h,rfl,rfl,hb,hf,hw,hz,hR⟩:=h;refine⟨rfl,?_⟩;unfold N7 at hR;refine⟨rfl,rfl,bk,fs++[f],ws++[w],rfl,?_⟩;unfold KY;by_cases c:100<=bk.length
  ·rw[Yr c] at hR ⊢;exact⟨_,rfl,⟨rfl,by simp⟩,hR⟩
  ·rw[Yq c] at hR ⊢;refine⟨rfl,rfl,bk,fs,ws++[w],f,rfl,f,p,h,rfl,hz,?_⟩;cases e:UI f p h with
   | some c=>
    rw[e] at hR;exact⟨_,rfl,⟨rfl,by simp⟩,hR⟩
   | none=>
    rw[e] at hR;refine⟨rfl,rfl,by simp,rfl,rfl,bk,fs++[f],ws,w,rfl,?_⟩;exact⟨x,b1,b2,b3,bk,fs++[f],ws++[w],("sell",[p,h]),XX f p h,w,rfl,rfl,hb,by rw[Yy];simp;omega,by rw[Yy];simp;omega,_,rfl,⟨rfl,by simp⟩,hR⟩
def Zen (G:Glob K mg) (DD:Pu.DefM K (Meth K (ExcR.J3 mg "Village") "part") "part" "Village.part" FP ["self","place","width"])
  (Zf:P6 P w K mg base)
  (ZF:CP P w K mg base)
  (Zg:Pn P w K mg base)
  (Zd:XO P w K mg base)
  (Zc:XY P w K mg base)
  : CF P w K mg base:=by
 refine DD.ox (k:=2) Eh (fun _ _ _ _ _ _ E hr=>⟨_,(Jz (Um (Uh Zf G.cl_Village (hr.mono (by decide)) ExcR.U1 (pv 0))) (Jz (Pu.pz 3 Eh.nd (UW ZF (hr.mono (by decide)) ExcR.U1 (dz (Uh Zd G.cl_Village (hr.mono (by decide)) Ui (pv 0)) (pv 1) (pv 2)))) (J0 (J4 (XS Zg G.cl_Village (hr.mono (by decide)) Ui (pv 0) (dz (JR (dz JZ (pv 1) (pv 2))) (pv 3) (Uh Zc G.cl_Village (hr.mono (by decide)) Ui (pv 0)))))))), (Jy (Xc (TC T7 (Ju 0) JJ)) (Jy (J7 (Xl (uz (U3 Kn (Ju 0) JJ) (Ju 1) (Ju 2))) (J2 3)) (JE 2 (JE 1 (JE 3 (XI (P8 0 Tx (uz (JS (uz Ub (Ju 1) (Ju 2))) (Ju 3) (U3 Kj (Ju 0) JJ)))))))))⟩) (.c fun o ss R X h=>?_)
 ·obtain⟨x,b1,b2,b3,bk,fs,ws,f,w,p,h,rfl,rfl,hb,hf,hw,hz,hR⟩:=h;refine⟨rfl,?_⟩;unfold N5 at hR;refine⟨rfl,rfl,bk,fs++[f],ws++[w],rfl,?_⟩;unfold KY;by_cases c:100<=bk.length
  ·rw[Yr c] at hR ⊢;exact⟨_,rfl,⟨rfl,by simp⟩,hR⟩
  ·rw[Yq c] at hR ⊢;refine⟨rfl,rfl,bk,fs,ws++[w],f,rfl,f,p,h,rfl,hz,?_⟩;cases e:UE f p h with
   | some c=>
    rw[e] at hR;exact⟨_,rfl,⟨rfl,by simp⟩,hR⟩
   | none=>
    rw[e] at hR;refine⟨rfl,rfl,by simp,rfl,rfl,bk,fs++[f],ws,w,rfl,?_⟩;exact⟨x,b1,b2,b3,bk,fs++[f],ws++[w],("part",[p,h]),UO f p h,w,rfl,rfl,hb,by rw[Yy];simp;omega,by rw[Yy];simp;omega,_,rfl,⟨rfl,by simp⟩,hR⟩
def RY (G:Glob K mg) (DD:Pu.DefM K (Meth K (ExcR.J3 mg "Village") "unite") "unite" "Village.unite" SG ["self","place"])
  (Zf:P6 P w K mg base)
  (ZG:Dz P w K mg base)
  (Zg:Pn P w K mg base)
  (Zd:XO P w K mg base)
  (Zc:XY P w K mg base)
  : Ew P w K mg base:=by
 refine DD.ox (k:=2) AS (fun _ _ _ _ _ _ E hr=>⟨_,(Jz (Um (Uh Zf G.cl_Village (hr.mono (by decide)) ExcR.U1 (pv 0))) (Jz (Pu.pz 2 AS.nd (UW ZG (hr.mono (by decide)) ExcR.U1 (bz (Uh Zd G.cl_Village (hr.mono (by decide)) Ui (pv 0)) (pv 1)))) (J0 (J4 (XS Zg G.cl_Village (hr.mono (by decide)) Ui (pv 0) (dz (JR (bz JZ (pv 1))) (pv 2) (Uh Zc G.cl_Village (hr.mono (by decide)) Ui (pv 0)))))))), (Jy (Xc (TC T7 (Ju 0) JJ)) (Jy (J7 (Xl (tz (U3 Kn (Ju 0) JJ) (Ju 1))) (J2 2)) (JE 1 (JE 2 (XI (P8 0 Tx (uz (JS (tz Ub (Ju 1))) (Ju 2) (U3 Kj (Ju 0) JJ))))))))⟩) (.c fun o ss R X h=>?_)
 ·obtain⟨x,b1,b2,b3,bk,fs,ws,f,w,p,rfl,rfl,hb,hf,hw,hz,hR⟩:=h;refine⟨rfl,?_⟩;unfold Nn at hR;refine⟨rfl,rfl,bk,fs++[f],ws++[w],rfl,?_⟩;unfold KY;by_cases c:100<=bk.length
  ·rw[Yr c] at hR ⊢;exact⟨_,rfl,⟨rfl,by simp⟩,hR⟩
  ·rw[Yq c] at hR ⊢;refine⟨rfl,rfl,bk,fs,ws++[w],f,rfl,f,p,rfl,hz,?_⟩;cases e:uniE f p with
   | some c=>
    rw[e] at hR;exact⟨_,rfl,⟨rfl,by simp⟩,hR⟩
   | none=>
    rw[e] at hR;refine⟨rfl,rfl,by simp,rfl,rfl,bk,fs++[f],ws,w,rfl,?_⟩;exact⟨x,b1,b2,b3,bk,fs++[f],ws++[w],("unite",[p]),uniL f p,w,rfl,rfl,hb,by rw[Yy];simp;omega,by rw[Yy];simp;omega,_,rfl,⟨rfl,by simp⟩,hR⟩
def Mc (G:Glob K mg) (DD:Pu.DefM K (Meth K (ExcR.J3 mg "Village") "wish") "wish" "Village.wish" Su ["self","ahead","behind"])
  (Zf:P6 P w K mg base)
  (ZH:DC P w K mg base)
  (Zg:Pn P w K mg base)
  (Zc:XY P w K mg base)
  (Zd:XO P w K mg base)
  : Dn P w K mg base:=by
 refine DD.ox (k:=2) GE (fun _ _ _ _ _ _ E hr=>⟨_,(Jz (Um (Uh Zf G.cl_Village (hr.mono (by decide)) ExcR.U1 (pv 0))) (Jz (Pu.pz 3 GE.nd (UW ZH (hr.mono (by decide)) ExcR.U1 (dz (Uh Zc G.cl_Village (hr.mono (by decide)) Ui (pv 0)) (pv 1) (pv 2)))) (J0 (J4 (XS Zg G.cl_Village (hr.mono (by decide)) Ui (pv 0) (dz (JR (dz JZ (pv 1) (pv 2))) (Uh Zd G.cl_Village (hr.mono (by decide)) Ui (pv 0)) (pv 3))))))), (Jy (Xc (TC T7 (Ju 0) JJ)) (Jy (J7 (Xl (uz (U3 Kj (Ju 0) JJ) (Ju 1) (Ju 2))) (J2 3)) (JE 2 (JE 1 (JE 3 (XI (P8 0 Tx (uz (JS (uz Ub (Ju 1) (Ju 2))) (U3 Kn (Ju 0) JJ) (Ju 3)))))))))⟩) (.c fun o ss R X h=>?_)
 ·obtain⟨x,b1,b2,b3,bk,fs,ws,f,w,p,h,rfl,rfl,hb,hf,hw,hz,hR⟩:=h;refine⟨rfl,?_⟩;unfold NI at hR;refine⟨rfl,rfl,bk,fs++[f],ws++[w],rfl,?_⟩;unfold KY;by_cases c:100<=bk.length
  ·rw[Yr c] at hR ⊢;exact⟨_,rfl,⟨rfl,by simp⟩,hR⟩
  ·rw[Yq c] at hR ⊢;refine⟨rfl,rfl,bk,fs++[f],ws,w,rfl,w,p,h,rfl,hz,?_⟩;cases e:U2 w p h with
   | some c=>
    rw[e] at hR;exact⟨_,rfl,⟨rfl,by simp⟩,hR⟩
   | none=>
    rw[e] at hR;refine⟨rfl,rfl,by simp,rfl,rfl,bk,fs,ws++[w],f,rfl,?_⟩;exact⟨x,b1,b2,b3,bk,fs++[f],ws++[w],("wish",[p,h]),f,w++[(p,h)],rfl,rfl,hb,by rw[Yy];simp;omega,by rw[Yy];simp;omega,_,rfl,⟨rfl,by simp⟩,hR⟩
def Zam (G:Glob K mg) (DD:Def K mg "_law_book_is" FR ["_law_found","_law_due"])
  (ZI:Gi P w K mg base)
  : Gu P w K mg base:=by
 refine DD.oz (k:=2) CY (fun _ _ _ _ _ _ E hr=>⟨_,(Jz (JA (PW.pt (Uy (Uv (Ue (K:=K) (U7 (Kl (K:=K)) (by rfl) G.isinstance W9 (bz (pv 0) (Kh (v:=.ty "list") rfl G.list boot_list rfl))))) (UA (cn K hr (ln K G.len (pv 0)) (ln K G.len (pv 1)))))) (J0 (J4 Ur))
   JC) (Jz (U4 YI rfl (X4 rfl G.range (az (ln K G.len (pv 1)))) (gz 2 CY.nd) (J0 (JA (Uv (Ue (K:=K) (fz ZI hr (bz (jx K (pv 0) (pv 2)) (jx K (pv 1) (pv 2)))))) (J0 (J4 Ur))
   JC))) (J0 (J4 Ur)))), (Jy (JD (U0 (UM (Ut (Kf (tz (Ju 0) Kd)))) (J6 (Xv (JV (sz (Ju 0))) (JV (sz (Ju 1)))))) (J8 Us) JB) (Jy (U5 [2] (XA (sz (JV (sz (Ju 1))))) (J2 2) (JD (UM (Ut (J9 (tz (Jx (Ju 0) (Ju 2)) (Jx (Ju 1) (Ju 2)))))) (J8 Us) JB)) (J8 Us)))⟩) (.a fun ds R X h=>?_)
 ·obtain⟨bk,rfl,hq,hz,hR⟩:=h;refine⟨rfl,?_⟩;have hl:(bk.map dD).length=bk.length:=Yn ..;refine⟨_,.same _,iteF (Kv rfl ?_)⟩;refine⟨⟨by omega,by omega⟩,XM (fun i γ'=>γ'=[some (.bor (.lst (bk.map dD))),some (.bor (.lst (bk.map dD))),none]) rfl ?_ ?_⟩
  ·rintro i γ' hi rfl;have hi':i<(((bk.map dD).length:Nat):Int).toNat:=hi;have ez:(0:Int)+(i:Int)=(i:Int):=by omega
   have hb:i<bk.length:=by omega
   have ha:atI (bk.map dD) (0+(i:Int))=some (dD bk[i]):=by rw[ez];exact B7 hb
   refine⟨_,ha,_,ha,bk[i],?_,hq _ (YH hb),iteF rfl⟩;show[(arg (dD bk[i])).d,(arg (dD bk[i])).d]=_;rw[Ni];rfl
  ·rintro γ' rfl;exact hR
def Zcs (G:Glob K mg) (DD:Def K mg "_law_opening" Se ["_law_script","_law_menu_here"])
  (Ze:Pa P w K mg base)
  (Zb:KO P w K mg base)
  (Zq:Br P w K mg base)
  (Zh:Tj P w K mg base)
  : DG P w K mg base:=by
 refine DD.oz (k:=2) K4 (fun _ _ _ _ _ _ E hr=>⟨_,(Jz (Pu.pz 2 K4.nd (fz Ze hr (bz (fz Zb hr (bz (pv 0) Jw)) Jw))) (@Jz _ _ _ _ _ (@Pu.pz _ _ _ _ _ _ 3 K4.nd (@AQ _ _ _ _ _ _ _ (Es (K:=K)) (@JH _ _ _ _ (@JG _ _ _ _ _ Jw (@JG _ _ _ _ _ Jw (@JG _ _ _ _ _ Jw (@JG _ _ _ _ _ Jw (@JG _ _ _ _ _ Jw (@JG _ _ _ _ _ Jw (@JG _ _ _ _ _ Jw (@JG _ _ _ _ _ Jw (@JG _ _ _ _ _ (jx K (pv 1) Jw) JY rfl) rfl) rfl) rfl) rfl) rfl) rfl) rfl) rfl)) (J1 JQ (pv 2) Jw) (fun _ _=>rfl)) rfl (by first|exact Or.inl rfl|exact Or.inr rfl) rfl (by first|exact .inl rfl|exact .inr rfl|assumption)) (Jz (Pu.pz 4 K4.nd (JH JY)) (Jz (U4 YI rfl (X4 rfl G.range (az (pv 3))) (gz 5 K4.nd) (Jz (Pu.pz 6 K4.nd (fz Zq hr (bz (fz Ze hr (bz (pv 2) (J1 JT Jw (pv 5)))) (pv 1)))) (Ke (JA (cq K hr (J1 JQ (pv 2) Jw) Jw) (J0 (Pu.pz 6 K4.nd (JR (bz (J1 JT Jw (J1 JQ (J1 JT (pv 2) (pv 5)) Jw)) (J1 JT Jw (J1 JQ (J1 JT (J1 JT (J1 JT (pv 2) (pv 5)) Jw) (J1 Uq (pv 5) Jw)) Jw))))))
   JC) (Ke (JA (cq K hr (J1 JQ (pv 2) Jw) Jw) (J0 (Pu.pz 6 K4.nd (JR (bz (fz Zh hr (bz (pv 1) (pv 5))) (fz Zh hr (bz (pv 1) (J1 JQ (J1 JT (pv 5) Jw) (pv 3))))))))
   JC) (J0 (Um (XT YM Wi Wj XZ (pv 4) (az (JR (dz JZ (jx K (pv 6) Jw) (jx K (pv 6) Jw))))))))))) (J0 (J4 (pv 4))))))), (Jy (J7 (J9 (tz (J9 (tz (Ju 0) Jv)) Jv)) (J2 2)) (Jy (J7 (Jx (JI (JK Jv (JK Jv (JK Jv (JK Jv (JK Jv (JK Jv (JK Jv (JK Jv (JK (Jx (Ju 1) Jv) JJ)))))))))) (JP (Ju 2) Jv)) (J2 3)) (Jy (J7 (JI JJ) (J2 4)) (Jy (U5 [5,6] (XA (sz (Ju 3))) (J2 5) (Jy (J7 (J9 (tz (J9 (tz (Ju 2) (JU Jv (Ju 5)))) (Ju 1))) (J2 6)) (Kp (JD (J6 (Ua (JP (Ju 2) Jv) Jv)) (J7 (JS (tz (JU Jv (JP (JU (Ju 2) (Ju 5)) Jv)) (JU Jv (JP (JU (JU (JU (Ju 2) (Ju 5)) Jv) (Up (Ju 5) Jv)) Jv)))) (J2 6)) JB) (Kp (JD (J6 (Ua (JP (Ju 2) Jv) Jv)) (J7 (JS (tz (J9 (tz (Ju 1) (Ju 5))) (J9 (tz (Ju 1) (JP (JU (Ju 5) Jv) (Ju 3)))))) (J2 6)) JB) (P2 4 (JS (uz Ub (Jx (Ju 6) Jv) (Jx (Ju 6) Jv)))))))) (XH 4)))))⟩) (.a fun ds R X h=>?_)
 ·obtain⟨ns,m,rfl,hM,hR⟩:=h;refine⟨rfl,?_⟩;have hMM:=hM;obtain⟨a,b,c,d,e,rfl,ha,hb,hc,hd,he⟩:=hM;refine⟨ns,1,rfl,by decide,_,_,rfl,?_⟩;generalize mixP (ns.getD (1:Int).toNat 0) 300=sd;have h9:0<=sd % 9/\sd % 9<9:=by omega
  obtain⟨many,em,hm⟩:∃v:Int,atI ([0,1,2,3,4,6,9,24,a].map D.int) (sd % 9)=some (.int v)/\0<=v/\v<=24:=by
   refine⟨_,Ko (f:=D.int) (xs:=[0,1,2,3,4,6,9,24,a]) h9.1 h9.2,?_⟩
   have hall:∀v∈([0,1,2,3,4,6,9,24,a]:List Int),0<=v/\v<=24:=by
    intro v hv;simp at hv;rcases hv with rfl|rfl|rfl|rfl|rfl|rfl|rfl|rfl|rfl<;>omega
   exact hall _ (YH _)
  refine⟨_,rfl,by simp,(by show(0:Int)<9;decide),_,em,by simp,⟨by omega,by omega⟩,?_⟩;refine XM (fun i γ'=>∃qs:List (Int×Int),qs.length=i/\γ'=[some (.bor (.scr ns)),some (.bor (.lst (([a,b,c,d,e]:List Int).map D.int))),some (.sh (.int sd)),some (.sh (.int many)),some (.own (qs.map fun q=>dD (Dd.wish q.1 q.2).q)),none,none]) ⟨[],rfl,rfl⟩ ?_ ?_
  ·rintro i γ' hi ⟨qs,hq,rfl⟩;have hi':i<many.toNat:=hi;have hlm:(qs.map fun q=>dD (Dd.wish q.1 q.2).q).length=qs.length:=Yn ..;refine⟨_,_,rfl,_,_,rfl,hMM,fun p1 p2=>?_⟩;refine Kg (fun γ'=>∃(x y:Int),γ'=[some (.bor (.scr ns)),some (.bor (.lst (([a,b,c,d,e]:List Int).map D.int))),some (.sh (.int sd)),some (.sh (.int many)),some (.own (qs.map fun q=>dD (Dd.wish q.1 q.2).q)),some (.sh (.int (0+(i:Int)))),some (.sh (prD (x,y)))]) ?_ ?_
   ·refine⟨(by show(0:Int)<9;decide),ite2 (fun _=>?_) (fun _=>⟨p1,p2,rfl⟩)⟩;exact⟨(by show(0:Int)<10;decide),⟨by decide,by decide⟩,(by show(0:Int)<10;decide),by simp,_,_,rfl⟩
   ·rintro γ' ⟨p1,p2,rfl⟩;refine Kg (fun γ'=>∃(x y:Int),γ'=[some (.bor (.scr ns)),some (.bor (.lst (([a,b,c,d,e]:List Int).map D.int))),some (.sh (.int sd)),some (.sh (.int many)),some (.own (qs.map fun q=>dD (Dd.wish q.1 q.2).q)),some (.sh (.int (0+(i:Int)))),some (.sh (prD (x,y)))]) ?_ ?_
    ·refine⟨(by show(0:Int)<9;decide),ite2 (fun _=>?_) (fun _=>⟨p1,p2,rfl⟩)⟩;exact⟨_,_,rfl,hMM,fun h1 _ _ _=>⟨(by show 0<many;omega),_,_,rfl,hMM,fun h2 _ _ _=>⟨by simp,_,_,rfl⟩⟩⟩
    ·rintro γ' ⟨x,y,rfl⟩;refine⟨_,UR _ _,_,SA _ _ (.inr rfl),by simp,by omega,?_⟩;exact⟨qs++[(x,y)],by rw[Yy,hq];rfl,by rw[YD];rfl⟩
  ·rintro γ' ⟨qs,hq,rfl⟩;have hq':qs.length=many.toNat:=hq;exact hR qs (by omega)
def Rb (G:Glob K mg) (DD:Def K mg "_law_deed" FF ["_law_cell","_law_menu_here","_law_now"])
  (ZJ:D2 P w K mg base)
  (Zq:Br P w K mg base)
  (Zn:SM P w K mg base)
  (ZK:D8 P w K mg base)
  (Zh:Tj P w K mg base)
  : DO P w K mg base:=by
 refine DD.oz (k:=2) KA (fun _ _ _ _ _ _ E hr=>⟨_,(Jz (Pu.pz 3 KA.nd (J1 JQ (pv 0) Jw)) (Jz (Pu.pz 4 KA.nd (J1 Uq (pv 0) Jw)) (Jz (Pu.pz 5 KA.nd (fz ZJ hr (bz (pv 4) (jx K (pv 2) Jw)))) (Jz (Pu.pz 6 KA.nd (J1 Uq (J1 Uq (pv 4) Jw) (U7 (Gj rfl) (by rfl) G.max boot_max (bz Jw (ln K G.len (jx K (pv 2) Jw)))))) (Jz (JA (JL Xh (pv 3) Jw (JN _)) (J0 (J4 (JR (dz JZ (pv 5) (fz Zn hr (bz (pv 6) (fz Zh hr (bz (pv 1) (J1 JQ (J1 Uq (pv 6) Jw) (jx K (pv 1) Jw))))))))))
   JC) (Jz (JA (JL Xh (pv 3) Jw (JN _)) (J0 (J4 (JR (dz JZ (pv 5) (fz ZK hr (dz (pv 6) (jx K (pv 2) Jw) (pv 5)))))))
   JC) (Jz (JA (cq K hr (pv 3) Jw) (J0 (J4 (JR (bz JZ (pv 5)))))
   JC) (Jz (Pu.pz 7 KA.nd (fz Zq hr (bz (pv 4) (pv 1)))) (Ke (JA (PW.pt (Ks (cq K hr (pv 3) Jw) (Ks (JL UY (J1 JQ (pv 4) Jw) Jw (JN _)) (KI (JL (EA (K:=K) (show _<cLine from hr.units0)) (jx K (pv 2) Jw) (JH JY) (JN _)))))) (J0 (Pu.pz 7 KA.nd (jx K (jx K (pv 2) Jw) (J1 JQ (J1 Uq (pv 4) Jw) (ln K G.len (jx K (pv 2) Jw))))))
   JC) (Jz (JA (JL Xh (pv 3) Jw (JN _)) (J0 (J4 (JR (dz (jx K (JH (bz JZ JZ)) (J1 Uq (pv 3) Jw)) (jx K (pv 7) Jw) (jx K (pv 7) Jw)))))
   JC) (J0 (J4 (JR (az JZ)))))))))))))), (Jy (J7 (JP (Ju 0) Jv) (J2 3)) (Jy (J7 (Up (Ju 0) Jv) (J2 4)) (Jy (J7 (J9 (tz (Ju 4) (Jx (Ju 2) Jv))) (J2 5)) (Jy (J7 (Up (Up (Ju 4) Jv) (Do (tz Jv (JV (sz (Jx (Ju 2) Jv)))))) (J2 6)) (Jy (JD (J6 (Xf (Ju 3) Jv)) (JE 5 (J8 (JS (uz Ub (Ju 5) (J9 (tz (Ju 6) (J9 (tz (Ju 1) (JP (Up (Ju 6) Jv) (Jx (Ju 1) Jv)))))))))) JB) (Jy (JD (J6 (Xf (Ju 3) Jv)) (JE 5 (J8 (JS (uz Ub (Ju 5) (J9 (uz (Ju 6) (Jx (Ju 2) Jv) (Ju 5))))))) JB) (Jy (JD (J6 (Ua (Ju 3) Jv)) (JE 5 (J8 (JS (tz Ub (Ju 5))))) JB) (Jy (J7 (J9 (tz (Ju 4) (Ju 1))) (J2 7)) (Kp (JD (KL (J6 (Ua (Ju 3) Jv)) (KL (J6 (US (JP (Ju 4) Jv) Jv)) (J6 (Pz (Jx (Ju 2) Jv) (JI JJ))))) (J7 (Jx (Jx (Ju 2) Jv) (JP (Up (Ju 4) Jv) (JV (sz (Jx (Ju 2) Jv))))) (J2 7)) JB) (Jy (JD (J6 (Xf (Ju 3) Jv)) (J8 (JS (uz (Jx (JI (tz Ub Ub)) (Up (Ju 3) Jv)) (Jx (Ju 7) Jv) (Jx (Ju 7) Jv)))) JB) (J8 (JS (sz Ub)))))))))))))⟩) (.a fun ds R X h=>?_)
 ·obtain⟨c,m,f,w,es,rfl,hM,hz,hF,hw,hR,hB⟩:=h;refine⟨rfl,?_⟩;have hMM:=hM;have at1:atI (plD f::plD w::es) 1=some (plD w):=TH (by decide) rfl;have hl:(f.map prD).length=f.length:=Yn ..;have hlw:(w.map prD).length=w.length:=Yn ..;have hmx:∀z:Int,0<(if z>1 then z else 1)/\((if z>1 then z else 1)=z\/(if z>1 then z else 1)=1):=fun z=>by split<;>omega
  have hm1:=hmx (((f.map prD).length:Nat):Int);refine⟨(by show(0:Int)<9;decide),⟨by decide,by decide⟩,_,UR _ _,_,f,rfl,hz,fun p=>?_⟩;refine⟨⟨by decide,by decide⟩,_,UR _ _,⟨hm1.1,Int.lt_of_le_of_lt (b:=1000) (by rcases hm1.2 with w|w<;>rw[w]<;>omega) (by decide)⟩,?_⟩
  obtain⟨m0,m1,m2,m3,m4,em,ha,hb,hc,hd,he⟩:=hM;have i0:atI (m.map D.int) 0=some (.int m0):=by rw[em];rfl
  refine ite2 (fun _=>?_) (fun _=>ite2 (fun _=>?_) (fun _=>ite2 (fun _=>?_) (fun g4=>?_)))
  ·exact⟨⟨by decide,by decide⟩,_,i0,(by show 0<m0;omega),m,_,rfl,hMM,fun h _ _ _=>⟨_,_,rfl,fun v=>⟨by simp,hR (.sell p v)⟩⟩⟩
  ·exact⟨_,UR _ _,_,f,p,rfl,hz,hF,fun v=>⟨by simp,hR (.part p v)⟩⟩
  ·exact⟨by simp,hR (.unite p)⟩
  ·refine⟨_,m,rfl,hMM,fun a b=>?_⟩;refine Kg (fun γ'=>∃(a b:Int) (t1 t2 t3:Option S),γ'=[some (.sh (.int c)),some (.bor (.lst (m.map D.int))),some (.bor (.tup (plD f::plD w::es))),some (.sh (.int (c % 9))),t1,t2,t3,some (.sh (prD (a,b)))]) ?_ ?_
   ·refine ite2 (fun _=>⟨(by show(0:Int)<4;decide),ite2 (fun _=>⟨_,at1,by simp,?_⟩) (fun _=>iteF ⟨a,b,_,_,_,rfl⟩)⟩) (fun _=>iteF ⟨a,b,_,_,_,rfl⟩);have emp:(w.map prD).isEmpty=decide (w=[]):=by cases w<;>simp
    show if (!(w.map prD).isEmpty)=true then _ else _;rw[emp];refine ite2 (fun g=>?_) (fun g=>⟨a,b,_,_,_,rfl⟩);have hne:w≠[]:=fun z=>by rw[Ys z] at g;cases g
    have hp:0<w.length:=WB.mpr hne;have q1:=Qn (c / 9 / 4) (show(((w.map prD).length:Nat):Int)≠0 by omega);have q2:=WQ (c / 9 / 4) (show 0<(((w.map prD).length:Nat):Int) by omega);exact⟨_,at1,⟨by decide,by decide⟩,_,at1,(by show 0<(((w.map prD).length:Nat):Int);omega),_,Ko (f:=prD) (xs:=w) q1 (by omega),_,_,_,_,_,rfl⟩
   ·rintro γ' ⟨a,b,t1,t2,t3,rfl⟩;refine ite2 (fun g=>?_) (fun g=>⟨by simp,hB⟩);have g':c % 9<8:=Yv g;have hk:c % 9 / 7=0\/c % 9 / 7=1:=by omega
    have ex:∃k:Str,atI [D.str "wish",.str "drop"] (c % 9 / 7)=some (.str k)/\(k=("wish" : Str)\/k=("drop" : Str)):=by
     rcases hk with e|e<;>rw[e]
     ·exact⟨_,rfl,.inl rfl⟩
     ·exact⟨_,rfl,.inr rfl⟩
    obtain⟨k,ek,hk2⟩:=ex;refine⟨by simp,⟨by decide,by decide⟩,_,ek,_,UR _ _,_,SA _ _ (.inr rfl),by simp,?_⟩;rcases hk2 with rfl|rfl
    ·exact hR (.wish a b)
    ·exact hR (.drop a b)
def Zak (G:Glob K mg) (DD:Def K mg "check_no_ring" Fp ["strips","wishes"])
  (ZL:Ai P w K mg base)
  (Zi:NM P w K mg base)
  : FL P w K mg base:=by
 refine DD.oz (k:=3) E9 (fun _ _ _ _ _ _ E hr=>⟨_,(Jz (Pu.pz 2 E9.nd (fz ZL hr (bz (fz Zi hr (az (pv 0))) (pv 1)))) (J0 (JA (Ue (K:=K) (pv 2)) (J0 IW)
   JC))), (Jy (J7 (J9 (tz (J9 (sz (Ju 0))) (Ju 1))) (J2 2)) (JD (Ut (Ju 2)) Oo JB))⟩) (.a fun ds R X h=>?_)
 ·obtain⟨ps,ws,rfl,hF,hz,hu,hN,hR⟩:=h;refine⟨rfl,?_⟩;exact⟨ps,rfl,hF,hz,_,ws,rfl,Y7 (KM ps) (by decide),fun l hl t=>Zeq hu hN hl _ t (Yx _),iteF (A:=False) hR⟩
def Zdw (G:Glob K mg) (DD:Def K mg "_law_call" SD ["_law_village","_law_deed_here"])
  (ZM:Ej P w K mg base)
  (ZN:GA P w K mg base)
  (ZO:CF P w K mg base)
  (ZP:Ew P w K mg base)
  (ZQ:Dn P w K mg base)
  : Ct P w K mg base:=by
 refine DD.ox (k:=3) LA (fun _ _ _ _ _ _ E hr=>⟨_,(Jz (JA (cq K hr (jx K (pv 1) Jw) JZ) (J0 (J4 (XS ZN G.cl_Village (hr.mono (by decide)) ExcR.U1 (pv 0) (bz (jx K (pv 1) Jw) (jx K (pv 1) Jw)))))
   JC) (Jz (JA (cq K hr (jx K (pv 1) Jw) JZ) (J0 (J4 (XS ZO G.cl_Village (hr.mono (by decide)) ExcR.U1 (pv 0) (bz (jx K (pv 1) Jw) (jx K (pv 1) Jw)))))
   JC) (Jz (JA (cq K hr (jx K (pv 1) Jw) JZ) (J0 (J4 (XS ZP G.cl_Village (hr.mono (by decide)) ExcR.U1 (pv 0) (az (jx K (pv 1) Jw)))))
   JC) (Jz (JA (cq K hr (jx K (pv 1) Jw) JZ) (J0 (J4 (XS ZQ G.cl_Village (hr.mono (by decide)) ExcR.U1 (pv 0) (bz (jx K (pv 1) Jw) (jx K (pv 1) Jw)))))
   JC) (J0 (J4 (XS ZM G.cl_Village (hr.mono (by decide)) ExcR.U1 (pv 0) (bz (jx K (pv 1) Jw) (jx K (pv 1) Jw))))))))), (Jy (JD (J6 (Ua (Jx (Ju 1) Jv) Ub)) (XI (Tc 0 LP (tz (Jx (Ju 1) Jv) (Jx (Ju 1) Jv)))) JB) (Jy (JD (J6 (Ua (Jx (Ju 1) Jv) Ub)) (XI (Tc 0 Zbs (tz (Jx (Ju 1) Jv) (Jx (Ju 1) Jv)))) JB) (Jy (JD (J6 (Ua (Jx (Ju 1) Jv) Ub)) (XI (Tc 0 Zeb (sz (Jx (Ju 1) Jv)))) JB) (Jy (JD (J6 (Ua (Jx (Ju 1) Jv) Ub)) (XI (Tc 0 Mp (tz (Jx (Ju 1) Jv) (Jx (Ju 1) Jv)))) JB) (XI (Tc 0 OT (tz (Jx (Ju 1) Jv) (Jx (Ju 1) Jv))))))))⟩) (.c fun o ss R X h=>?_)
 ·obtain⟨x,b1,b2,b3,bk,fs,ws,f,w,d,rfl,rfl,hb,hf,hw,hz,hy,hR⟩:=h;refine⟨rfl,?_⟩;cases d with
  | sell p h=>
   refine⟨_,rfl,?_⟩;refine⟨rfl,rfl,_,rfl,_,rfl,x,b1,b2,b3,bk,fs,ws,f,w,p,h,rfl,rfl,hb,hf,hw,hz,?_⟩;have hR:UC (N7 bk f p h) (X (vO (ExcR.J3 mg "Village") x b1 b2 b3 bk (fs++[f]) (ws++[w]))) (R (vO (ExcR.J3 mg "Village") x b1 b2 b3 (bk++[(Dd.sell p h).q]) (fs++[f]++[(Dd.sell p h).fld f]) (ws++[w]++[(Dd.sell p h).wsh w])) (.int (bk.length+1))):=hR;cases e:N7 bk f p h with
   | some c=>rw[e] at hR;exact⟨_,rfl,⟨rfl,by simp⟩,hR⟩
   | none=>rw[e] at hR;exact⟨_,rfl,⟨rfl,by simp⟩,hR⟩
  | part p h=>
   refine⟨_,rfl,_,rfl,?_⟩;refine⟨rfl,rfl,_,rfl,_,rfl,x,b1,b2,b3,bk,fs,ws,f,w,p,h,rfl,rfl,hb,hf,hw,hz,?_⟩;have hR:UC (N5 bk f p h) (X (vO (ExcR.J3 mg "Village") x b1 b2 b3 bk (fs++[f]) (ws++[w]))) (R (vO (ExcR.J3 mg "Village") x b1 b2 b3 (bk++[(Dd.part p h).q]) (fs++[f]++[(Dd.part p h).fld f]) (ws++[w]++[(Dd.part p h).wsh w])) (.int (bk.length+1))):=hR;cases e:N5 bk f p h with
   | some c=>rw[e] at hR;exact⟨_,rfl,⟨rfl,by simp⟩,hR⟩
   | none=>rw[e] at hR;exact⟨_,rfl,⟨rfl,by simp⟩,hR⟩
  | unite p=>
   refine⟨_,rfl,_,rfl,_,rfl,?_⟩;refine⟨rfl,rfl,_,rfl,x,b1,b2,b3,bk,fs,ws,f,w,p,rfl,rfl,hb,hf,hw,hz,?_⟩;have hR:UC (Nn bk f p) (X (vO (ExcR.J3 mg "Village") x b1 b2 b3 bk (fs++[f]) (ws++[w]))) (R (vO (ExcR.J3 mg "Village") x b1 b2 b3 (bk++[(Dd.unite p).q]) (fs++[f]++[(Dd.unite p).fld f]) (ws++[w]++[(Dd.unite p).wsh w])) (.int (bk.length+1))):=hR;cases e:Nn bk f p with
   | some c=>rw[e] at hR;exact⟨_,rfl,⟨rfl,by simp⟩,hR⟩
   | none=>rw[e] at hR;exact⟨_,rfl,⟨rfl,by simp⟩,hR⟩
  | wish p h=>
   refine⟨_,rfl,_,rfl,_,rfl,_,rfl,?_⟩;refine⟨rfl,rfl,_,rfl,_,rfl,x,b1,b2,b3,bk,fs,ws,f,w,p,h,rfl,rfl,hb,hf,hw,hy,?_⟩;have hR:UC (NI bk w p h) (X (vO (ExcR.J3 mg "Village") x b1 b2 b3 bk (fs++[f]) (ws++[w]))) (R (vO (ExcR.J3 mg "Village") x b1 b2 b3 (bk++[(Dd.wish p h).q]) (fs++[f]++[(Dd.wish p h).fld f]) (ws++[w]++[(Dd.wish p h).wsh w])) (.int (bk.length+1))):=hR;cases e:NI bk w p h with
   | some c=>rw[e] at hR;exact⟨_,rfl,⟨rfl,by simp⟩,hR⟩
   | none=>rw[e] at hR;exact⟨_,rfl,⟨rfl,by simp⟩,hR⟩
  | drop p h=>
   refine⟨_,rfl,_,rfl,_,rfl,_,rfl,?_⟩;refine⟨rfl,rfl,_,rfl,_,rfl,x,b1,b2,b3,bk,fs,ws,f,w,p,h,rfl,rfl,hb,hf,hw,hy,?_⟩;have hR:UC (N6 bk w p h) (X (vO (ExcR.J3 mg "Village") x b1 b2 b3 bk (fs++[f]) (ws++[w]))) (R (vO (ExcR.J3 mg "Village") x b1 b2 b3 (bk++[(Dd.drop p h).q]) (fs++[f]++[(Dd.drop p h).fld f]) (ws++[w]++[(Dd.drop p h).wsh w])) (.int (bk.length+1))):=hR;cases e:N6 bk w p h with
   | some c=>rw[e] at hR;exact⟨_,rfl,⟨rfl,by simp⟩,hR⟩
   | none=>rw[e] at hR;exact⟨_,rfl,⟨rfl,by simp⟩,hR⟩
def MF (G:Glob K mg) (DD:Def K mg "_law_stands" Bh ["_law_village","_law_past"])
  (ZR:Gu P w K mg base)
  (Zw:AB P w K mg base)
  (ZS:Ck P w K mg base)
  (Zd:XO P w K mg base)
  (Zc:XY P w K mg base)
  : Al P w K mg base:=by
 refine DD.oz (k:=3) Za8 (fun _ _ _ _ _ _ E hr=>⟨_,(Jz (JA (Uv (Ue (K:=K) (fz Zw hr (bz (Uh Zd G.cl_Village (hr.mono (by decide)) Ui (pv 0)) (jx K (jx K (pv 1) (U9 UD Jw)) Jw))))) (J0 (J4 Ur))
   JC) (Jz (JA (Uv (Ue (K:=K) (fz Zw hr (bz (Uh Zc G.cl_Village (hr.mono (by decide)) Ui (pv 0)) (jx K (jx K (pv 1) (U9 UD Jw)) Jw))))) (J0 (J4 Ur))
   JC) (J0 (J4 (fz ZR hr (bz (Uh ZS G.cl_Village (hr.mono (by decide)) Ui (pv 0)) (UQ (N':=["_law_one"]) (φ:=[none]) rfl (Own.CompOk.of (by rfl)) (Ul (K:=K) (Xi (Xg (K:=K)) (pv 1) (UX Jw) Xo)) (fun _ _ _ _ _=>⟨(gz 0 (show(["_law_one"]:List Str).Nodup from by decide +kernel)),Xp,(jx K (pv 0) Jw)⟩)))))))), (Jy (JD (UM (Ut (J9 (tz (U3 Kn (Ju 0) JJ) (Jx (Jx (Ju 1) (U8 Jv)) Jv))))) (J8 Us) JB) (Jy (JD (UM (Ut (J9 (tz (U3 Kj (Ju 0) JJ) (Jx (Jx (Ju 1) (U8 Jv)) Jv))))) (J8 Us) JB) (J8 (J9 (tz (U3 Ri (Ju 0) JJ) (Uw (Mv (Ju 1) (Xa Jv) Xm) (J2 0) XD (Jx (Ju 0) Jv)))))))⟩) (.a fun ds R X h=>?_)
 ·obtain⟨f0,hs,rfl,hz,hf,hw,hR⟩:=h;refine⟨rfl,?_⟩;obtain⟨fs,ef,lf⟩:=P5 f0 hs;obtain⟨ws,ew,lw⟩:=Py hs;obtain⟨d,el⟩:=KU f0 hs;have h1:(curF f0 hs).length<=1000:=hf _ (by rw[ef];simp);have h2:(curW hs).length<=1000:=hw _ (by rw[ew];simp);have lb:=ND hs
  have bq:∀q∈bkH hs,q.2.length<=100:=fun q hq=>by
   unfold bkH at hq;obtain⟨h,_,rfl⟩:=YT.mp hq
   have:=h.1.q_len
   omega
  have ec:cutD (Uc f0 hs) (some 1) none=hs.map pstD:=by
   rw[PR _ (by decide)];rfl
  refine⟨rfl,rfl,bkH hs,fs,wsH hs,curF f0 hs,by rw[←ef];rfl,?_⟩;refine⟨_,el,_,rfl,curF f0 hs,rfl,by omega,iteF ?_⟩;refine⟨rfl,rfl,bkH hs,fsH f0 hs,ws,curW hs,by rw[←ew];rfl,?_⟩;refine⟨_,el,_,rfl,curW hs,rfl,by omega,iteF ?_⟩;refine⟨rfl,rfl,bkH hs,fsH f0 hs,wsH hs,rfl,?_⟩;show CompW _ _ _ _ _ (cutD (Uc f0 hs) (some 1) none).length (fun i=>arg ((cutD (Uc f0 hs) (some 1) none).getD i .non)) _;rw[ec];refine Zae (xs:=hs) (emb:=pstD) (fun h=>some (dD h.1.q)) (by omega) (fun h _=>?_) ?_
  ·refine⟨_,rfl,_,?_,rfl⟩;show(arg (dD h.1.q)).shd=_;rw[Ni];rfl
  ·rw[mapD (fun h:Dd×List (Int×Int)×List (Int×Int)=>dD h.1.q)]
   have eb:hs.map (fun h:Dd×List (Int×Int)×List (Int×Int)=>dD h.1.q)=(bkH hs).map dD:=by
    unfold bkH;rw[Wh];rfl
   rw[eb];exact⟨bkH hs,rfl,bq,by omega,hR⟩
def Zcf (G:Glob K mg) (DD:Def K mg "cost_table" BV ["strips","wishes"])
  (Zr:FL P w K mg base)
  (Zs:Bc P w K mg base)
  (Zt:Bz P w K mg base)
  : FA P w K mg base:=by
 refine DD.oz (k:=4) Ef (fun _ _ _ _ _ _ E hr=>⟨_,(Jz (Um (fz Zr hr (bz (pv 0) (pv 1)))) (Jz (Pu.pz 2 Ef.nd (fz Zs hr (dz (pv 0) (pv 1) (fz Zt hr (az (pv 0)))))) (J0 (J4 (X2 (Hu rfl) (by rfl) G.list boot_list (JG (Zbx (K:=K) (pv 2)) JY)))))), (Jy (Xc (J9 (tz (Ju 0) (Ju 1)))) (Jy (J7 (J9 (uz (Ju 0) (Ju 1) (J9 (sz (Ju 0))))) (J2 2)) (J8 (Zek (Ju 2)))))⟩) (.a fun ds R X h=>?_)
 ·obtain⟨ps,ws,rfl,hF,hz,hw,hu,hN,hR⟩:=h;refine⟨rfl,?_⟩;refine⟨ps,ws,rfl,hF,hz,hu,hN,ps,rfl,hF,hz,fun pa hpa=>⟨ps,ws,pa,pcc ps,rfl,hF,hz,hw,hu,hpa,Di hu hN,fun kvs T=>?_⟩⟩;have nd:(JF ps).Nodup:=(KB ps).imp (fun h=>Vp h);obtain⟨vs,e,hv⟩:=T.vals (Da nd);obtain⟨e1,e2⟩:=Au e;refine⟨kvs,rfl,e1,?_⟩;rw[e2];exact hR vs hv
def Zcm (G:Glob K mg) (DD:Def K mg "best_order" B8 ["strips","wishes"])
  (Zr:FL P w K mg base)
  (Zt:Bz P w K mg base)
  (Zs:Bc P w K mg base)
  (Zi:NM P w K mg base)
  (Zl:Nx P w K mg base)
  (ZT:G8 P w K mg base)
  (ZU:EN P w K mg base)
  : Ao P w K mg base:=by
 refine DD.oz (k:=4) Kw (fun _ _ _ _ _ _ E hr=>⟨_,(Jz (Um (fz Zr hr (bz (pv 0) (pv 1)))) (Jz (Pu.pz 2 Kw.nd (fz Zt hr (az (pv 0)))) (Jz (Pu.pz 3 Kw.nd (fz Zs hr (dz (pv 0) (pv 1) (pv 2)))) (Jz (Pu.pz 4 Kw.nd (X2 (Ca (K:=K)) (by rfl) G.tuple boot_tuple (az (fz Zi hr (az (pv 0)))))) (Jz (Pu.pz 5 Kw.nd (JH JY)) (Jz (Fi YI (Ue (K:=K) (pv 4)) (Jz (K9 (N':=["holder","members","wishes"]) (φ:=[none,some 4,some 1]) (i:=6) Kw.nd rfl rfl rfl (Own.CompOk.of (by rfl)) (PY (K:=K) (pv 4)) (fun _ _ _ _ _=>⟨(gz 0 (show(["holder","members","wishes"]:List Str).Nodup from by decide +kernel)),(Xr (Ue (K:=K) (fz ZT hr (dz (pv 1) (pv 0) (pv 2))))),(pv 0)⟩)) (Jz (K9 (N':=["first","members","least","pairs"]) (φ:=[none,some 4,some 3,some 2]) (i:=7) Kw.nd rfl rfl rfl (Own.CompOk.of (by rfl)) (Ul (K:=K) (pv 6)) (fun _ _ _ _ _=>⟨(gz 0 (show(["first","members","least","pairs"]:List Str).Nodup from by decide +kernel)),(Xr (cq K hr (fz ZU hr (JG (pv 1) (JG (pv 0) (JG (pv 2) (JG (pv 3) JY))))) (Tz (U6 hr) (pv 2) (pv 1) (fun _ _=>rfl)))),(pv 0)⟩)) (Jz (Um (XT YM Wi Wj XZ (pv 5) (az (jx K (pv 7) Jw)))) (J0 (Pu.pz 4 Kw.nd (fz Zl hr (bz (pv 4) (jx K (pv 7) Jw))))))))) (J0 (J4 (pv 5))))))))), (Jy (Xc (J9 (tz (Ju 0) (Ju 1)))) (Jy (J7 (J9 (sz (Ju 0))) (J2 2)) (Jy (J7 (J9 (uz (Ju 0) (Ju 1) (Ju 2))) (J2 3)) (Jy (J7 (A1 (sz (J9 (sz (Ju 0))))) (J2 4)) (Jy (J7 (JI JJ) (J2 5)) (Jy (FE [6,7] (Ut (Ju 4)) (Jy (J7 (Uw (SndI.c (TL (Ju 4))) (J2 0) (Ut (J9 (uz (Ju 1) (Ju 0) (Ju 2)))) (Ju 0)) (J2 6)) (Jy (J7 (Uw (UT (Ju 6)) (J2 0) (J6 (Ua (J9 (JK (Ju 1) (JK (Ju 0) (JK (Ju 2) (JK (Ju 3) JJ))))) (Tn (Ju 2) (Ju 1)))) (Ju 0)) (J2 7)) (Jy (P2 5 (Jx (Ju 7) Jv)) (J7 (J9 (tz (Ju 4) (Jx (Ju 7) Jv))) (J2 4)))))) (XH 5)))))))⟩) (.a fun ds R X h=>?_)
 ·obtain⟨ps,ws,rfl,hF,hz,hw,hu,hN,hR⟩:=h;refine⟨rfl,?_⟩;refine⟨ps,ws,rfl,hF,hz,hu,hN,ps,rfl,hF,hz,fun pa hpa=>⟨ps,ws,pa,pcc ps,rfl,hF,hz,hw,hu,hpa,Di hu hN,fun kvs T=>⟨ps,rfl,hF,hz,?_⟩⟩⟩;have hh:=KM ps;have hri:=KB ps;have nd:(JF ps).Nodup:=hri.imp (fun h=>Vp h);have hpa':∀x∈JF ps,∀y∈JF ps,valV pa [.inl x,.inl y]=some (.int (pcc ps x y)):=hpa;generalize pcc ps=c at *;generalize JF ps=hs at *
  refine⟨rfl,by simp,Bl (fun γ'=>∃(ms o:List Int),γ'=[some (.bor (.lst (ps.map prD))),some (.bor (.lst (ws.map prD))),some (.own (.dT pa)),some (.own (.dT kvs)),some (.sh (tD ms)),some (.own (o.map D.int)),none,none]/\ms∈JX hs/\o.length+ms.length<=10/\
   ∀p,Best ws c ms p->Best ws c hs (o++p)) IU ⟨hs,[],rfl,List.mem_of_getLast? (FQ hs),by simpa using hh,fun p hp=>hp⟩ ?_⟩
  rintro γ' ⟨ms,o,rfl,hms,hol,hB⟩;show if (!(ms.map D.int).isEmpty)=true then _ else _;refine ite2 (fun g=>?_) (fun g=>?_)
  ·have hsm:=Ts hs ms hms;have hne:ms≠[]:=fun e=>by subst e;simp at g
   have ndm:ms.Nodup:=nd.sublist hsm;have hrm:=hri.sublist hsm
   have hless:∀l∈ms,JO ms l∈JX hs:=fun l hl=>by
    obtain⟨k,hk,e⟩:=W6.mp hms;obtain⟨j,_,ej⟩:=CN nd k ms (by rw[Yo hk,e]) l hl;exact YE ej
   obtain⟨vs,hvs⟩:=CB fun l hl=>T.val _ (hless l hl);obtain⟨V,hV1,hV2⟩:=T.val ms hms;have hv2:∀l∈ms,Least ws c (JO ms l) (vs l):=fun l hl=>(hvs l hl).2
   have hsome:∃f rest,(ms.filter (fun h=>firstM ws ms h)).filter (fun f=>decide (vs f+((JO ms f).map (c f)).sum=V))=f::rest:=by
    obtain⟨q,q1,q2,q3⟩:=hV2.is;cases q with
    | nil=>exact absurd q1.nil_eq.symm hne
    | cons g p=>
     obtain⟨r1,r2,r3,_⟩:=DE ndm hu hv2 hV2 q1 q2 q3;exact List.exists_cons_of_ne_nil (List.ne_nil_of_mem (YO.mpr ⟨YO.mpr ⟨r1,r2⟩,Ys r3⟩))
   obtain⟨f,rest,ef⟩:=hsome;have hfm:f∈(ms.filter (fun h=>firstM ws ms h)).filter (fun f=>decide (vs f+((JO ms f).map (c f)).sum=V)):=by rw[ef];exact YK ..
   obtain⟨hfm,hf3⟩:=YO.mp hfm;obtain⟨hf1,hf2⟩:=YO.mp hfm
   have hmin:∀g∈ms,firstM ws ms g=true->vs g+((JO ms g).map (c g)).sum=V->f<=g:=fun g h1 h2 h3=>by
    have hg:g∈(ms.filter (fun h=>firstM ws ms h)).filter (fun f=>decide (vs f+((JO ms f).map (c f)).sum=V)):=YO.mpr ⟨YO.mpr ⟨h1,h2⟩,Ys h3⟩
    have hr:(f::rest).Pairwise (· < ·):=by
     rw[←ef];exact(hrm.filter _).filter _
    rw[ef] at hg;rcases Y5.mp hg with e|hg
    ·omega
    ·have:=(WN.mp hr).1 g hg
     omega
   refine⟨_,rfl,UG (s:=.sh .non) (xs:=ms) (emb:=D.int) (fun h=>if firstM ws ms h=true then some (.int h) else none) (by omega) (fun h hm=>?_) ?_⟩
   ·refine⟨ms,h,ws,rfl,hw,?_⟩;refine ite2 (fun g=>⟨_,rfl,Yr g⟩) (fun g=>Yq g)
   ·rw[X0 (fun h=>firstM ws ms h)];refine UG (xs:=ms.filter (fun h=>firstM ws ms h)) (emb:=D.int) (fun f=>if decide (vs f+((JO ms f).map (c f)).sum=V)=true then some (.int f) else none) (Y7 (Wk _ _) (by omega)) (fun l hl=>?_) ?_
    ·obtain⟨hl1,hl2⟩:=YO.mp hl;refine⟨ms,l,kvs,pa,c l,vs l,rfl,by omega,(hvs l hl1).1,fun m hm=>hpa' l (hsm.subset hl1) m (hsm.subset (less_sub.subset hm)),_,_,NC ms,hV1,rfl,?_⟩;refine ite2 (fun g=>⟨_,rfl,Yr g⟩) (fun g=>Yq g)
    ·rw[X0 (fun f=>decide (vs f+((JO ms f).map (c f)).sum=V)),ef];refine⟨_,UR _ _,by rw[Yn];omega,_,UR _ _,ms,f,rfl,by omega,⟨JO ms f,o++[f],?_,hless f hf1,?_,fun p hp=>?_⟩,?_⟩
     ·rw[YD];rfl
     ·have:=(Kk ndm hf1).length_eq
      rw[Yy];rw[YC] at this;show o.length+1+_<=10;omega
     ·rw[Vi];exact hB _ (HN ndm hu hv2 hV2 hf1 hf2 (Yv hf3) hmin hp)
     ·have:=(Kk ndm hf1).length_eq
      rw[YC] at this;show((JO ms f).map D.int).length<(ms.map D.int).length;rw[Yn,Yn];omega
  ·have e:ms=[]:=by
    cases ms with
    | nil=>rfl
    | cons a r=>exact absurd rfl g
   subst e
   have:=hB [] (MT ws c)
   rw[We] at this;exact hR o this
def Zej (G:Glob K mg) (DD:Def K mg "_law_go" SL ["_law_village","_law_past","_law_deed_here"])
  (ZV:Cf P w K mg base)
  (ZW:Ct P w K mg base)
  (Zj:PP P w K mg base)
  (ZX:A7 P w K mg base)
  : SJ P w K mg base:=by
 refine DD.oz (k:=4) BZ (fun _ _ _ _ _ _ E hr=>⟨_,(Jz (JA (cq K hr (jx K (pv 2) Jw) JZ) (Ke (JA (JL UY (ln K G.len (pv 1)) Jw (JN _)) (Jz (Um (Uh ZX G.cl_Village (hr.mono (by decide)) BY (pv 0))) (J0 (Um (Td YM Qw Qx TR (pv 1)))))
   JC) (J0 (J4 Ur)))
   JC) (Jz (Pu.pz 3 BZ.nd (fz ZV hr (bz (jx K (pv 1) (U9 UD Jw)) (pv 2)))) (Jz (JA (JL UY (jx K (pv 3) Jw) Jw (JN _)) (J0 (J4 Ur))
   JC) (Jz (Um (XT YM Wi Wj XZ (pv 1) (az (JR (dz (jx K (pv 3) Jw) (jx K (pv 3) Jw) (pv 2)))))) (Jz (Pu.pz 4 BZ.nd (UW ZW (hr.mono (by decide)) BY (bz (pv 0) (pv 2)))) (J0 (J4 (Tv (fz Zj hr (az (pv 4))) (Tq (K0 (PM (K:=K) (show _<cLine from hr.units0)) (pv 4) (J1 UK (ln K G.len (pv 1)) Jw) (JN _))))))))))), (Jy (JD (J6 (Ua (Jx (Ju 2) Jv) Ub)) (Kp (JD (J6 (US (JV (sz (Ju 1))) Jv)) (Jy (Pg (P8 0 Zbg JJ)) (Pg (Zay 1))) JB) (PB Us)) JB) (Jy (JE 2 (J7 (SR (tz (Jx (Ju 1) (U8 Jv)) (Ju 2))) (J2 3))) (Jy (JD (J6 (US (Jx (Ju 3) Jv) Jv)) (PB Us) JB) (Jy (JE 2 (P2 1 (JS (uz (Jx (Ju 3) Jv) (Jx (Ju 3) Jv) (Ju 2))))) (Jy (JE 2 (Zb8 (Zat 0 (sz (Ju 2))) (J2 4))) (PB (Ti (J9 (sz (Ju 4))) (Ua (Ju 4) (UL (JV (sz (Ju 1))) Jv)))))))))⟩) (.d fun o1 o2 ss R X h=>?_)
 ·obtain⟨x,b1,b2,b3,a,f0,hs,q,rfl,rfl,rfl,hz,hf,hor⟩:=h;refine⟨rfl,?_⟩;obtain⟨⟨h1,h2⟩,h3⟩:=hf.cur;rcases hor with⟨rfl,hR⟩|⟨d,rfl,hR⟩
  ·refine⟨_,rfl,?_⟩;refine Kg (fun γ'=>∃t1 t2 t3:Option S,γ'=[some (.own (vO (ExcR.J3 mg "Village") x b1 b2 b3 (bkH hs.dropLast) (fsH f0 hs.dropLast) (wsH hs.dropLast))),some (.own (.lsA a (Uc f0 hs.dropLast))),t1,t2,t3]) ?_ ?_
   ·rcases Wo hs with rfl|⟨h,y,rfl⟩
    ·exact⟨_,_,_,rfl⟩
    ·rw[W3,WI];have lp':(Uc f0 (h++[y])).length=h.length+2:=by rw[Nz,Yy,YZ]
     have g:(((Uc f0 (h++[y])).length:Nat):Int)>1:=by omega
     have el:(Uc f0 (h++[y]))[(Uc f0 (h++[y])).length-1]?=some (pstD y):=by
      rw[lp',NH,YN (by rw[Nz];omega),Nz];rw[show h.length+2-1-(h.length+1)=0 by omega];rfl
     have ed:(Uc f0 (h++[y])).dropLast=Uc f0 h:=by rw[NH,WI]
     show if decide ((((Uc f0 (h++[y])).length:Nat):Int)>1)=true then _ else _;rw[Ys g];refine iteT ⟨rfl,rfl,x,b1,b2,b3,bkH (h++[y]),fsH f0 (h++[y]),wsH (h++[y]),rfl,rfl,by rw[Zai,ND],by rw[RQ,ND],fun e=>?_,fun b0 q e=>?_⟩
     ·rw[NT] at e;simp at e
     ·rw[NT] at e;obtain⟨rfl,e2⟩:=List.append_inj' e rfl;cases e2
      rw[TM,Nb,WI,WI];refine⟨_,el,?_⟩;rw[ed];exact⟨_,_,_,rfl⟩
   ·rintro γ' ⟨t1,t2,t3,rfl⟩;exact⟨_,_,rfl,rfl,⟨rfl,by simp⟩,rfl,hR⟩
  ·obtain⟨fs,ef,lf⟩:=P5 f0 hs;obtain⟨ws,ew,lw⟩:=Py hs;obtain⟨dl,el⟩:=KU f0 hs;have lb:=ND hs;have lp:=Nz f0 hs;have nb:=d.not_back;refine⟨_,UR _ _,?_⟩;show if decide (d.q.1=("back" : Str))=true then _ else _;rw[YB nb];refine iteF ⟨_,el,curF f0 hs,curW hs,[dl],d,rfl,h2,h3.1,_,rfl,?_⟩;by_cases e:d.err (curF f0 hs) (curW hs)=none
   ·have ea:addH f0 hs d=hs++[(d,d.fld (curF f0 hs),d.wsh (curW hs))]:=by unfold addH;rw[Yr e]
    rw[ea] at hR;rw[NT,TM,Nb,NH,ef,ew] at hR;show if decide (codeN (d.err (curF f0 hs) (curW hs))>0)=true then _ else _;rw[e];refine iteF ⟨_,rfl,_,rfl,by simp,by omega,?_⟩;refine⟨x,b1,b2,b3,bkH hs,fs,ws,curF f0 hs,curW hs,d,by rw[←ef,←ew],rfl,by omega,by omega,by omega,by omega,by have:=h3.1;omega,?_⟩
    have ec:B4 (bkH hs) (curF f0 hs) (curW hs) d=none:=by
     unfold B4;rw[Yq (by omega),e]
    have en:d.nf (curF f0 hs) (curW hs)=d.fld (curF f0 hs):=by unfold Dd.nf;rw[Yr e]
    have ew':d.nw (curF f0 hs) (curW hs)=d.wsh (curW hs):=by unfold Dd.nw;rw[Yr e]
    rw[ec];have es:((((bkH hs).length:Nat):Int)+1=((((Uc f0 hs++[D.tup [plD (d.nf (curF f0 hs) (curW hs)),plD (d.nw (curF f0 hs) (curW hs)),dD d.q]]).length:Nat)):Int)-1):=by rw[Yy,YZ];omega
    refine⟨_,rfl,iteT ?_⟩;refine⟨_,_,rfl,rfl,⟨rfl,by simp⟩,rfl,?_⟩;rw[Ys es,en,ew'];exact hR
   ·have ea:addH f0 hs d=hs:=by unfold addH;rw[Yq e]
    rw[ea] at hR;show if decide (codeN (d.err (curF f0 hs) (curW hs))>0)=true then _ else _;rw[Ys (Dd.code_pos e)];exact iteT ⟨_,_,rfl,rfl,⟨rfl,by simp⟩,rfl,hR⟩
def Iv (G:Glob K mg) (DD:Def K mg "least_cost" Sx ["strips","wishes"])
  (Zu:FA P w K mg base)
  : Ap P w K mg base:=by
 refine DD.oz (k:=5) Lz (fun _ _ _ _ _ _ E hr=>⟨_,(J0 (J4 (jx K (fz Zu hr (bz (pv 0) (pv 1))) (U9 UD Jw)))), (J8 (Jx (J9 (tz (Ju 0) (Ju 1))) (U8 Jv)))⟩) (.a fun ds R X h=>?_)
 ·obtain⟨ps,ws,rfl,hF,hz,hw,hu,hN,hR⟩:=h;refine⟨rfl,?_⟩;refine⟨ps,ws,rfl,hF,hz,hw,hu,hN,fun vs hv=>?_⟩;have e1:=FQ (JF ps);rw[List.getLast?_eq_getElem?] at e1;have hi:=(YG.mp e1).1;have hl:=hv.1;obtain⟨v,h2⟩:∃v,vs[(JX (JF ps)).length-1]?=some v:=⟨_,Yo (by omega)⟩;have L:=hv.2 _ _ _ e1 h2;rw[←hl] at h2;exact⟨_,Kx (f:=D.int) (PH h2),hR _ L⟩
def Zds (G:Glob K mg) (DD:Pu.DefM K (Meth K (ExcR.J3 mg "Village") "order") "order" "Village.order" F4 ["self"])
  (ZY:Ao P w K mg base)
  (Zd:XO P w K mg base)
  (Zc:XY P w K mg base)
  : An P w K mg base:=by
 refine DD.oz (k:=5) L3 (fun _ _ _ _ _ _ E hr=>⟨_,(J0 (J4 (fz ZY hr (bz (Uh Zd G.cl_Village (hr.mono (by decide)) Ui (pv 0)) (Uh Zc G.cl_Village (hr.mono (by decide)) Ui (pv 0)))))), (J8 (J9 (tz (U3 Kn (Ju 0) JJ) (U3 Kj (Ju 0) JJ))))⟩) (.a fun ds R X h=>?_)
 ·obtain⟨bk,fs,ws,f,w,rfl,hF,hz,hw,hu,hN,hR⟩:=h;refine⟨rfl,?_⟩;exact⟨rfl,rfl,bk,fs,ws++[w],f,rfl,rfl,rfl,bk,fs++[f],ws,w,rfl,f,w,rfl,hF,hz,hw,hu,hN,hR⟩
def Zb1 (G:Glob K mg) (DD:Pu.DefM K (Meth K (ExcR.J3 mg "Village") "table") "table" "Village.table" F5 ["self"])
  (Zu:FA P w K mg base)
  (Zd:XO P w K mg base)
  (Zc:XY P w K mg base)
  : A9 P w K mg base:=by
 refine DD.oz (k:=5) Zb9 (fun _ _ _ _ _ _ E hr=>⟨_,(J0 (J4 (fz Zu hr (bz (Uh Zd G.cl_Village (hr.mono (by decide)) Ui (pv 0)) (Uh Zc G.cl_Village (hr.mono (by decide)) Ui (pv 0)))))), (J8 (J9 (tz (U3 Kn (Ju 0) JJ) (U3 Kj (Ju 0) JJ))))⟩) (.a fun ds R X h=>?_)
 ·obtain⟨bk,fs,ws,f,w,rfl,hF,hz,hw,hu,hN,hR⟩:=h;refine⟨rfl,?_⟩;exact⟨rfl,rfl,bk,fs,ws++[w],f,rfl,rfl,rfl,bk,fs++[f],ws,w,rfl,f,w,rfl,hF,hz,hw,hu,hN,hR⟩
def HP (G:Glob K mg) (DD:Def K mg "_law_no_rings" Bq ["_law_village","_law_past"])
  (ZZ:ER P w K mg base)
  (Zv:FG P w K mg base)
  (Zm:SJ P w K mg base)
  : DJ P w K mg base:=by
 refine DD.oz (k:=5) GN (fun _ _ _ _ _ _ E hr=>⟨_,(Jz (Fi YI (Uv (Ue (K:=K) (fz ZZ hr (bz (fz Zv hr (az (jx K (jx K (pv 1) (U9 UD Jw)) Jw))) (jx K (jx K (pv 1) (U9 UD Jw)) Jw))))) (Jz (Pu.pz 2 GN.nd (jx K (jx K (jx K (pv 1) (U9 UD Jw)) Jw) (U9 UD Jw))) (J0 (JA (Uv (Ue (K:=K) (fz Zm hr (dz (pv 0) (pv 1) (JR (dz JZ (jx K (pv 2) Jw) (jx K (pv 2) Jw))))))) (J0 (J4 Ur))
   JC)))) (J0 (J4 Ur))), (Jy (FE [2] (UM (Ut (J9 (tz (J9 (sz (Jx (Jx (Ju 1) (U8 Jv)) Jv))) (Jx (Jx (Ju 1) (U8 Jv)) Jv))))) (Jy (J7 (Jx (Jx (Jx (Ju 1) (U8 Jv)) Jv) (U8 Jv)) (J2 2)) (Po 1 (T3 (Th (sv_w (PQ 0 1 (by decide) (sz (JS (uz Ub (Jx (Ju 2) Jv) (Jx (Ju 2) Jv))))))) (PB Us) JB)))) (PB Us))⟩) (.d fun o1 o2 ss R X h=>?_)
 ·obtain⟨x,b1,b2,b3,a,f0,hs,rfl,rfl,rfl,hz,hf,hR⟩:=h;refine⟨rfl,?_⟩;refine Bl (fun γ'=>∃hs':Hist,γ'=[some (.own (vO (ExcR.J3 mg "Village") x b1 b2 b3 (bkH hs') (fsH f0 hs') (wsH hs'))),some (.own (.lsA a (Uc f0 hs'))),none]/\hs'.length+(curW hs').length<=hs.length+20/\FineH f0 hs'/\curF f0 hs'=curF f0 hs) Zau ⟨hs,rfl,by have:=hf.cur.2.1;omega,hf,rfl⟩ ?_;rintro γ' ⟨hs',rfl,hl,hf',hc⟩;obtain⟨⟨c1,c2⟩,c3⟩:=hf'.cur;obtain⟨dl,el⟩:=KU f0 hs';have hu:∀q∈curW hs',q.1≠q.2:=fun q hq=>(c3.2.2 q hq).2;refine⟨_,el,_,rfl,curF f0 hs',rfl,by omega,_,el,_,rfl,JF (curF f0 hs'),curW hs',rfl,by have:=KM (curF f0 hs');omega,by have:=c3.1;omega,?_⟩;refine ite2 (fun g=>?_) (fun g=>?_)
  ·have hne:¬Ug (curW hs') (JF (curF f0 hs')) (JF (curF f0 hs')).length=[]:=fun z=>by rw[Ys z] at g;cases g
   have hR1:∃r,Ring (JF (curF f0 hs')) (curW hs') r:=YV fun z=>hne ((Eo hu).mpr z)
   have hne2:curW hs'≠[]:=fun z=>by
    obtain⟨r,R0⟩:=hR1;rw[z] at R0;exact HL R0
   obtain⟨q,hq,eq⟩:=Zb7 prD hne2;have h4:=RJ (f0:=f0) hq;have h5:=Ld hq;refine⟨_,el,_,rfl,_,eq,?_⟩;refine⟨_,UR _ _,_,SA _ _ (.inr rfl),by simp,?_⟩;refine⟨x,b1,b2,b3,a,f0,hs',_,rfl,rfl,rfl,by omega,hf',.inr ⟨.drop q.1 q.2,rfl,?_⟩⟩;have hk:=hf'.add (.drop q.1 q.2);rw[h4] at hk ⊢;refine⟨⟨_,rfl,?_,hk,?_⟩,?_⟩
   ·rw[Na,Yy,YZ];show _+(XN (curW hs') q.1 q.2).length<=_;omega
   ·rw[B3];exact hc
   ·show KR (Uc f0 (hs'++[_]))<KR (Uc f0 hs');rw[Dp,Dp,Na];exact h5
  ·have hN:¬ ∃r,Ring (JF (curF f0 hs')) (curW hs') r:=(Eo hu).mp (YV fun z=>g (by rw[YB z];rfl));exact⟨_,_,rfl,rfl,⟨rfl,by simp⟩,rfl,hR hs' (by omega) hf' hN hc⟩
def Zaj (G:Glob K mg) (DD:Pu.DefM K (Meth K (ExcR.J3 mg "Village") "cost") "cost" "Village.cost" BK ["self"])
  (Ya:Ap P w K mg base)
  (Zd:XO P w K mg base)
  (Zc:XY P w K mg base)
  : AY P w K mg base:=by
 refine DD.oz (k:=6) Ro (fun _ _ _ _ _ _ E hr=>⟨_,(J0 (J4 (fz Ya hr (bz (Uh Zd G.cl_Village (hr.mono (by decide)) Ui (pv 0)) (Uh Zc G.cl_Village (hr.mono (by decide)) Ui (pv 0)))))), (J8 (J9 (tz (U3 Kn (Ju 0) JJ) (U3 Kj (Ju 0) JJ))))⟩) (.a fun ds R X h=>?_)
 ·obtain⟨bk,fs,ws,f,w,rfl,hF,hz,hw,hu,hN,hR⟩:=h;refine⟨rfl,?_⟩;exact⟨rfl,rfl,bk,fs,ws++[w],f,rfl,rfl,rfl,bk,fs++[f],ws,w,rfl,f,w,rfl,hF,hz,hw,hu,hN,hR⟩
def HU (G:Glob K mg) (DD:Def K mg "law" Ka ["_law_script"])
  (Yb:GC P w K mg base)
  (Yc:D7 P w K mg base)
  (Yd:AX P w K mg base)
  (Ye:DG P w K mg base)
  (Yf:CI P w K mg base)
  (Zx:Ga P w K mg base)
  (Zy:AN P w K mg base)
  (Yg:Dh P w K mg base)
  (Yh:DJ P w K mg base)
  (Zz:An P w K mg base)
  (Z0:A9 P w K mg base)
  (Zo:AF P w K mg base)
  (Yi:Et P w K mg base)
  (Yj:Al P w K mg base)
  (Zm:SJ P w K mg base)
  (Zv:FG P w K mg base)
  (Ze:Pa P w K mg base)
  (Zb:KO P w K mg base)
  (Yk:DO P w K mg base)
  (Yl:A0 P w K mg base)
  (Ym:AY P w K mg base)
  : Zd8 P w K mg base:=by
 refine DD.oz (k:=7) X7 (fun _ _ _ _ _ _ E hr=>⟨_,(Jz (Pu.pz 1 X7.nd (fz Yb hr (az (fz Yg hr (bz (pv 0) Jw))))) (Jz (Pu.pz 2 X7.nd (fz Yc hr (dz (pv 0) (pv 1) (J1 JQ (J1 Uq (fz Zb hr (bz (pv 0) Jw)) Jw) Jw)))) (Jz (Pu.pz 3 X7.nd (LL Yd G.m_Village (hr.mono (by decide)) BY (az (X2 (KS (K:=K)) (by rfl) G.list boot_list (az (pv 2)))))) (Jz (Pu.pz 4 X7.nd (JH (az (JR (dz (pv 2) (JH JY) (JR JY)))))) (Jz (U4 YI rfl (Ul (K:=K) (fz Ye hr (bz (pv 0) (pv 1)))) (gz 5 X7.nd) (J0 (JA (Uv (Ue (K:=K) (fz Zm hr (dz (pv 3) (pv 4) (pv 5))))) (J0 (J4 Ur))
   JC))) (Jz (U4 YI rfl (Ul (K:=K) (fz Yf hr (bz (pv 0) Jw))) (gz 6 X7.nd) (J0 (JA (Uv (Ue (K:=K) (fz Zm hr (dz (pv 3) (pv 4) (fz Yk hr (dz (pv 6) (pv 1) (jx K (pv 4) (U9 UD Jw)))))))) (J0 (J4 Ur))
   JC))) (Jz (JA (Uv (Ue (K:=K) (fz Yh hr (bz (pv 3) (pv 4))))) (J0 (J4 Ur))
   JC) (Jz (Pu.pz 7 X7.nd (fz Zx hr (az (Uh Zz G.cl_Village (hr.mono (by decide)) Ui (pv 3))))) (Jz (Pu.pz 8 X7.nd (fz Zx hr (az (Uh Z0 G.cl_Village (hr.mono (by decide)) Ui (pv 3))))) (Jz (JA (Uv (Ue (K:=K) (fz Zo hr (bz (U7 (Bm (K:=K) (w:=w) rfl) (by rfl) G.sorted boot_sorted (az (pv 7))) (fz Zv hr (az (jx K (jx K (pv 4) (U9 UD Jw)) Jw))))))) (J0 (J4 Ur))
   JC) (Ke (Pu.pz 9 X7.nd (fz Zy hr (bz (jx K (jx K (pv 4) (U9 UD Jw)) Jw) (pv 7)))) (Jz (U4 YI rfl (X4 rfl G.range (az (J1 JT Jw (J1 JQ (fz Yl hr (az (pv 0))) Jw)))) (gz 10 X7.nd) (Ke (Pu.pz 5 X7.nd (fz Yi hr (bz (fz Ze hr (bz (fz Zb hr (bz (pv 0) Jw)) (pv 10))) (jx K (jx K (pv 4) (U9 UD Jw)) Jw)))) (Ke (JA (PW.pt (Ks (cn K hr (jx K (pv 5) Jw) JZ) (KI (Uv (Ue (K:=K) (fz Zm hr (dz (pv 3) (pv 4) (pv 5)))))))) (J0 (J4 Ur))
   JC) (J0 (JA (Uv (Ue (K:=K) (fz Zo hr (bz (JH (bz (Uh Ym G.cl_Village (hr.mono (by decide)) Ui (pv 3)) (fz Zy hr (bz (jx K (jx K (pv 4) (U9 UD Jw)) Jw) (pv 7))))) (JH (bz (pv 9) (pv 9))))))) (J0 (J4 Ur))
   JC))))) (Jz (JA (PW.pt (Uy (Uv (Ue (K:=K) (fz Zo hr (bz (Uh Zz G.cl_Village (hr.mono (by decide)) Ui (pv 3)) (pv 7))))) (UA (Uv (Ue (K:=K) (fz Zo hr (bz (Uh Z0 G.cl_Village (hr.mono (by decide)) Ui (pv 3)) (pv 8)))))))) (J0 (J4 Ur))
   JC) (J0 (J4 (Tv (K0 (PM (K:=K) (show _<cLine from hr.units0)) (jx K (pv 8) (U9 UD Jw)) (pv 9) (JN _)) (Tq (fz Yj hr (bz (pv 3) (pv 4)))))))))))))))))))), (Jy (J7 (J9 (sz (J9 (tz (Ju 0) Jv)))) (J2 1)) (Jy (J7 (J9 (uz (Ju 0) (Ju 1) (JP (Up (J9 (tz (Ju 0) Jv)) Jv) Jv))) (J2 2)) (Jy (J7 (OF (sz (KE (sz (Ju 2))))) (J2 3)) (Jy (JE 2 (J7 (JI (sz (JS (uz (Ju 2) (JI JJ) (JS JJ))))) (J2 4))) (Jy (Po 4 (U5 [5] (X3 (J9 (tz (Ju 0) (Ju 1)))) (J2 5) (JE 5 (Po 4 (T3 (Th (sv_w (PQ 3 4 (by decide) (sz (Ju 5))))) (J8 Us) JB))))) (Jy (U5 [6] (X3 (J9 (tz (Ju 0) Jv))) (J2 6) (Po 4 (T3 (Th (sv_w (PQ 3 4 (by decide) (sz (J9 (uz (Ju 6) (Ju 1) (Jx (Ju 4) (U8 Jv)))))))) (J8 Us) JB))) (Jy (Po 4 (T3 (Th (sv_w (PQ 3 4 (by decide) JJ))) (J8 Us) JB)) (Jy (J7 (J9 (sz (U3 CD (Ju 3) JJ))) (J2 7)) (Jy (J7 (J9 (sz (U3 AR (Ju 3) JJ))) (J2 8)) (Jy (JD (UM (Ut (J9 (tz (Bo (sz (Ju 7))) (J9 (sz (Jx (Jx (Ju 4) (U8 Jv)) Jv))))))) (J8 Us) JB) (Kp (J7 (J9 (tz (Jx (Jx (Ju 4) (U8 Jv)) Jv) (Ju 7))) (J2 9)) (Jy (U5 [5,10] (XA (sz (JU Jv (JP (J9 (sz (Ju 0))) Jv)))) (J2 10) (Kp (J7 (J9 (tz (J9 (tz (J9 (tz (Ju 0) Jv)) (Ju 10))) (Jx (Jx (Ju 4) (U8 Jv)) Jv))) (J2 5)) (Kp (JE 5 (Po 4 (T3 (O9 (sv_p (J6 (Xv (Jx (Ju 5) Jv) Ub))) (Th (sv_w (PQ 3 4 (by decide) (sz (Ju 5)))))) (J8 Us) JB))) (JD (UM (Ut (J9 (tz (JI (tz (U3 Zb2 (Ju 3) JJ) (J9 (tz (Jx (Jx (Ju 4) (U8 Jv)) Jv) (Ju 7))))) (JI (tz (Ju 9) (Ju 9))))))) (J8 Us) JB)))) (Jy (JD (U0 (UM (Ut (J9 (tz (U3 CD (Ju 3) JJ) (Ju 7))))) (UM (Ut (J9 (tz (U3 AR (Ju 3) JJ) (Ju 8)))))) (J8 Us) JB) (J8 (Ti (Ua (Jx (Ju 8) (U8 Jv)) (Ju 9)) (J9 (tz (Ju 3) (Ju 4))))))))))))))))))⟩) (.a fun ds R X h=>?_)
 ·obtain⟨ns,rfl,hR⟩:=h;refine⟨rfl,?_⟩;refine⟨ns,0,rfl,by decide,fun c0=>⟨c0,rfl,fun m hM=>?_⟩⟩;refine⟨ns,0,rfl,by decide,⟨by decide,by decide⟩,(by show(0:Int)<37;decide),ns,m,_,rfl,hM,by omega,by omega,fun ps hF hlen=>?_⟩;have hz:ps.length<=40:=by omega
  refine⟨rfl,fun x=>⟨x,ps,rfl,rfl,by omega,?_⟩⟩;rw[Rc hF hz];refine fun b1 b2 b3=>⟨rfl,?_⟩;refine⟨by simp,by simp,by simp,by simp,fun a=>?_⟩;refine⟨ns,m,rfl,hM,fun qs hq=>?_⟩;refine⟨rfl,X1 (xs:=qs) (emb:=fun q:Int×Int=>dD (Dd.wish q.1 q.2).q) (fun i γ'=>∃hs:Hist,hs.length<=i/\FineH ps hs/\γ'=[some (.bor (.scr ns)),some (.own (m.map D.int)),some (.sh (plD ps)),some (.own (vO (ExcR.J3 mg "Village") x b1 b2 b3 (bkH hs) (fsH ps hs) (wsH hs))),some (.own (.lsA a (Uc ps hs))),none,none,none,none,none,none]) ?_ ?_ ?_⟩
  ·exact⟨[],Wy _,FineH.nil hF hz,rfl⟩
  ·rintro i γ' hi ⟨hs,h1,h2,rfl⟩;refine⟨x,b1,b2,b3,a,ps,hs,_,rfl,rfl,rfl,by omega,h2,.inr ⟨.wish qs[i].1 qs[i].2,rfl,?_⟩⟩;refine iteF ?_;exact⟨addH ps hs (.wish qs[i].1 qs[i].2),by have:=Bn ps hs (.wish qs[i].1 qs[i].2);omega,h2.add _,rfl⟩
  rintro γ' ⟨hs,h1,h2,rfl⟩;refine⟨ns,6,rfl,by decide,by decide,fun cs hc=>?_⟩;refine⟨rfl,X1 (xs:=cs) (emb:=D.int) (fun i γ'=>∃hs:Hist,hs.length<=24+i/\FineH ps hs/\γ'=[some (.bor (.scr ns)),some (.own (m.map D.int)),some (.sh (plD ps)),some (.own (vO (ExcR.J3 mg "Village") x b1 b2 b3 (bkH hs) (fsH ps hs) (wsH hs))),some (.own (.lsA a (Uc ps hs))),none,none,none,none,none,none]) ?_ ?_ ?_⟩
  ·exact⟨hs,by omega,h2,rfl⟩
  ·rintro i γ' hi ⟨hs,h1,h2,rfl⟩;obtain⟨⟨c1,c2⟩,c3⟩:=h2.cur;obtain⟨dl,el⟩:=KU ps hs;refine⟨_,el,_,m,curF ps hs,curW hs,[dl],rfl,hM,by omega,c1,by have:=c3.1;omega,fun d=>?_,?_⟩
   ·refine⟨x,b1,b2,b3,a,ps,hs,_,rfl,rfl,rfl,by omega,h2,.inr ⟨d,rfl,?_⟩⟩;have la:=Bn ps hs d;exact⟨addH ps hs d,by omega,h2.add d,rfl⟩
   ·refine⟨x,b1,b2,b3,a,ps,hs,_,rfl,rfl,rfl,by omega,h2,.inl ⟨rfl,?_⟩⟩;have la:hs.dropLast.length<=hs.length:=by rw[List.length_dropLast];omega
    exact⟨hs.dropLast,by omega,h2.back,rfl⟩
  rintro γ' ⟨hs,h1,h2,rfl⟩;refine⟨x,b1,b2,b3,a,ps,hs,rfl,rfl,rfl,by omega,h2,fun hs h1' h2 hN _=>?_⟩;have hl0:hs.length<=50:=by omega
  clear h1' h1 hc;obtain⟨⟨c1,c2⟩,c3⟩:=h2.cur;obtain⟨dl,el⟩:=KU ps hs;obtain⟨fs,ef,lf⟩:=P5 ps hs;obtain⟨ws,ew,lw⟩:=Py hs;have hu:∀q∈curW hs,q.1≠q.2:=fun q hq=>(c3.2.2 q hq).2;have hw:=c3.1;refine⟨rfl,rfl,bkH hs,fs,ws,curF ps hs,curW hs,by rw[←ef,←ew];rfl,c1,by omega,by omega,hu,hN,fun o hB=>⟨o,rfl,?_⟩⟩;refine⟨rfl,rfl,bkH hs,fs,ws,curF ps hs,curW hs,by rw[←ef,←ew];rfl,c1,by omega,by omega,hu,hN,fun vs hV=>⟨vs,rfl,?_⟩⟩;have hh:=KM (curF ps hs);have hol:=hB.perm.length_eq;have lo:(o.map D.int).length=o.length:=Yn ..;refine⟨o,rfl,by omega,fun ss hp hs'=>?_⟩;have es:=OG hB.perm hp hs';subst es;refine⟨_,el,_,rfl,curF ps hs,rfl,by omega,JF (curF ps hs),rfl,by omega,iteF ?_⟩;have hL:Least (curW hs) (pcc (curF ps hs)) (JF (curF ps hs)) (oc (pcc (curF ps hs)) o):=⟨⟨o,hB.perm,hB.keeps,rfl⟩,hB.le⟩;have epri:=D6 c1 hB.perm;refine Kg (fun γ'=>∃v,v=priM (curF ps hs) o (curF ps hs).length/\γ'=[some (.bor (.scr ns)),some (.own (m.map D.int)),some (.sh (plD ps)),some (.own (vO (ExcR.J3 mg "Village") x b1 b2 b3 (bkH hs) (fsH ps hs) (wsH hs))),some (.own (.lsA a (Uc ps hs))),none,none,some (.own (o.map D.int)),some (.own (vs.map D.int)),some (.sh (.int v)),none]) ⟨_,el,_,rfl,curF ps hs,o,rfl,c1,by omega,Gy c1 hB.perm,_,rfl,rfl⟩ ?_;rintro γ' ⟨v,ev,rfl⟩;have ev2:v=oc (pcc (curF ps hs)) o:=ev.trans epri.symm;rw[←ev2] at hL;clear epri ev;generalize eW:curW hs=W at hB hL hN hV hu hw;generalize eH:JF (curF ps hs)=HH at hB hL hN hV hh hol;generalize ec:pcc (curF ps hs)=c at hB hL hV ev2
  have lv:vs.length<=1024:=by
   have e1:=hV.1;rw[FT] at e1
   have:2 ^ HH.length<=2 ^ 10:=QY (by decide) hh
   omega
  obtain⟨vl,evl,hvl⟩:=Pu.TabV.last hV;obtain rfl:=hvl.uniq hL;refine⟨ns,rfl,fun sp=>⟨(by show(0:Int)<6;decide),⟨by omega,by omega⟩,XM (fun i γ'=>∃hs:Hist,hs.length<=50+i/\FineH ps hs/\curW hs=W/\JF (curF ps hs)=HH/\pcc (curF ps hs)=c/\γ'=[some (.bor (.scr ns)),some (.own (m.map D.int)),some (.sh (plD ps)),some (.own (vO (ExcR.J3 mg "Village") x b1 b2 b3 (bkH hs) (fsH ps hs) (wsH hs))),some (.own (.lsA a (Uc ps hs))),none,none,some (.own (o.map D.int)),some (.own (vs.map D.int)),some (.sh (.int vl)),none]) ⟨hs,by omega,h2,eW,eH,ec,rfl⟩ ?_ ?_⟩⟩
  ·rintro i γ' hi ⟨hs,h1,h2,eW,eH,ec,rfl⟩;have hi':i<(1+sp % 6).toNat:=hi;obtain⟨⟨c1,c2⟩,c3⟩:=h2.cur;obtain⟨dl,el⟩:=KU ps hs;refine Kg (fun γ'=>∃(q:D) (t3:Option S),(q=.tup [.str "back"]\/∃d:Dd,q=dD d.q/\curW (addH ps hs d)=W/\JF (curF ps (addH ps hs d))=HH/\pcc (curF ps (addH ps hs d))=c)/\γ'=[some (.bor (.scr ns)),some (.own (m.map D.int)),some (.sh (plD ps)),some (.own (vO (ExcR.J3 mg "Village") x b1 b2 b3 (bkH hs) (fsH ps hs) (wsH hs))),some (.own (.lsA a (Uc ps hs))),some (.sh q),none,some (.own (o.map D.int)),some (.own (vs.map D.int)),some (.sh (.int vl)),t3]) ?_ ?_
   ·refine⟨ns,2,rfl,by decide,_,_,rfl,_,el,_,rfl,_,curF ps hs,rfl,c1,c2,fun p hp=>?_,fun p u p1 p2 u1 u2=>?_,⟨_,_,.inl rfl,rfl⟩⟩
    ·refine⟨_,_,.inr ⟨.unite p,rfl,?_⟩,rfl⟩
     have ea:addH ps hs (.unite p)=hs++[(.unite p,uniL (curF ps hs) p,curW hs)]:=by
      unfold addH;rw[Yr (show(Dd.unite p).err (curF ps hs) (curW hs)=none from hp)]
      rfl
     have hs1:=Zcd hp;rw[ea,Na,B3];exact⟨eW,hs1.2.trans eH,by rw[←ec];funext z w;exact hs1.1 z w⟩
    ·refine⟨_,_,.inr ⟨.part p u,rfl,?_⟩,rfl⟩;by_cases e:(Dd.part p u).err (curF ps hs) (curW hs)=none
     ·have ea:addH ps hs (.part p u)=hs++[(.part p u,UO (curF ps hs) p u,curW hs)]:=by
       unfold addH;rw[Yr e];rfl
      have hs1:=Mi (w:=u) p1 p2;rw[ea,Na,B3];exact⟨eW,hs1.2.trans eH,by rw[←ec];funext z w;exact hs1.1 z w⟩
     ·have ea:addH ps hs (.part p u)=hs:=by unfold addH;rw[Yq e]
      rw[ea];exact⟨eW,eH,ec⟩
   rintro γ' ⟨q,t3,hq,rfl⟩;refine Kg (fun γ'=>∃(hs:Hist) (t1 t3:Option S),hs.length<=50+(i+1)/\FineH ps hs/\curW hs=W/\JF (curF ps hs)=HH/\pcc (curF ps hs)=c/\γ'=[some (.bor (.scr ns)),some (.own (m.map D.int)),some (.sh (plD ps)),some (.own (vO (ExcR.J3 mg "Village") x b1 b2 b3 (bkH hs) (fsH ps hs) (wsH hs))),some (.own (.lsA a (Uc ps hs))),t1,none,some (.own (o.map D.int)),some (.own (vs.map D.int)),some (.sh (.int vl)),t3]) ?_ ?_
   ·rcases hq with rfl|⟨d,rfl,e1,e2,e3⟩
    ·exact⟨_,rfl,hs,_,_,by omega,h2,eW,eH,ec,rfl⟩
    ·refine⟨_,UR _ _,?_⟩;show if (!decide (d.q.1=("back" : Str)))=true then _ else _;rw[YB d.not_back];refine iteT ⟨x,b1,b2,b3,a,ps,hs,_,rfl,rfl,rfl,by omega,h2,.inr ⟨d,rfl,?_⟩⟩;have la:=Bn ps hs d;exact⟨addH ps hs d,_,_,by omega,h2.add d,e1,e2,e3,rfl⟩
   ·clear el eW eH ec h2 c1 c2 c3 h1;rintro γ' ⟨hs,t1,t3,h1,h2,eW,eH,ec,rfl⟩;obtain⟨⟨c1,c2⟩,c3⟩:=h2.cur;obtain⟨dl,el⟩:=KU ps hs;obtain⟨fs,ef,lf⟩:=P5 ps hs;obtain⟨ws,ew,lw⟩:=Py hs;refine⟨rfl,rfl,bkH hs,fs,ws,curF ps hs,curW hs,by rw[←ef,←ew];rfl,c1,by omega,by rw[eW];omega,by rw[eW];exact hu,by rw[eW,eH];exact hN,fun u hL2=>?_⟩;rw[eW,eH,ec] at hL2;obtain rfl:=hL2.uniq hL;have hpm:o.Perm (JF (curF ps hs)):=by rw[eH];exact hB.perm
    refine⟨_,el,_,rfl,curF ps hs,o,rfl,c1,by omega,Gy c1 hpm,?_⟩;rw[←D6 c1 hpm]
    have e9:oc (fun x y=>pcM (curF ps hs) x y (curF ps hs).length) o=u:=by
     rw[ev2,←ec];rfl
    rw[e9];exact⟨by simp,by simp,[u,u],rfl,by simp,iteF ⟨hs,by omega,h2,eW,eH,ec,rfl⟩⟩
  ·rintro γ' ⟨hs,h1,h2,eW,eH,ec,rfl⟩;obtain⟨⟨c1,c2⟩,c3⟩:=h2.cur;obtain⟨fs,ef,lf⟩:=P5 ps hs;obtain⟨ws,ew,lw⟩:=Py hs;refine⟨rfl,rfl,bkH hs,fs,ws,curF ps hs,curW hs,by rw[←ef,←ew];rfl,c1,by omega,by rw[eW];omega,by rw[eW];exact hu,by rw[eW,eH];exact hN,fun o2 hB2=>?_⟩;rw[eW,eH,ec] at hB2;obtain rfl:=Pu.Best.uniq hB2 hB;refine⟨o2,rfl,by omega,iteF ?_⟩;refine⟨rfl,rfl,bkH hs,fs,ws,curF ps hs,curW hs,by rw[←ef,←ew];rfl,c1,by omega,by rw[eW];omega,by rw[eW];exact hu,by rw[eW,eH];exact hN,fun vs2 hV2=>?_⟩;rw[eW,eH,ec] at hV2;obtain rfl:=Pu.TabV.uniq hV2 hV;refine⟨vs2,rfl,by omega,iteF ⟨_,evl,?_⟩⟩;show if decide (vl=vl)=true then _ else _;rw[Ys rfl];exact iteT ⟨ps,hs,rfl,by omega,h2.len.1,h2.len.2,hR⟩
end
end T
namespace T
open PySem PySem.Spec PyProof.Rows L2 Own M
def LB {l:PySem.W.OpenLaw}{w:World}{K:Za}{h:Heap}{mg:Str->Option Value}{fa:Addr} (X:K.In h) (G0:h.Ns mainGlobals mg) (hfa:mg "law"=some (.ref fa))
  {Vq:Addr} (Vs:PySem.W.nsIn K mainGlobals "Village"=some (some (.ref Vq)))
  (V7:PySem.W.plainGet K Vq Str.empty=true) (V8:PySem.W.hasDictIn K Vq=true) (V9:PySem.W.plainOver K Vq=true) (VA:PySem.W.findIn K (.ref Vq) "__setattr__"=some (some (.builtin "object.__setattr__"))) (VB:PySem.W.makesIn K Vq=true) (VC:PySem.W.keepIn K (.ref Vq)=true)
  (VD:PySem.W.findIn K (.ref Vq) "book"=some none)
  (VE:PySem.W.findIn K (.ref Vq) "fields"=some none)
  (VF:PySem.W.findIn K (.ref Vq) "wished"=some none)
  (a0:Pu.DI K "check_holder" Fl)
  (a1:Pu.DI K "check_width" SW)
  (a2:Pu.DI K "check_strips" BA)
  (a3:Pu.DI K "holders_of" FH)
  (a4:Pu.DI K "pair_cost" Bu)
  (a5:Pu.DI K "check_neighbours" FD)
  (a6:Pu.DI K "longer_paths" Bv)
  (a7:Pu.DI K "ring_from" Bi)
  (a8:Pu.DI K "find_ring" Fj)
  (a9:Pu.DI K "check_no_ring" Fp)
  (a10:Pu.DI K "check_place" FJ)
  (a11:Pu.DI K "sold" BG)
  (a12:Pu.DI K "parted" SY)
  (a13:Pu.DI K "united" NZ)
  (a14:Pu.DI K "with_wish" Fz)
  (a15:Pu.DI K "without_wish" F6)
  (a16:Pu.DI K "pair_costs" BH)
  (a17:Pu.DI K "sets_of" BS)
  (a18:Pu.DI K "without" NU)
  (a19:Pu.DI K "may_lie_last" Bb)
  (a20:Pu.DI K "may_lie_first" BQ)
  (a21:Pu.DI K "cost_with_last" F9)
  (a22:Pu.DI K "cost_with_first" SX)
  (a23:Pu.DI K "least_costs" Ss)
  (a24:Pu.DI K "cost_table" BV)
  (a25:Pu.DI K "best_order" B8)
  (a26:Pu.DI K "least_cost" Sx)
  (a27:Pu.MI K Vq "__init__" "Village.__init__" F7)
  (a28:Pu.MI K Vq "strips" "Village.strips" Bx)
  (a29:Pu.MI K Vq "wishes" "Village.wishes" F1)
  (a30:Pu.MI K Vq "deeds" "Village.deeds" Bg)
  (a31:Pu.MI K Vq "check_room" "Village.check_room" BX)
  (a32:Pu.MI K Vq "enter" "Village.enter" Sa)
  (a33:Pu.MI K Vq "sell" "Village.sell" BE)
  (a34:Pu.MI K Vq "part" "Village.part" FP)
  (a35:Pu.MI K Vq "unite" "Village.unite" SG)
  (a36:Pu.MI K Vq "wish" "Village.wish" Su)
  (a37:Pu.MI K Vq "drop" "Village.drop" Fy)
  (a38:Pu.MI K Vq "take_back" "Village.take_back" BO)
  (a39:Pu.MI K Vq "order" "Village.order" F4)
  (a40:Pu.MI K Vq "cost" "Village.cost" BK)
  (a41:Pu.MI K Vq "table" "Village.table" F5)
  (a42:Pu.DI K "_law_at" Fw)
  (a43:Pu.DI K "_law_whole" Fn)
  (a44:Pu.DI K "_law_mix" SS)
  (a45:Pu.DI K "_law_draw" SN)
  (a46:Pu.DI K "_law_spare" Fh)
  (a47:Pu.DI K "_law_menu" Bp)
  (a48:Pu.DI K "_law_holder" Sf)
  (a49:Pu.DI K "_law_row" Bf)
  (a50:Pu.DI K "_law_tuples" S7)
  (a51:Pu.DI K "_law_deed_is" F8)
  (a52:Pu.DI K "_law_book_is" FR)
  (a53:Pu.DI K "_law_present" Sw)
  (a54:Pu.DI K "_law_price" SO)
  (a55:Pu.DI K "_law_no_ring" Sn)
  (a56:Pu.DI K "_law_no_rings" Bq)
  (a57:Pu.DI K "_law_field_step" Fv)
  (a58:Pu.DI K "_law_wish_step" FN)
  (a59:Pu.DI K "_law_step" Si)
  (a60:Pu.DI K "_law_call" SD)
  (a61:Pu.DI K "_law_stands" Bh)
  (a62:Pu.DI K "_law_go" SL)
  (a63:Pu.DI K "_law_start" BL)
  (a64:Pu.DI K "_law_days" F3)
  (a65:Pu.DI K "_law_odd" B0)
  (a66:Pu.DI K "_law_place" FS)
  (a67:Pu.DI K "_law_pair" FO)
  (a68:Pu.DI K "_law_opening" Se)
  (a69:Pu.DI K "_law_width" NY)
  (a70:Pu.DI K "_law_deed" FF)
  (a71:Pu.DI K "_law_next" FI)
  (a72:Pu.DI K "_law_copy" BR)
  {f73:Addr} {od73 an73:Option Addr} {sl73:Array (Option Value)} {oc73 kV73 dc73 pm73 cd73 ct73:Value}
  (a73:PySem.W.nsIn K mainGlobals "law"=some (some (.ref f73)))
  (l73:K.lookup f73=some ⟨oc73,od73,.func (PySem.W.fnOf "law" "law" (XC Ka) (UH Ka) (J5 Ka) .none kV73 dc73 pm73 an73 cd73 ct73),sl73⟩)
  (c73:PySem.W.codeIn K cd73 "law"=true) (k73:PySem.W.keepIn K (.ref f73)=true)
  (VG:PySem.W.nsIn K mainGlobals "any"=some none)
  (VH:PySem.W.nsIn K mainGlobals "bool"=some none)
  (VI:PySem.W.nsIn K mainGlobals "int"=some none)
  (VJ:PySem.W.nsIn K mainGlobals "isinstance"=some none)
  (VL:PySem.W.nsIn K mainGlobals "len"=some none)
  (VM:PySem.W.nsIn K mainGlobals "list"=some none)
  (VN:PySem.W.nsIn K mainGlobals "max"=some none)
  (VO:PySem.W.nsIn K mainGlobals "min"=some none)
  (VP:PySem.W.nsIn K mainGlobals "range"=some none)
  (VQ:PySem.W.nsIn K mainGlobals "set"=some none)
  (VR:PySem.W.nsIn K mainGlobals "sorted"=some none)
  (VS:PySem.W.nsIn K mainGlobals "str"=some none)
  (VT:PySem.W.nsIn K mainGlobals "sum"=some none)
  (VU:PySem.W.nsIn K mainGlobals "tuple"=some none)
  {Jb:Tok} (VW:PySem.W.nsIn K mainGlobals "HOLDERS"=some (some (.int 10 Jb)))
  {Jc:Tok} (VX:PySem.W.nsIn K mainGlobals "STRIPS"=some (some (.int 40 Jc)))
  {Jd:Tok} (VY:PySem.W.nsIn K mainGlobals "WIDEST"=some (some (.int 1000 Jd)))
  {Je:Tok} (VZ:PySem.W.nsIn K mainGlobals "MOST_WISHES"=some (some (.int 20 Je)))
  {Jf:Tok} (Ja:PySem.W.nsIn K mainGlobals "MOST_DEEDS"=some (some (.int 100 Jf)))
  {Jg:Addr} (Vt:Pu.EI K "TooManyStrips" Jg)
  {Jh:Addr} (Vu:Pu.EI K "BadHolder" Jh)
  {Ji:Addr} (Vv:Pu.EI K "BadWidth" Ji)
  {Jj:Addr} (Vw:Pu.EI K "NoStrip" Jj)
  {Jk:Addr} (Vx:Pu.EI K "OwnStrip" Jk)
  {Jl:Addr} (Vy:Pu.EI K "BadPart" Jl)
  {Jm:Addr} (Vz:Pu.EI K "UnlikeHolders" Jm)
  {Jn:Addr} (V0:Pu.EI K "TooWide" Jn)
  {Jo:Addr} (V1:Pu.EI K "LikeHolders" Jo)
  {Jp:Addr} (V2:Pu.EI K "WishStands" Jp)
  {Jq:Addr} (V3:Pu.EI K "TooManyWishes" Jq)
  {Jr:Addr} (V4:Pu.EI K "NoWish" Jr)
  {Js:Addr} (V5:Pu.EI K "BookFull" Js)
  {Jt:Addr} (V6:Pu.EI K "NothingDone" Jt)
  : ∃fd:FuncData,(∀(s:Shared) (v:Value),BindsTo s fd ⟨[v],[]⟩ [("_law_script",v)])/\∀base:Heap,K.In base->base.Ns mainGlobals mg->FnOk l.prog w K mg base CX0 8 fa fd ["_law_script"] (Pu.Fq K):=by
 have e:=hfa.symm.trans (Wv X G0 a73);cases e
 have Vr:=ExcR.FU (Wv X G0 Vs);have G:Glob K mg:=⟨Wa X G0 VG,Wa X G0 VH,Wa X G0 VI,Wa X G0 VJ,Wa X G0 VL,Wa X G0 VM,Wa X G0 VN,Wa X G0 VO,Wa X G0 VP,Wa X G0 VQ,Wa X G0 VR,Wa X G0 VS,Wa X G0 VT,Wa X G0 VU,⟨_,Wv X G0 VW,⟨_,rfl⟩⟩,⟨_,Wv X G0 VX,⟨_,rfl⟩⟩,⟨_,Wv X G0 VY,⟨_,rfl⟩⟩,⟨_,Wv X G0 VZ,⟨_,rfl⟩⟩,⟨_,Wv X G0 Ja,⟨_,rfl⟩⟩,(Vt.m X G0),(Vt.k X G0),(Vu.m X G0),(Vu.k X G0),(Vv.m X G0),(Vv.k X G0),(Vw.m X G0),(Vw.k X G0),(Vx.m X G0),(Vx.k X G0),(Vy.m X G0),(Vy.k X G0),(Vz.m X G0),(Vz.k X G0),(V0.m X G0),(V0.k X G0),(V1.m X G0),(V1.k X G0),(V2.m X G0),(V2.k X G0),(V3.m X G0),(V3.k X G0),(V4.m X G0),(V4.k X G0),(V5.m X G0),(V5.k X G0),(V6.m X G0),(V6.k X G0),(by rw[Vr];exact Wv X G0 Vs),(by rw[Vr];exact⟨V7,V8,V9,VA⟩),(by rw[Vr];exact VD),(by rw[Vr];exact VE),(by rw[Vr];exact VF)⟩;have F73:=Ft (st:=Ka) l73 c73 k73;have b73:=F73.binds (ps:=["_law_script"]) fun _ _ _ _ _ _ us hl=>by obtain⟨_,rfl⟩:=Pu.len1 hl;rfl
 have D73:Def K mg "law" Ka ["_law_script"]:=⟨_,_,F73,Wv X G0 a73,b73⟩;refine⟨PySem.W.fnOf "law" "law" (XC Ka) (UH Ka) (J5 Ka) .none kV73 dc73 pm73 an73 cd73 ct73,fun s v=>.of_eq rfl,fun base _ _=>?_⟩;have C0:=Zc7 (P:=l.prog) (w:=w) (base:=base) G (a0.e X G0);have C1:=HD (P:=l.prog) (w:=w) (base:=base) G (a1.e X G0);have C3:=OY (P:=l.prog) (w:=w) (base:=base) G (a3.e X G0);have C4:=RE (P:=l.prog) (w:=w) (base:=base) G (a4.e X G0);have C5:=Ou (P:=l.prog) (w:=w) (base:=base) G (a5.e X G0);have C6:=L6 (P:=l.prog) (w:=w) (base:=base) G (a6.e X G0);have C10:=Za7 (P:=l.prog) (w:=w) (base:=base) G (a10.e X G0);have C15:=Zdk (P:=l.prog) (w:=w) (base:=base) G (a15.e X G0);have C17:=OD (P:=l.prog) (w:=w) (base:=base) G (a17.e X G0);have C18:=Mj (P:=l.prog) (w:=w) (base:=base) G (a18.e X G0);have C19:=Mw (P:=l.prog) (w:=w) (base:=base) G (a19.e X G0);have C20:=Zdm (P:=l.prog) (w:=w) (base:=base) G (a20.e X G0);have C28:=HJ (P:=l.prog) (w:=w) (base:=base) G (a28.e Vr);have C29:=La (P:=l.prog) (w:=w) (base:=base) G (a29.e Vr);have C30:=Zaz (P:=l.prog) (w:=w) (base:=base) G (a30.e Vr);have C31:=LQ (P:=l.prog) (w:=w) (base:=base) G (a31.e Vr);have C32:=L4 (P:=l.prog) (w:=w) (base:=base) G (a32.e Vr);have C38:=Ii (P:=l.prog) (w:=w) (base:=base) G (a38.e Vr);have C42:=HF (P:=l.prog) (w:=w) (base:=base) G (a42.e X G0);have C43:=Iw (P:=l.prog) (w:=w) (base:=base) G (a43.e X G0);have C44:=OA (P:=l.prog) (w:=w) (base:=base) G (a44.e X G0);have C47:=Lu (P:=l.prog) (w:=w) (base:=base) G (a47.e X G0);have C48:=Ma (P:=l.prog) (w:=w) (base:=base) G (a48.e X G0);have C53:=OU (P:=l.prog) (w:=w) (base:=base) G (a53.e X G0);have C54:=Zc6 (P:=l.prog) (w:=w) (base:=base) G (a54.e X G0);have C55:=Zck (P:=l.prog) (w:=w) (base:=base) G (a55.e X G0);have C57:=RB (P:=l.prog) (w:=w) (base:=base) G (a57.e X G0);have C58:=IY (P:=l.prog) (w:=w) (base:=base) G (a58.e X G0);have C65:=LJ (P:=l.prog) (w:=w) (base:=base) G (a65.e X G0);have C66:=ID (P:=l.prog) (w:=w) (base:=base) G (a66.e X G0);have C69:=Ra (P:=l.prog) (w:=w) (base:=base) G (a69.e X G0);have C71:=Rj (P:=l.prog) (w:=w) (base:=base) G (a71.e X G0);have C72:=He (P:=l.prog) (w:=w) (base:=base) G (a72.e X G0);have C2:=Zcv (P:=l.prog) (w:=w) (base:=base) G (a2.e X G0) C0 C1;have C7:=LC (P:=l.prog) (w:=w) (base:=base) G (a7.e X G0) C6;have C11:=Zbl (P:=l.prog) (w:=w) (base:=base) G (a11.e X G0) C10 C0;have C12:=Zbu (P:=l.prog) (w:=w) (base:=base) G (a12.e X G0) C10;have C13:=Zdc (P:=l.prog) (w:=w) (base:=base) G (a13.e X G0) C5;have C14:=Ia (P:=l.prog) (w:=w) (base:=base) G (a14.e X G0) C0;have C16:=IF (P:=l.prog) (w:=w) (base:=base) G (a16.e X G0) (TZ C3) C4;have C21:=Zct (P:=l.prog) (w:=w) (base:=base) G (a21.e X G0) C18;have C22:=Zac (P:=l.prog) (w:=w) (base:=base) G (a22.e X G0) C18;have C37:=Zdx (P:=l.prog) (w:=w) (base:=base) G (a37.e Vr) C31 C15 C32 C29 C28;have C45:=Ib (P:=l.prog) (w:=w) (base:=base) G (a45.e X G0) C44 C42;have C46:=OX (P:=l.prog) (w:=w) (base:=base) G (a46.e X G0) C44 C42;have C49:=Mm (P:=l.prog) (w:=w) (base:=base) G (a49.e X G0) C43;have C50:=IC (P:=l.prog) (w:=w) (base:=base) G (a50.e X G0) C43;have C51:=Zba (P:=l.prog) (w:=w) (base:=base) G (a51.e X G0) C43;have C59:=Mr (P:=l.prog) (w:=w) (base:=base) G (a59.e X G0) C57 C58;have C63:=Ry (P:=l.prog) (w:=w) (base:=base) G (a63.e X G0) C42 C44 C48;have C64:=Zbt (P:=l.prog) (w:=w) (base:=base) G (a64.e X G0) C44 C42;have C67:=HZ (P:=l.prog) (w:=w) (base:=base) G (a67.e X G0) C65 C48;have C8:=II (P:=l.prog) (w:=w) (base:=base) G (a8.e X G0) C7;have C23:=Zb5 (P:=l.prog) (w:=w) (base:=base) G (a23.e X G0) C17 (TZ C3) C19 C21;have C27:=OJ (P:=l.prog) (w:=w) (base:=base) G (a27.j Vr VB VC) C2;have C33:=Oy (P:=l.prog) (w:=w) (base:=base) G (a33.e Vr) C31 C11 C32 C28 C29;have C34:=Zen (P:=l.prog) (w:=w) (base:=base) G (a34.e Vr) C31 C12 C32 C28 C29;have C35:=RY (P:=l.prog) (w:=w) (base:=base) G (a35.e Vr) C31 C13 C32 C28 C29;have C36:=Mc (P:=l.prog) (w:=w) (base:=base) G (a36.e Vr) C31 C14 C32 C29 C28;have C52:=Zam (P:=l.prog) (w:=w) (base:=base) G (a52.e X G0) C51
 have C68:=Zcs (P:=l.prog) (w:=w) (base:=base) G (a68.e X G0) C44 C42 C67 C48;have C70:=Rb (P:=l.prog) (w:=w) (base:=base) G (a70.e X G0) C66 C67 C65 C69 C48;have C9:=Zak (P:=l.prog) (w:=w) (base:=base) G (a9.e X G0) C8 (TZ C3);have C60:=Zdw (P:=l.prog) (w:=w) (base:=base) G (a60.e X G0) C37 C33 C34 C35 C36;have C61:=MF (P:=l.prog) (w:=w) (base:=base) G (a61.e X G0) C52 C50 C30 C28 C29;have C24:=Zcf (P:=l.prog) (w:=w) (base:=base) G (a24.e X G0) C9 C23 C16;have C25:=Zcm (P:=l.prog) (w:=w) (base:=base) G (a25.e X G0) C9 C16 C23 (TZ C3) C18 C20 C22;have C62:=Zej (P:=l.prog) (w:=w) (base:=base) G (a62.e X G0) C59 C60 C43 C38;have C26:=Iv (P:=l.prog) (w:=w) (base:=base) G (a26.e X G0) C24;have C39:=Zds (P:=l.prog) (w:=w) (base:=base) G (a39.e Vr) C25 C28 C29;have C41:=Zb1 (P:=l.prog) (w:=w) (base:=base) G (a41.e Vr) C24 C28 C29;have C56:=HP (P:=l.prog) (w:=w) (base:=base) G (a56.e X G0) C55 C53 C62;have C40:=Zaj (P:=l.prog) (w:=w) (base:=base) G (a40.e Vr) C26 C28 C29;have C73:=HU (P:=l.prog) (w:=w) (base:=base) G D73 C47 C63 C27 C68 C64 C72 C54 C45 C56 C39 C41 C49 C71 C61 C62 C53 C44 C42 C70 C46 C40;exact(C73.at (Wv X G0 a73) F73 D73).imp fun _ _ _ _ z=>Pu.HC z
end T
structure PySem.W.Fast:Prop where (tw17836187994164580284 tw9287534742531644544 tw11278841022792772736 tw4304567150978040992 tw7296202113544803488 tw10984497618889514272 tw9786083093034763616 tw7576626935395686752 tw3311411863410248064 tw15022988555044376000 tw7837646161522513344 tw10517308211386003936 tw2081438034092872160 tw6674852162070504928 tw6808036791219865152 tw1486193360448865888 tw5171045657880740512 tw17419269507274654368 tw17918210332987386528 tw13419208724433804992 tw490443473842013920 tw5246916377046616864 tw11144688098626117408 tw13630448040193362816 tw764684983552099200 tw830251010153963392 tw5258451451669911488 tw14981475516889200608 tw12528678799527481345 tw7823002981480285185 tw9880815948375484417 tw1468990989534080129 tw4750931211071374465 tw17933536742713929921 tw6858619746202710209 tw1382896737471657153 tw12329789153255844065 tw8791137524567018753 tw13224404495206909249 tw2141005006941319521 tw11561846441426191777 tw629455881050860961 tw14411070861462048193 tw18012317634652627489 tw15611917737408902721 tw378532077881324129 tw14962169391475189377 tw9337376707727913601 tw14214470509563182753 tw5216395132391396193 tw7944931894743745377 tw15604354302725606241 tw2628446695183284065 tw11815409093417529217 tw8871363845866002337 tw11346038424728035233 tw15372208134027975617 tw9533087089665847233 tw1450124065413028801 tw1976889795135962081 tw17996102642980978657 tw10939861581568264194 tw7600592551479742530 tw17769216806705859682 tw3938697934902599810 tw1210613460264199298 tw9508296821037833442 tw4007840816122298818 tw3265608905004739010 tw6470770482699602402 tw13358290343335318050 tw3529896123473243714 tw10609308156279648834 tw2636575824745610914 tw7309549511810055874 tw12965647455851409186 tw10734286954576938882 tw7839090560886731650 tw1706327465941699522 tw12317406444763647938 tw390441930401109954 tw16586393721488696258 tw13868827331555556483 tw5540654114780455107 tw8552712128948004035 tw17911778266281305283 tw3332673603212088547 tw16882786735491395811 tw12745832073829961059 tw818417548709312899 tw12479832449820777891 tw2545010839521239491 tw5386334709971806787 tw12888919483289538179 tw3576877719141083779 tw1810596355083219619 tw49324505061843651 tw9983413899562025859 tw13159353971455948675 tw3523790768989975459 tw8427903158653965251 tw4526283626669263843 tw16349679408929362915 tw17467533189177825284 tw7588126668809570404 tw14994720498709338212 tw8076846395163266148 tw17343010073695236228 tw14385595784817852548 tw2798362477801002180 tw6147247939222284516 tw12047392192134984932 tw6099914948355595524 tw516757723013728548 tw4609961050241471812 tw15056014666196269380 tw3600471361523628420 tw897877350745684356 tw7992007620783577508 tw16172709098904492484 tw12112332897396101604 tw12009052132663825924 tw13529874570159966724 tw16712636850582369828 tw12878589548293077540 tw15928264312686350916 tw5940552384105443940 tw12732431818809473636 tw5585846959967429284 tw9768029541743577796 tw17197883080871778020 tw13673541624867615556 tw7568193659504365412 tw16960077752110136228 tw9385447904179897316 tw15553751910739810341 tw15098760308304734277 tw9059080341041624229 tw13279812579703738533 tw15488319945302629573 tw2232385481551305957 tw18153585184056735973 tw5347180562109369605 tw10200582494599573861 tw9382460566802346373 tw4428194054449388933 tw7086257482946509189 tw12468120138538169765 tw6989268482998911397 tw9201480534287661509 tw14399678050833798629 tw7538642067427515909 tw13858003115984877157 tw14293356457590728325 tw224096495938087557 tw1482167472953425637 tw18419837998551565061 tw17551891650862613285 tw2719638780704232261 tw15534737988733694821 tw13246166342680052677 tw2896457630315025349 tw9824274163825269701 tw8432142612115951589 tw9797648376297187334 tw5684672433037963270 tw9325275800484804614 tw3764080807173922854 tw3016192499728531494 tw17528220450791730246 tw13935556579284774982 tw9083125077684043878 tw13267192544751339686 tw5650698089169647782 tw14764888101724664006 tw13614030931684602086 tw2469639090137809126 tw14158319337565977862 tw16998623873286708518 tw4301892718032405798 tw16476396692918121798 tw8183936863826444646 tw12644883782034958694 tw17400059501664840038 tw3152665953343106406 tw12694874244943953286 tw2656475830682276230 tw16822851693730192774 tw16943977860277242310 tw1747503122109698502 tw11138433397465865670 tw10328141469005054438 tw13543362108633205222 tw6597929493251399238 tw8884267597660930630 tw10053345936831904326 tw7405430543320625766 tw11923541765402770022 tw7242268153123764870 tw6320250921948007078 tw4494760344077686438 tw17944153894364482246 tw9630437595541350086 tw9914102992007753414 tw6565111717523651270 tw7574718668874743590 tw6067291746130534214 tw3273543902877297478 tw8722685547244759878 tw9754993084420833094 tw18101125974907687782 tw2229714567108816742 tw1715968808215737254 tw8316523330262867910 tw7022783016802499526 tw6059802245501721574 tw17470945283389616135 tw8297535644464200743 tw4077649503306874951 tw1301266645241426087 tw10742449196750539047 tw18045066250893223207 tw14710589094243559719 tw18139108688441993511 tw10342113010874740007 tw1586829281365164423 tw773380503653310887 tw8542114953811411399 tw221254851674961383 tw12031876342651334151 tw8231322263457583623 tw18349041179061980711 tw17165137614396177959 tw16580961044212092487 tw2376608758634822247 tw10005508357988290183 tw11371425770943847047 tw18259657866123982567 tw11372103021007147815 tw17300041588046490407 tw7513494616411141991 tw5742739167621514119 tw12523428922869078919 tw12079970775924825991 tw14749344508668054471 tw10824532924184243143 tw9089685888337169383 tw13156663316256358375 tw10994739030224496648 tw995637162112674856 tw2239482682235233352 tw4998278987404270664 tw4843189266514734152 tw18193527811052086376 tw2540557748721948808 tw6767339204279812296 tw11289663603663783112 tw5826958765845777640 tw6512396849229996264 tw1921129845346006248 tw17222366275917944072 tw18272258455074870536 tw8164617642638334216 tw11811069730658264456 tw8470749447555102088 tw2204459596432768424 tw12073340047705077192 tw17756650681786430920 tw3085662581302265320 tw117926988125034088 tw7890668538869166760 tw4970270349126398632 tw16259458076789575368 tw9226223883325355720 tw15607254314262018760 tw6171510967034242760 tw2819942529863570216 tw17458149771681755976 tw3752229079994427272 tw1602472513604121512 tw1471360043610634152 tw10942595830052835304 tw3226222780175145065 tw6102393996106062985 tw14546907362011687081 tw9998408725823829161 tw7897719722136292521 tw847936283341239497 tw16614542598099155145 tw3009352128447312073 tw598006936156566729 tw6985848080505770281 tw3036722365307528489 tw16908516908568012073 tw16364174373991584105 tw13321803338682704329 tw5512190098553063977 tw8945280322057268777 tw8027344554640801321 tw199684296904849001 tw5406339024949117577 tw15060052660250561161 tw17597419651484963465 tw5753049386031490729 tw6848440718814199465 tw6001870086525753033 tw11059970397622500041 tw1897994378211405545 tw15185563750920860457 tw7908914944506694473 tw4402228980326603593 tw9457660896364943177 tw17343728950769723305 tw14096016906503038889 tw1636032247820731402 tw15745341906952064074 tw16893904222589638730 tw7927431805901954122 tw5193167312969198794 tw14986499254957597962 tw4077284656333328682 tw10121236753899848010 tw2988177810823918922 tw10528421378180238730 tw6980333501531667882 tw2785155163880577514 tw15649650663215831562 tw2515944451096486602 tw13058875730931450666 tw17945243964984937322 tw1353973297113508746 tw3537669506821165994 tw7607723396551432106 tw10594406961253423050 tw9778112437356681162 tw4012708666006629483 tw12107210075125555339 tw13522898382155365515 tw10179713072794422411 tw7541526251594380459 tw7292129364501282059 tw2189384160478482731 tw5380994374058005899 tw12313150395633496491 tw1352086412411683275 tw10900425781876786667 tw3996570707534099979 tw10595192218349854219 tw15124933605285565995 tw5875658579373615659 tw6764130298998633067 tw9297128185870713515 tw5300056004204254891 tw12481363710182361803 tw9416725661401617131 tw1742562182591747819 tw8228954947376429835 tw4605668538771255083 tw15154656344280281899 tw11090672854503488299 tw15064311863087726379 tw14653806963894277963 tw9994334044154821451 tw14195999415363730251 tw15994234452357293963 tw12713450254844478347 tw16424178283038930827 tw13059430239908789131 tw4823250402450960363 tw17378623416750060556 tw11512360562208739404 tw7613778661983837292 tw6968219713595145612 tw13734194645275317676 tw12752657314344808940 tw2141532495089847820 tw18084779262736070156 tw1527810735445204556 tw10350448229178815116 tw15276027693197037260 tw2279173996443000524 tw2024089396766456556 tw6242178324462963468 tw3747327043048603436 tw2450225804593913772 tw840726363948838828 tw15290388110159461324 tw545471303709966284 tw1815295876413856748 tw3780675637977978957 tw4634177933670479949 tw2798177322016937069 tw16598045392869228685 tw7145836994175272141 tw4783247239771130093 tw17470533434845029645 tw17291412847297586445 tw8258380259661302093 tw558249429054838093 tw118606367626767725 tw12197973678352447853 tw4982239202640332173 tw3953865297217678733 tw4812194242668139949 tw5011670651370610253 tw1850517114622847565 tw12145530734481264205 tw696341814781357677 tw10577462502590201453 tw685120815158061709 tw17481175754838609581 tw948195184769900269 tw4925756636677664493 tw6059058792480195341 tw7625618528450513709 tw13420072664891337549 tw3591088657456709485 tw15318046779783312237 tw4724488962344991661 tw4344356364957438957 tw5202613847722743789 tw15420396814712507470 tw15149124100165489742 tw14588429026411651182 tw6217631047738841198 tw16549984463224378542 tw262583542092938414 tw11675573671766257870 tw7670595459289220366 tw4135759722309629198 tw4148422085922356526 tw176361791876325742 tw1016233380410596750 tw1973563205073008110 tw5226187979733017166 tw3800190414856151662 tw2871968057096555214 tw11495077269717587694 tw2276793562208835310 tw4232808853205755662 tw14157850439094266638 tw10666502751161493358 tw7088169639087363950 tw3537008116064686990 tw6035182869834541966 tw7671354346589148046 tw12574459900018805678 tw14153380126392699822 tw9134852645152732110 tw14552610997056376814 tw2804492483510816750 tw5591064461853014031 tw1027394647543842863 tw2727243703990933551 tw15802081110800300079 tw2382080611161381007 tw12904664612038655119 tw4949059434013016207 tw9717339712574513295 tw7549221713673202895 tw4719341984488240367 tw16235792051417268463 tw873962444799461615 tw14837341114279106831 tw16625082570932670735 tw2520377057251221775 tw12188772562437865775 tw12639140314110192943 tw4731325137148675407 tw8330361240214551919 tw16605582728964376015 tw9447738229271269935 tw4707025819340933711 tw15032359492022314607 tw7115617210737207951 tw9172483358042944143 tw15178178370908111535 tw978907953751487183 tw2857172804997302031 tw13740753951811910543 tw5151640517538343855 tw16690949499876366416 tw996600333314383984 tw9839959599519135856 tw4976293956517446800 tw16537090319486641296 tw8515197397719382192 tw12508587499969726672 tw225558181096593712 tw10315684541867324720 tw13303126742763358608 tw13968737292216311216 tw17631170676046386608 tw3497178697201588688 tw11208890121504434672 tw12031829698571130352 tw6868794370742558288 tw2360657370436429392 tw3802482825206533744 tw8809224869020997232 tw5606834290628683376 tw2898834151929436816 tw12630546884758307504 tw10874662386921322160 tw1793457339788245712 tw14798555930757521168 tw14313777720888254256 tw9022955629361265456 tw255256988328899408 tw5726844560593332176 tw7936864330864637936 tw7691328292560652272 tw8255900975105102865 tw14222011963533023249 tw1596840785897642033 tw2019727872578880593 tw5373421947993722961 tw717774019640008785 tw15329774703426573553 tw845280264935801105 tw10871040276401179921 tw14180001808969390353 tw4876649163513428305 tw7539450381327577457 tw15079331259014942129 tw5978218423631394289 tw14659743505537283569 tw17399594456206084721 tw1121727001037396593 tw5482108340018209425 tw4246259701012402961 tw2451823144438085393 tw6242857682441478961 tw14660443716987566897 tw3078997359949915121 tw4189566828851051570 tw14612727293387103314 tw12555413945577932914 tw6629494308320480402 tw13740068127637114034 tw10649631485130615986 tw6116786726310637778 tw12931690591870907602 tw5837829016508993778 tw7438411988787262706 tw3006862641188067602 tw5897264733082869010 tw1382886993891393842 tw12264307051426671922 tw16864708299502088498 tw17096564363987108242 tw3183568833560825234 tw573135362529908114 tw15133887386672721362 tw11188416697233304082 tw7118467376069952146 tw3294590729153905330 tw2224435904510345906 tw875001213920005810 tw14854074954978382514 tw5927701269865360050 tw11921508511747628754 tw4546612351048317650 tw5622722568054198002 tw6701831330806321938 tw2160745119850628946 tw18050354148180235122 tw2525122273052576626 tw5922971404272404402 tw6483659829158402163 tw16914614309343222931 tw15803213528132286611 tw6897424653774701747 tw6546514774648761619 tw9875007874947599635 tw42599807203926355 tw10978486780126345619 tw1201005615871539699 tw5259488841468663315 tw17399134528960395795 tw1667410183379817075 tw3387673889543831155 tw9554199209482738323 tw14729977233952468627 tw7682903250334246611 tw5809762954138326803 tw6560435426619404051 tw6081404428224326451 tw2162595794389078867 tw2058605665443131251 tw2131366956766560115 tw7220670196133464979 tw11666196681506933683 tw2198816738443427795 tw12426790618459441139 tw4750961237675943956 tw7160258504518909972 tw6492524331963044884 tw3145979353954114612 tw13080543204415299636 tw10238315802981402740 tw13417089310222001300 tw3321885355345236116 tw8609758788936319220 tw12738096285745210612 tw6985261362897588532 tw12704527072618715444 tw10451727651696083284 tw41472857833685364 tw15638651173486839284 tw17100822559625669108 tw6795477575517633012 tw15986280934063108756 tw9642678452785356564 tw11011518858180282132 tw9209164958923456276 tw12002634074129312564 tw14003552775339850580 tw6613819317041855348 tw359245141223158676 tw15887921564336041940 tw13119549179987378197 tw18187184422823547925 tw4516053780241524789 tw15949416832902167605 tw1615562455272850581 tw9402206932183627925 tw10646841391921937717 tw6012434780430315989 tw12700305436999772725 tw16730247699236292181 tw9444075844321488501 tw7180175507475390069 tw8136691434377937589 tw16764128382716676821 tw4124845080159301365 tw4696859825170225941 tw16875929537862940469 tw10675384803653769013 tw8066574812620894037 tw8020568177184410485 tw3087775066847109142 tw7465543088489439286 tw7877426266732185654 tw3469142051539308662 tw1756861254841829526 tw788073240978320534 tw11532628285587585206 tw4835301414793224406 tw18016199633550233814 tw13135685009677112566 tw18348463720522994934 tw71827423864489238 tw15149265375607533910 tw894917009452369270 tw16825555969637479798 tw13737683847867266486 tw9773818232051602902 tw9585221843808503254 tw11856397513575412246 tw6542554473025911318 tw4387783272907578998 tw13894428860022660726 tw11826402422704980598 tw3403368632438695574 tw6988537007422697174 tw6697318881866626870 tw9201643308543368086 tw10359859020867865558 tw3171040165517417527 tw12925521261411831895 tw3134247347376009303 tw10374972836163602519 tw4494330968187868279 tw9254282885849861239 tw12306008118911022231 tw10283739929167702199 tw8212330647643351255 tw12911120357292118295 tw9210396276818122007 tw15741536240623267095 tw13798407435470286135 tw11552231468218999095 tw1063677615608318327 tw17089545207176262007 tw14106054084422274455 tw17553558370095668695 tw15457804102335228375 tw1574016119145912855 tw4451859549494031959 tw4634033374673084023 tw2543934142853497463 tw17581701012707146359 tw4947418080873531031 tw2011295719849252567 tw4744870301723140855 tw15365856717354149687 tw2939842198583809879 tw16709013298573746007 tw9279693951622733687 tw7450851171052137367 tw2491391870446332887 tw7316299491631017975 tw6396721286177860696 tw12958988819366373496 tw4969448803835722904 tw13904875512278349976 tw18402870077884402872 tw1298452943456506040 tw3525896318218378520 tw15856870006910981432 tw4594829403438343512 tw605671222090351992 tw11597084570644960632 tw8197360343477192088 tw17108270271206816152 tw16000602784538745304 tw16115663250456291864 tw17876375081205235224 tw12808564094498764344 tw12487627816190858840 tw8070536962260600536 tw13565783956570003224 tw6927568502650114872 tw844360586363864920 tw6461744416639732568 tw17657972629742378840 tw13575887729797173112 tw6550626715313438584 tw2514991613259519896 tw16824543155593716632 tw13089377103172089752 tw15387048433835125688 tw17163588510074105784 tw8802401282451230680 tw9723678629620482008 tw8017652042032147481 tw10773137280640576569 tw9127897733976125497 tw558759376328598617 tw3314613260603698265 tw13842226970331260025 tw538729952624914585 tw11251665652703999161 tw1668931382379825369 tw10167113008698335481 tw17473804312422995193 tw11006989250357860697 tw17486674499406806361 tw14546261860672211353 tw15318279537648962969 tw12303688910104879577 tw15224876768952841721 tw17897791912449915417 tw8050804867342027289 tw9921225513874679321 tw389296989984982585 tw17713876669218658873 tw3168650328660454969 tw7393603040215619161 tw11877651523160300217 tw2725408121173031673 tw8053300923813224185 tw3173407972030279449 tw11316351608663973689 tw9845005798244953913 tw1378136462947439513 tw4270407638138610617 tw15850226732897624057 tw2574892093636745338 tw6769178390321925274 tw12948901882721936570 tw6087222222335596762 tw5769638605687434554 tw4457194865685343546 tw13595221046239795546 tw464180317312065914 tw3044289003903989146 tw17625489444837014938 tw9824440564848973210 tw2810717414953645466 tw3795460381217862074 tw5057333442460153338 tw7078236233001387546 tw2020002260110102074 tw1589344084484878906 tw6841846416459967066 tw1216165845464310362 tw15026529174168936090 tw9404869369477864154 tw12453252118004417242 tw16839174783970503386 tw16746907620465054458 tw16434552501501012762 tw10886424592117419802 tw11702386357685672730 tw7172753747775615834 tw16944371399298644986 tw16983089556850996251 tw16306364456799664155 tw9651683676190028859 tw2555616030472073275 tw14329247016008074331 tw10906716579007092827 tw14334700267637004379 tw1022032724135362683 tw6992160533204686971 tw9582288518809552091 tw2583784400855143643 tw2582789177638891739 tw9366280518435108059 tw7557122270235489499 tw15965161182842268923 tw14086597455935981819 tw3028341823804176763 tw17178204431576568219 tw9763175519191506331 tw11997432538430645691 tw3430865144059843003 tw11237226138469357019 tw5178606738008670747 tw12072169514578842171 tw17630041057824883259 tw9760643652426946107 tw10004430377811014203 tw14744201979802530395 tw14149548011042493019 tw4236094395919794811 tw1099138776141455003 tw5511183101595715259 tw11423518211560470235 tw13813421911173661435 tw7027366108761240315 tw8601342366265618203 tw17019084260197751579 tw4814710668083592059 tw3421969856210789307 tw15796797672406248411 tw8765025952792614972 tw6602462817072156764 tw11162299169669466236 tw9162983021513692316 tw3819028060144395484 tw721377792677855484 tw5889723945879075068 tw17220075151312644380 tw8867141371373546780 tw16592928074088024380 tw4170645875434077500 tw4514157107206113596 tw3272424021883899292 tw3385521493438170556 tw17388406742871028156 tw13197466561855341020 tw14923235995022103036 tw17705931535208148476 tw15426748600155121308 tw9826360407857057436 tw907324839054362300 tw2744162708000519900 tw7854374329616000732 tw16740626017742834428 tw12723312749455402748 tw12198948394015319900 tw10845664067141785468 tw16286849655155809148 tw6351479977706676092 tw1559684129769514876 tw11129787332599782364 tw10068807351324407837 tw8314923298746225757 tw10348448900698107997 tw8914387126678618237 tw16706261778479063197 tw10993221340107107549 tw7846719607462540541 tw16487348432749688125 tw3458514368501512541 tw6517681810052425085 tw6010625438531339709 tw17117801302837703165 tw302596743610526205 tw17536385516553275933 tw5791186686418736669 tw15453551799178356253 tw17996232451634635325 tw7879587843465293437 tw10200386455458553501 tw1744049055597418141 tw13228402301358691005 tw3132713790251223773 tw1442523093534529245 tw16685558698923389693 tw2284314224639483677 tw18123607905389903709 tw1516854891859319805 tw8914212856995821565 tw17152687042765641790 tw11545017588888221790 tw961500559938639006 tw2312197704271228126 tw13714395816239748350 tw7804045613472053534 tw12446339460387573054 tw11181082703264893278 tw9951712151142077822 tw953826769517601150 tw12472990363745591742 tw16233345143020556766 tw6647159419697403454 tw3433760544386458206 tw396515958586366558 tw15883585668052048510 tw2849915352703131294 tw6433265536282944158 tw13218478853915175614 tw2963647999730378462 tw15910695524904498910 tw6191553639583180542 tw15628886482434485054 tw13842053283394710430 tw18061850390326015902 tw18131461299915612094 tw5590197775512171454 tw2677757982524221406 tw5735148816064495647 tw10096605654285189183 tw13443945415839938655 tw5297468892364045439 tw9250949913518062751 tw15260207110650758335 tw11635494776872988863 tw6471848877813152991 tw4513699743102492959 tw8445845972038703455 tw4397248724141598047 tw6550608617133743487 tw13314881984007988639 tw13119642575415123423 tw13146274541578932703 tw8900543804650431999 tw1857686437794254367 tw17134244167265553983 tw14020327936894549599 tw5497692053198009023 tw17043277575757681407 tw2997978996806790943 tw17187183303966671647 tw16627502237463263039 tw2102274593199324991 tw10404269536696371135 tw9426224290062239711 tw17390850572863989727:True)
open PySem PySem.W PyProof.Rows
set_option maxRecDepth 100000 in
set_option maxHeartbeats 0 in
theorem PySem.Challenge.cw_stripmeld_k42_whole_parted_and_joined_holds : PySem.Challenge.rw_stripmeld_k42_whole_parted_and_joined.Holds := by
 w_on;o_law;k_head;(case hw=>w_witness2)
 k_fill
 refine L2.Zd7 (l:=PySem.Challenge.rw_stripmeld_k42_whole_parted_and_joined) (n:=63) (k:=8) (x:="_law_script") (CX:=L2.CX0) (sp:=Pu.Fq) rfl (by decide) rfl ⟨rfl,by decide,by decide⟩ (fun w h Y=>PySem.W.kIn_of Y) ?F ?S ?C
 case F=>
  intro w mg fa h KX G hmg
  refine' T.LB KX G hmg ?Vs ?V7 ?V8 ?V9 ?VA ?VB ?VC ?VD ?VE ?VF ?a0 ?a1 ?a2 ?a3 ?a4 ?a5 ?a6 ?a7 ?a8 ?a9 ?a10 ?a11 ?a12 ?a13 ?a14 ?a15 ?a16 ?a17 ?a18 ?a19 ?a20 ?a21 ?a22 ?a23 ?a24 ?a25 ?a26 ?a27 ?a28 ?a29 ?a30 ?a31 ?a32 ?a33 ?a34 ?a35 ?a36 ?a37 ?a38 ?a39 ?a40 ?a41 ?a42 ?a43 ?a44 ?a45 ?a46 ?a47 ?a48 ?a49 ?a50 ?a51 ?a52 ?a53 ?a54 ?a55 ?a56 ?a57 ?a58 ?a59 ?a60 ?a61 ?a62 ?a63 ?a64 ?a65 ?a66 ?a67 ?a68 ?a69 ?a70 ?a71 ?a72 ?a73 ?l73 ?c73 ?k73 ?VG ?VH ?VI ?VJ ?VL ?VM ?VN ?VO ?VP ?VQ ?VR ?VS ?VT ?VU ?VW ?VX ?VY ?VZ ?Ja ?Vt ?Vu ?Vv ?Vw ?Vx ?Vy ?Vz ?V0 ?V1 ?V2 ?V3 ?V4 ?V5 ?V6
  (case Vs|V7|V8|V9|VA|VB|VC|VD|VE|VF=>k_is)
  (case a0|a1|a2|a3|a4|a5|a6|a7|a8|a9|a10|a11|a12|a13|a14|a15|a16|a17|a18|a19|a20|a21|a22|a23|a24|a25|a26=>apply Pu.di<;>k_is)
  (case a27|a28|a29|a30|a31|a32|a33|a34|a35|a36|a37|a38|a39|a40|a41=>apply Pu.mi<;>k_is)
  (case a42|a43|a44|a45|a46|a47|a48|a49|a50|a51|a52|a53|a54|a55|a56|a57|a58|a59|a60|a61|a62|a63|a64|a65|a66|a67|a68|a69|a70|a71|a72=>apply Pu.di<;>k_is)
  (case a73|l73|c73|k73|VG|VH|VI|VJ|VL|VM|VN|VO|VP|VQ|VR|VS|VT|VU|VW|VX|VY|VZ|Ja=>k_is)
  (case Vt|Vu|Vv|Vw|Vx|Vy|Vz|V0|V1|V2|V3|V4|V5|V6=>apply Pu.ei<;>first|(k_is;done)|k_exc)
 case S=>exact fun K H a ns hl hO hS=>⟨a,ns,rfl,hS,fun _=>rfl⟩
 case C=>exact fun _ _ _ _ z=>z
