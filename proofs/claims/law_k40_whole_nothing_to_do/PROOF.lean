import PyProof.Rows.All
import Wide.All
import OpenK.AllK
import Wide.FinOn
import Lean
import PyProof.EqAt
import PyProof.EqKinds
import PyProof.TupleCall
import PySem.Challenge.RW_stripmeld_k40_whole_nothing_to_do
set_option Elab.async false
set_option linter.all false
set_option maxRecDepth 100000
noncomputable section
def ZY:=@PySem.wpAny_bind
def ZZ:=@List.getElem?_eq_getElem
def Ya:=@List.length_map
def Yb:=@PySem.wpAny_pure
def Yc:=@PySem.Heap.get?_push_of_some
def Yd:=@List.getD_eq_getElem?_getD
def Ye:=@if_neg
def Yf:=@List.mem_singleton
def Yg:=@if_pos
def Yh:=@decide_eq_true
def Yi:=@Nat.le_refl
def Yj:=@List.getElem?_map
def Yk:=@PySem.Heap.lt_size
def Yl:=@Option.some.inj
def Ym:=@PySem.Heap.get?_push_size
def Yn:=@List.length_append
def Yo:=@List.mem_cons
def Yp:=@List.size_toArray
def Yq:=@List.map_cons
def Yr:=@List.getElem_mem
def Ys:=@of_decide_eq_true
def Yt:=@List.map_append
def Yu:=@List.mem_cons_of_mem
def Yv:=@decide_eq_false
def Yw:=@Bool.false_ne_true
def Yx:=@Nat.le_trans
def Yy:=@List.mem_cons_self
def Yz:=@List.mem_append
def Y0:=@List.mem_append_right
def Y1:=@List.take_succ_eq_append_getElem
def Y2:=@List.getElem?_eq_some_iff
def Y3:=@List.length_cons
def Y4:=@List.mem_of_getElem?
def Y5:=@PySem.F.plainAttrs_list
def Y6:=@Nat.ne_of_lt
def Y7:=@List.mem_map
def Y8:=@PySem.PassesOwn.never
def Y9:=@List.mem_filter
def YA:=@Bool.and_eq_true
def YB:=@Nat.lt_of_lt_of_le
def YC:=@Array.length_toList
def YD:=@List.length_take
def YE:=@List.pairwise_iff_getElem
def YF:=@Int.toNat_natCast
def YG:=@List.nodup_cons
def YH:=@PySem.F.slot_list_append
def YI:=@PySem.F.type_list_append
def YJ:=@List.mem_iff_getElem
def YK:=@List.map_map
def YL:=@Classical.byContradiction
def YM:=@PySem.Heap.SameBut.update
def YN:=@List.pairwise_cons
def YO:=@List.getElem_idxOf
def YQ:=@PySem.W.mg_none_of
def YR:=@List.getElem?_append_left
def YS:=@congrArg
def YT:=@PySem.wpAny_newObj_type
def YU:=@PySem.wpAny_mono
def YV:=@List.idxOf_lt_length_iff
def YW:=@List.pairwise_map
def YX:=@List.drop_eq_getElem_cons
def YY:=@PySem.mem_of_lookup
def YZ:=@List.length_singleton
def Wa:=@PySem.Heap.get?_update_self
def Wb:=@Nat.zero_le
def Wc:=@List.nodup_append
def Wd:=@List.append_nil
def We:=@PySem.Obj.data_mapFields
def Wf:=@PySem.Heap.get?_update_other
def Wg:=@List.lookup_cons
def Wh:=@List.take_length
def Wi:=@Bool.not_eq_true'
def Wj:=@List.mem_range
def Wk:=@List.length_filter_le
def Wl:=@PySem.W.kia_one
def Wm:=@List.pairwise_append
def Wn:=@List.getElem?_append_right
def Wo:=@Array.getElem?_eq_getElem
def Wp:=@Array.getElem?_toList
def Wq:=@List.getElem?_take_of_lt
def Wr:=@List.cons_append
def Ws:=@Nat.lt_irrefl
def Wt:=@PySem.sizeLine_eq
def Wu:=@PySem.W.mg_of
def Wv:=@List.idxOf_lt_length_of_mem
def Ww:=@List.map_congr_left
def Wx:=@Nat.le_of_eq
def Wy:=@List.perm_ext_iff_of_nodup
def Wz:=@PySem.wpAny_setField
def W1:=@PySem.Obj.isFreed_of_fields
def W2:=@Bool.false_eq_true
def W3:=@Int.le_refl
def W4:=@List.length_set
def W5:=@PySem.F.slot_dict_valueiterator_next
def W6:=@PySem.wpAny_truthy_bool
def W7:=@PySem.wpAny_holding
def W8:=@PySem.wpAny_typeNameOfWhole_valiter
def W9:=@PySem.F.slot_list_index
def WA:=@decide_eq_false_iff_not
def WB:=@beq_eq_false_iff_ne
def WC:=@List.filterMap_cons
def WD:=@List.nodup_nil
def WE:=@List.all_eq_true
def WG:=@PySem.wpAny_call_entry
def WH:=@List.take_of_length_le
def WI:=@PyProof.Rows.F.plain_set_update_loop
def WJ:=@Int.emod_lt_of_pos
def WK:=@Int.ne_of_lt
def WL:=@PySem.wpAny_passesOwn
def WM:=@PyProof.Rows.boot_isinstance
def WN:=@List.sum_cons
def WO:=@PySem.wpAny_setState_of
def WQ:=@List.getElem_take
def WR:=@List.mem_append_left
def WS:=@PySem.Around.under_plainId
def WT:=@Nat.add_le_add
def WU:=@Nat.lt_trans
def WV:=@PySem.wpAny_typeNameOf_valiter
def WW:=@List.getElem?_cons_succ
def WX:=@List.pairwise_singleton
def WY:=@PySem.F.type_list_index
def WZ:=@List.any_cons
def Qa:=@PySem.wpAny_Call_Name_kw
def Qb:=@List.find?_cons
def Qc:=@PySem.codeAny_builtin
def Qd:=@Int.emod_nonneg
def Qe:=@List.map_singleton
def Qf:=@if_false
def Qg:=@List.filterMap_eq_map'
def Qh:=@List.append_assoc
def Qi:=@Bool.eq_false_iff
def Qj:=@decide_eq_true_eq
def Qk:=@Nat.le_of_lt
def Ql:=@PySem.codeAny_mono
def Qm:=@List.getElem?_eq_none
def Qn:=@List.filterMap_append
def Qo:=@PyProof.Rows.callWith_type1
def Qp:=@List.getElem?_set_ne
def Qq:=@PySem.wpAny_execs_cons
def Qr:=@Nat.lt_succ_self
def Qs:=@List.length_eraseIdx_of_lt
def Qt:=@Bool.true_and
def Qu:=@Array.getElem?_eq_some_iff
def Qv:=@Bool.or_eq_true
def Qw:=@PySem.F.args_tuple_add_2
def Qx:=@PyProof.Rows.F.entry_set_update_loop
def Qy:=@Nat.add_sub_cancel
def Qz:=@Bool.false_and
def Q0:=@PySem.Heap.size_push
def Q1:=@List.getElem?_replicate
def Q2:=@PySem.F.entry_tuple_add
def Q3:=@PySem.wpAny_callSpecial?_slot
def Q4:=@List.take_sublist
def Q5:=@PySem.fits_of_scanBound
def Q6:=@Nat.lt_succ_of_lt
def Q7:=@PySem.Obj.cls_mapFields
def Q8:=@List.idxOf_append
def Q9:=@List.getElem?_set_self
def QA:=@Nat.le_succ
def QB:=@PySem.W.cellsFrom_some
def QC:=@PySem.F.slot_tuple_add
def QD:=@Array.getElem?_eq_none
def QE:=@Int.add_mul
def QF:=@List.all_cons
def QG:=@PySem.plainId_quiet
def QH:=@List.getElem_inj
def QI:=@List.not_mem_nil
def QJ:=@List.ext_getElem
def QK:=@PySem.W.methodCall_KW
def QL:=@List.take_append_drop
def QM:=@PySem.wpAny_isOneOf_valiter
def QN:=@List.getElem?_reverse
def QO:=@List.Pairwise.and_mem
def QP:=@PySem.Heap.get?_none_of_le
def QR:=@PySem.wpAny_execs_nil
def QS:=@Bool.eq_iff_iff
def QT:=@List.map_nil
def QU:=@Option.map_some
def QV:=@List.forIn_cons
def QW:=@Nat.not_lt
def QX:=@List.cons.injEq
def QY:=@PySem.W.plainGet_of
def QZ:=@List.length_pos_iff
def Va:=@List.length_reverse
def Vb:=@List.getElem_of_mem
def Vc:=@Bool.and_false
def Vd:=@PySem.wpAny_field
def Ve:=@List.mem_filterMap
def Vf:=@PySem.W.callWith_K
def Vg:=@Nat.lt_of_le_of_lt
def Vh:=@List.any_eq_false
def Vi:=@List.ext_getElem?
def Vj:=@List.getElem?_set
def Vk:=@List.reverse_cons
def Vl:=@List.Pairwise.map
def Vm:=@Classical.not_not
def Vn:=@Nat.ne_of_gt
def Vo:=@Int.add_zero
abbrev Za:=PySem.W.Frag
namespace L2
open PySem PySem.Spec PyProof.Rows
abbrev Key:=Sum Int Str
def Kn:Key->Value->Bool
 | .inl k,v=>Value.isInt k v
 | .inr x,v=>Value.isStrOf x v
def keyH(w:World):Key->Int
 | .inl k=>hashInt k
 | .inr x=>hashStr w x
def Xn:∀{k:Key}{v:Value},Kn k v=true->(∃i t,k=Sum.inl i/\v=Value.int i t)\/(∃x t,k=Sum.inr x/\v=Value.str x t)
 | .inl i,v,h=>by
  obtain⟨t,e⟩:=Value.isInt_shape (k:=i) (v:=v) h;exact .inl ⟨i,t,rfl,e⟩
 | .inr x,v,h=>by
  obtain⟨t,e⟩:=Value.isStrOf_shape (x:=x) (v:=v) h;exact .inr ⟨x,t,rfl,e⟩
def HM(i:Int)(t:Tok):Kn (.inl i) (.int i t)=true:=by simp[Kn,Value.isInt]
def M7(x:Str)(t:Tok):Kn (.inr x) (.str x t)=true:=by simp[Kn,Value.isStrOf]
def Mw(a b:Int):decide ((Sum.inl a:Key)=Sum.inl b)=(a==b):=by
 by_cases e:a=b
 ·subst e;simp
 ·have h:¬(Sum.inl a:Key)=Sum.inl b:=fun q=>e (Sum.inl.inj q);rw[Yv h];exact(WB.mpr e).symm
def Gz(a b:Str):decide ((Sum.inr a:Key)=Sum.inr b)=decide (a=b):=by
 by_cases e:a=b
 ·subst e;simp
 ·have h:¬(Sum.inr a:Key)=Sum.inr b:=fun q=>e (Sum.inr.inj q);rw[Yv h,Yv e]
def Gi(a:Int)(b:Str):decide ((Sum.inl a:Key)=Sum.inr b)=false:=Yv (fun q=>nomatch q)
def RU(a:Str)(b:Int):decide ((Sum.inr a:Key)=Sum.inl b)=false:=Yv (fun q=>nomatch q)
def Ut(prog:Program)(w:World):PySem.KeyKind prog w Key where
 is:=Kn
 hash:=keyH w
 inj:=fun v a b ha hb=>by
  rcases Xn ha with⟨i,t,rfl,rfl⟩|⟨x,t,rfl,rfl⟩
  ·rcases Xn hb with⟨j,u,rfl,e⟩|⟨y,u,rfl,e⟩
   ·injection e with e1 _;rw[e1]
   ·exact nomatch e
  ·rcases Xn hb with⟨j,u,rfl,e⟩|⟨y,u,rfl,e⟩
   ·exact nomatch e
   ·injection e with e1 _;rw[e1]
 byValue:=fun k v h=>by
  rcases Xn h with⟨i,t,rfl,rfl⟩|⟨x,t,rfl,rfl⟩<;>rfl
 pyHash:=fun hv h=>by
  rcases Xn hv with⟨i,t,rfl,rfl⟩|⟨x,t,rfl,rfl⟩
  ·exact wpAny_pyHash_int h
  ·exact wpAny_pyHash_str h
 eqBool:=fun hu hv h=>by
  rcases Xn hu with⟨i,t,rfl,rfl⟩|⟨x,t,rfl,rfl⟩
  ·rcases Xn hv with⟨j,u,rfl,rfl⟩|⟨y,u,rfl,rfl⟩
   ·rw[Mw]at h;exact wpAny_eqBool_int h
   ·rw[Gi]at h;exact SeqAt.EqAt.int_str i t y u _ _ _ _ h
  ·rcases Xn hv with⟨j,u,rfl,rfl⟩|⟨y,u,rfl,rfl⟩
   ·rw[RU]at h;exact SeqAt.EqAt.str_int x t j u _ _ _ _ h
   ·rw[Gz]at h;exact wpAny_eqBool_str h
 «strs»:=fun k x t v h=>by
  rcases Xn h with⟨i,u,rfl,e⟩|⟨y,u,rfl,e⟩
  ·exact nomatch e
  ·injection e with e1 _;subst e1;cases v<;>rfl
def Gq(prog:Program)(w:World)(i:Int)(t:Tok):(Ut prog w).is (.inl i) (.int i t)=true:=HM i t
def ML(prog:Program)(w:World)(x:Str)(t:Tok):(Ut prog w).is (.inr x) (.str x t)=true:=M7 x t
inductive V where
 |non|bl (b:Bool)|int (i:Int)|str (x:Str)|byt (b:Array UInt8)|flt (b:UInt64)|ref (a:Addr)|ty (n:String)
 deriving DecidableEq
def RelV:V->Value->Prop
 | .non,u=>u=Value.none
 | .bl b,u=>u=Value.bool b
 | .int i,u=>∃t,u=Value.int i t
 | .str x,u=>∃t,u=Value.str x t
 | .byt b,u=>∃t,u=Value.bytes b t
 | .flt b,u=>∃t,u=Value.float b t
 | .ref a,u=>u=Value.ref a
 | .ty n,u=>u=Value.type n
abbrev Vals:List V->List Value->Prop:=Paired RelV
def Vals.length {xs:List V}{us:List Value} (r:Vals xs us):xs.length=us.length:=Paired.length r
def Vals.get:∀{xs:List V}{us:List Value}{i:Nat}{x:V},Vals xs us->xs[i]?=some x->∃u,us[i]?=some u/\RelV x u
 |_,_,_,_,.nil,e=>by simp at e
 |_,_,0,_,.cons r _,e=>by simp at e;subst e;exact⟨_,rfl,r⟩
 |_,_,i+1,x,.cons _ t,e=>by
  obtain⟨u,h1,h2⟩:=Vals.get (i:=i) (x:=x) t (by simpa using e);exact⟨u,by simpa using h1,h2⟩
def Vals.set {x:V}{u:Value} (r:RelV x u):∀{xs:List V}{us:List Value} (i:Nat),Vals xs us->Vals (xs.set i x) (us.set i u)
 |_,_,_,.nil=>.nil
 |_,_,0,.cons _ t=>.cons r t
 |_,_,i+1,.cons q t=>.cons q (Vals.set r i t)
def Vals.append:∀{xs ys:List V}{us ws:List Value},Vals xs us->Vals ys ws->Vals (xs++ys) (us++ws)
 |_,_,_,_,.nil,s=>s
 |_,_,_,_,.cons r t,s=>.cons r (Vals.append t s)
def Vals.take:∀{xs:List V}{us:List Value} (n:Nat),Vals xs us->Vals (xs.take n) (us.take n)
 |_,_,0,_=>.nil
 |_,_,_+1,.nil=>.nil
 |_,_,n+1,.cons r t=>.cons r (Vals.take n t)
def Vals.drop:∀{xs:List V}{us:List Value} (n:Nat),Vals xs us->Vals (xs.drop n) (us.drop n)
 |_,_,0,r=>r
 |_,_,_+1,.nil=>.nil
 |_,_,n+1,.cons _ t=>Vals.drop n t
def RelO:Option V->Option Value->Prop
 |some v,some u=>RelV v u
 |none,none=>True
 |_,_=>False
def KV{κ:Type}:List (κ×V)->List (κ×Value)->Prop:=Paired fun(p:κ×V) (q:κ×Value)=>p.1=q.1/\RelV p.2 q.2
def kV:Key->V
 | .inl i=>.int i
 | .inr x=>.str x
inductive HO where
 |lst (xs:List V)
 |tup (xs:List V)
 |dK (kvs:List (Key×V))|dT (kvs:List (List Key×V))
 |set (S:Int->Bool) (n:Nat)
 |ins (C dx:Addr) (fs:List (Str×V))
 |own (x:Addr)
 |xd (fs:List (Str×V))
 |met (f x:Addr)
 |rng (lo hi:Int)
 |frz (o:Obj) (u:HO)
 |tbl (ps:Array Value)
 |ext (φ:Heap->Prop)
abbrev Hp:=Addr->Option HO
def upd(H:Hp)(a:Addr)(o:HO):Hp:=fun b=>if b=a then some o else H b
def J8{H:Hp}{a:Addr}{o:HO}:upd H a o a=some o:=by unfold upd;rw[Yg rfl]
def Jv{H:Hp}{a b:Addr}{o:HO}(h:b≠a):upd H a o b=H b:=by unfold upd;rw[Ye h]
def GY{H:Hp}{a:Addr}{o u:HO}:upd (upd H a o) a u=upd H a u:=by
 funext b;unfold upd;split<;>rfl
def Dg{H:Hp}{a b:Addr}{o u:HO}(h:H a=some o)(h':H b=some u)(d:o≠u):a≠b:=by
 intro e;subst e;rw[h]at h';exact d (Yl h')
def JN{H:Hp}{a b:Addr}{o:HO}(h:H a=some o)(h':H b=none):a≠b:=by
 intro e;subst e;rw[h]at h';cases h'
section
variable (P:Program) (w:World)
def ObjOk(H:Hp)(h:Heap)(a:Addr):HO->Prop
 | .lst xs=>xs.length<=sizeLine/\∃(its:List Value) (n:Nat),Vals xs its/\h.get? a=some {cls:=.type "list",data:=.seq its.toArray n}
 | .tup xs=>xs.length<=sizeLine/\∃its:List Value,Vals xs its/\IsTup h a its.toArray
 | .dK kvs=>kvs.length<=sizeLine/\(a==sysModules)=false/\∃vs,KV kvs vs/\h.DictOf (Ut P w) a vs
 | .dT kvs=>kvs.length<=sizeLine/\(a==sysModules)=false/\∃xs:List (List Key×Addr×Value),
   Paired (fun(p:List Key×V) (q:List Key×Addr×Value)=>p.1=q.1/\H q.2.1=some (.tup (p.1.map kV))/\RelV p.2 q.2.2) kvs xs/\
   ∃o es ep,h.get? a=some o/\o.ExactDict/\o.data=.dict es ep/\es.toList=xs.map (entryOfKey (tupleKind (Ut P w)))/\(xs.map (·.1)).Nodup
 | .set S n=>h.SetOf (intKind P w) a S n
 | .ins C dx fs=>H dx=some (.own a)/\fs.length<=1000/\dx≠a/\h.get? a=some (PySem.W.instObj C dx)/\
   ∃mA,h.Ns1 dx mA/\(∀f,RelO (fs.lookup f) (mA f))/\PySem.Within mA (fs.map (·.1))
 | .own _=>∃o,h.get? a=some o
 | .xd fs=>∃mA,h.Ns1 a mA/\∀f,RelO (fs.lookup f) (mA f)
 | .rng lo hi=>∃t u v,h.get? a=some {cls:=.type "range",data:=.fields #[.int lo t,.int hi u,.int 1 v]}
 | .frz o u=>h.get? a=some o/\ObjOk H h a u
 | .tbl ps=>h.get? a=some {cls:=.none,data:=.fields ps}
 | .met f x=>h.get? a=some (PySem.W.methodObj (.ref f) (.ref x))
 | .ext φ=>φ h/\(∃o,h.get? a=some o)/\∀h1 h2:Heap,φ h1->(∀o,h1.get? a=some o->h2.get? a=some o)->φ h2
def HOk(H:Hp)(h:Heap):Prop:=∀a o,H a=some o->ObjOk P w H h a o
end
section
variable {P:Program}{w:World}{H H':Hp}{h h':Heap}{a:Addr}{o:HO}
def ObjOk.lt (x:ObjOk P w H h a o):a<h.objs.size:=by
 cases o with
 |lst xs=>obtain⟨_,_,_,_,e⟩:=x;exact Yk e
 |tup xs=>obtain⟨_,_,_,p⟩:=x;exact p.lt
 |dK kvs=>obtain⟨_,_,_,_,o,_,_,e,_⟩:=x;exact Yk e
 |dT kvs=>obtain⟨_,_,_,_,o,_,_,e,_⟩:=x;exact Yk e
 |set S n=>obtain⟨o,_,_,_,e,_⟩:=x;exact Yk e
 |ins C dx fs=>obtain⟨_,_,_,e,_⟩:=x;exact Yk e
 |own y=>obtain⟨_,e⟩:=x;exact Yk e
 |xd fs=>obtain⟨_,⟨_,_,_,e,_⟩,_⟩:=x;exact Yk e
 |rng lo hi=>obtain⟨_,_,_,e⟩:=x;exact Yk e
 |frz ob u=>obtain⟨e,_⟩:=x;exact Yk e
 |tbl ps=>exact Yk (show h.get? a=some _ from x)
 |met f y=>exact Yk (show h.get? a=some _ from x)
 |ext φ=>obtain⟨_,⟨_,e⟩,_⟩:=x;exact Yk e
def Paired.mapP {α β:Type}{F G:α->β->Prop}:∀{l₁:List α}{l₂:List β},Paired F l₁ l₂->(∀a b,F a b->G a b)->Paired G l₁ l₂
 |_,_,.nil,_=>.nil
 |_,_,.cons r t,f=>.cons (f _ _ r) (Paired.mapP t f)
def ObjOk.stay (x:ObjOk P w H h a o) (k:∀b u,(b=a\/H b=some (.own a))->h.get? b=some u->h'.get? b=some u)
  (ho:∀b,H b=some (.own a)->H' b=some (.own a)) (ht:∀b xs,H b=some (.tup xs)->H' b=some (.tup xs)):ObjOk P w H' h' a o:=by
 induction o with
 |lst xs=>obtain⟨z,its,n,r,e⟩:=x;exact⟨z,its,n,r,k _ _ (.inl rfl) e⟩
 |tup xs=>obtain⟨z,its,r,ob,e,c⟩:=x;exact⟨z,its,r,ob,k _ _ (.inl rfl) e,c⟩
 |dK kvs=>obtain⟨z,y,vs,r,ob,es,ep,e,c⟩:=x;exact⟨z,y,vs,r,ob,es,ep,k _ _ (.inl rfl) e,c⟩
 |dT kvs=>
  obtain⟨z,y,xs,r,ob,es,ep,e,c⟩:=x;exact⟨z,y,xs,Paired.mapP r fun p q z=>⟨z.1,ht _ _ z.2.1,z.2.2⟩,ob,es,ep,k _ _ (.inl rfl) e,c⟩
 |set S n=>obtain⟨ob,es,ep,t,e,c⟩:=x;exact⟨ob,es,ep,t,k _ _ (.inl rfl) e,c⟩
 |ins C dx fs=>
  obtain⟨d,z,ne,e,mA,⟨od,es,ep,e2,c⟩,r⟩:=x;exact⟨ho _ d,z,ne,k _ _ (.inl rfl) e,mA,⟨od,es,ep,k _ _ (.inr d) e2,c⟩,r⟩
 |own y=>obtain⟨ob,e⟩:=x;exact⟨ob,k _ _ (.inl rfl) e⟩
 |xd fs=>obtain⟨mA,⟨od,es,ep,e,c⟩,r⟩:=x;exact⟨mA,⟨od,es,ep,k _ _ (.inl rfl) e,c⟩,r⟩
 |rng lo hi=>obtain⟨t,u,v,e⟩:=x;exact⟨t,u,v,k _ _ (.inl rfl) e⟩
 |frz ob u ih=>obtain⟨e,q⟩:=x;exact⟨k _ _ (.inl rfl) e,ih q⟩
 |tbl ps=>
  have e:h.get? a=some {cls:=.none,data:=.fields ps}:=x;show h'.get? a=some {cls:=.none,data:=.fields ps};exact k a _ (.inl rfl) e
 |met f y=>
  have e:h.get? a=some (PySem.W.methodObj (.ref f) (.ref y)):=x;show h'.get? a=some (PySem.W.methodObj (.ref f) (.ref y));exact k a _ (.inl rfl) e
 |ext φ=>obtain⟨p,⟨o,e⟩,st⟩:=x;exact⟨st _ _ p fun o q=>k _ _ (.inl rfl) q,⟨o,k _ _ (.inl rfl) e⟩,st⟩
def HOk.lt (x:HOk P w H h) (e:H a=some o):a<h.objs.size:=(x a o e).lt
def HOk.fresh (x:HOk P w H h) (e:h.objs.size<=a):H a=none:=by
 cases q:H a with
 |none=>rfl
 |some u=>exact absurd (YB (x.lt q) e) (Ws _)
def HOk.kept (x:HOk P w H h) (k:∀b u,h.get? b=some u->h'.get? b=some u):HOk P w H h':=fun a o e=>
 (x a o e).stay (fun b u _ q=>k b u q) (fun _ q=>q) fun _ _ q=>q
def HOk.laid (x:HOk P w H h) (k:∀b u,h.get? b=some u->h'.get? b=some u) (hp:h.objs.size<=a) (new:ObjOk P w (upd H a o) h' a o):HOk P w (upd H a o) h':=fun b u e=>by
 have hn:=x.fresh hp;by_cases hb:b=a
 ·subst hb;rw[J8]at e;cases e;exact new
 ·rw[Jv hb]at e;exact(x b u e).stay (fun c v _ q=>k c v q) (fun c q=>by rw[Jv (JN q hn)];exact q) fun c xs q=>by rw[Jv (JN q hn)];exact q
end
def Rd(H:Hp)(a:Addr)(u:HO):Prop:=H a=some u\/∃o,H a=some (.frz o u)
def Rd.ok {P:Program}{w:World}{H:Hp}{h:Heap}{a:Addr}{u:HO} (r:Rd H a u) (x:HOk P w H h):ObjOk P w H h a u:=by
 rcases r with r|⟨o,r⟩
 ·exact x a u r
 ·obtain⟨_,q⟩:=x a _ r;exact q
def Mut:Option HO->Prop
 |some (.lst _)=>True
 |some (.dK _)=>True
 |some (.dT _)=>True
 |some (.set _ _)=>True
 |some (.ins _ _ _)=>True
 |some (.ext _)=>True
 |_=>False
section
variable {P:Program}{w:World}{H:Hp}{h h':Heap}{x e:Addr}{o':HO}
def HOk.write (ok:HOk P w H h) (mu:Mut (H x)) (he:e=x\/H e=some (.own x)) (k:∀b u,b≠e->h.get? b=some u->h'.get? b=some u) (heo:∃u,h'.get? e=some u)
  (new:ObjOk P w (upd H x o') h' x o'):HOk P w (upd H x o') h':=fun b u q=>by
 have nown:∀c y,H c=some (.own y)->c≠x:=fun c y r z=>by subst z;rw[r]at mu;exact mu
 have ntup:∀c xs,H c=some (.tup xs)->c≠x:=fun c xs r z=>by subst z;rw[r]at mu;exact mu
 by_cases hb:b=x
 ·subst hb;rw[J8]at q;cases q;exact new
 ·rw[Jv hb]at q;by_cases hbe:b=e
  ·have q':H b=some (.own x):=by
    rcases he with z|z
    ·exact absurd (hbe.trans z) hb
    ·rw[hbe];exact z
   rw[q]at q';cases q';obtain⟨v,hv⟩:=heo;exact⟨v,by rw[hbe];exact hv⟩
  ·refine(ok b u q).stay (fun c v hc r=>k c v ?_ r) (fun c r=>by rw[Jv (nown c b r)];exact r) fun c xs r=>by rw[Jv (ntup c xs r)];exact r
   rcases hc with rfl|hc
   ·exact hbe
   ·rintro rfl;rcases he with z|z
    ·exact nown c b hc z
    ·rw[hc]at z;cases z;exact hb rfl
end
structure Un (fs ex:List Addr) (H H':Hp) (h h':Heap):Prop where
 keep:∀b o,h.get? b=some o->H b=none->b∉fs->b∉ex->h'.get? b=some o
 slot:∀b o,h.get? b=some o->H b=none->b∈fs->b∉ex->∃sl,h'.get? b=some {o with slots:=sl}
 free:∀b o,h.get? b=some o->H b=none->b∉ex->H' b=none
 there:∀b o,h.get? b=some o->b∉ex->∃o',h'.get? b=some o'
 tups:∀b xs,H b=some (.tup xs)->H' b=some (.tup xs)
 frzs:∀b o u,H b=some (.frz o u)->H' b=some (.frz o u)
 tbls:∀b ps,H b=some (.tbl ps)->∃more,H' b=some (.tbl (ps++more))
section
variable {fs fs' ex ex':List Addr}{H H1 H2:Hp}{h h1 h2 h':Heap}{a x e:Addr}{o:HO}
def Un.any (u:Un fs ex H H1 h h1) {b:Addr}{ob:Obj} (q:h.get? b=some ob) (n:H b=none) (hx:b∉ex):∃sl,h1.get? b=some {ob with slots:=sl}:=by
 by_cases hb:b∈fs
 ·exact u.slot b ob q n hb hx
 ·exact⟨ob.slots,u.keep b ob q n hb hx⟩
def Un.kept (k:∀b u,h.get? b=some u->h'.get? b=some u):Un fs ex H H h h':=
 ⟨fun b ob q _ _ _=>k b ob q,fun b ob q _ _ _=>⟨ob.slots,k b ob q⟩,fun _ _ _ n _=>n,fun b ob q _=>⟨ob,k b ob q⟩,fun _ _ q=>q,fun _ _ _ q=>q,fun _ ps q=>⟨#[],by rw[q];simp⟩⟩
def Un.refl:Un fs ex H H h h:=Un.kept fun _ _ q=>q
def Un.laid (k:∀b u,h.get? b=some u->h'.get? b=some u) (hp:h.objs.size<=a) (hn:H a=none):Un fs ex H (upd H a o) h h' where
 keep:=fun b u q _ _ _=>k b u q
 slot:=fun b u q _ _ _=>⟨u.slots,k b u q⟩
 free:=fun b u q n _=>by rw[Jv (Y6 (YB (Yk q) hp))];exact n
 there:=fun b u q _=>⟨u,k b u q⟩
 tups:=fun b xs q=>by rw[Jv (JN q hn)];exact q
 frzs:=fun b u xs q=>by rw[Jv (JN q hn)];exact q
 tbls:=fun b ps q=>⟨#[],by rw[Jv (JN q hn),q];simp⟩
def Un.write (mu:Mut (H x)) (he:e=x\/H e=some (.own x)) (k:∀b u,b≠e->h.get? b=some u->h'.get? b=some u) (heo:∃u,h'.get? e=some u):Un fs ex H (upd H x o) h h':=by
 have hx:∀b,H b=none->b≠x:=fun b n z=>by subst z;rw[n]at mu;exact mu
 have hb:∀b,H b=none->b≠e:=fun b n z=>by
  subst z;rcases he with r|r
  ·exact hx b n r
  ·rw[n]at r;cases r
 have hm:∀b u,H b=some u->¬Mut (some u)->b≠x:=fun b u q nm z=>by subst z;rw[q]at mu;exact nm mu
 refine⟨fun b u q n _ _=>k b u (hb b n) q,fun b u q n _ _=>⟨u.slots,k b u (hb b n) q⟩,fun b u q n _=>by rw[Jv (hx b n)];exact n,fun b u q _=>?_,
  fun b xs q=>by rw[Jv (hm b _ q fun z=>z)];exact q,fun b u xs q=>by rw[Jv (hm b _ q fun z=>z)];exact q,fun b ps q=>⟨#[],by rw[Jv (hm b _ q fun z=>z),q];simp⟩⟩
 by_cases hbe:b=e
 ·subst hbe;exact heo
 ·exact⟨u,k b u hbe q⟩
def Un.mono (u:Un fs ex H H1 h h1) (hs:∀b∈fs,b∈fs') (hx:∀b∈ex,b∈ex'):Un fs' ex' H H1 h h1:=
 ⟨fun b ob q n hb he=>u.keep b ob q n (fun z=>hb (hs b z)) fun z=>he (hx b z),fun _ _ q n _ he=>u.any q n fun z=>he (hx _ z),fun b ob q n he=>u.free b ob q n fun z=>he (hx b z),fun b ob q he=>u.there b ob q fun z=>he (hx b z),u.tups,u.frzs,u.tbls⟩
end
def trk(h:Heap)(H:Hp):List Addr:=(List.range h.objs.size).filter fun a=>(H a).isSome
def hidT(h:Heap)(H:Hp):Heap:=PySem.W.hideAll h (trk h H)
def IC(h:Heap)(H:Hp):(hidT h H).objs.size=h.objs.size:=PySem.W.hideAll_size _ _
def E9{h:Heap}{H:Hp}{b:Addr}{o:Obj}(e:h.get? b=some o)(n:H b=none):(hidT h H).get? b=some o:=
 PySem.W.hideAll_get _ e fun hm=>by
  have q:(H b).isSome=true:=(Y9.mp hm).2;rw[n]at q;simp at q
def Bh{h:Heap}{H:Hp}{b:Addr}{o:Obj}(e:(hidT h H).get? b=some o):h.get? b=some o/\H b=none:=by
 have e':h.get? b=some o:=PySem.W.of_hideAll (trk h H) e;refine⟨e',?_⟩;cases q:H b with
 |none=>rfl
 |some x=>
  have hm:b∈trk h H:=Y9.mpr ⟨Wj.mpr (Yk e'),by simp[q]⟩;have z:(hidT h H).get? b=none:=PySem.W.hideAll_none (trk h H) hm;rw[z]at e;cases e
def Zay(g h:Heap)(L:Addr):List (Addr×Obj):=(List.range h.objs.size).filterMap fun a=>if a=L\/(g.get? a).isSome=true then none else(h.get? a).map fun o=>(a,o)
def rest(g h:Heap)(L d:Addr):List (Addr×Obj):=(Zay g h L).filter fun p=>decide (p.1≠d)
structure Mod (K:Za) (mg:Str->Option Value) (base:Heap):Prop where
 kin:K.In base
 glob:base.Ns mainGlobals mg
 blt:∃mb,base.Ns builtinsNs mb/\∀x:Str,x≠"__name__"->mb x=bootBuiltins x
 nolimit:base.NoLimit
structure Cx where
 prog:Program
 w:World
 K:Za
 mg:Str->Option Value
 base:Heap
 A:Around
 N:List Str
 s₀:Shared
 H₀:Hp
 env:Env
 outer:List Env
 stack:List Env
 ex:List Addr
 fn:Str->Bool
 calm:Bool
 pn:List (Addr×Obj)
 xe:Value->Shared->Prop
def frs(l:List Env):List Addr:=l.filterMap (·.frame)
abbrev Cx.fs (X:Cx):List Addr:=frs X.outer
def Vis(sc:Scope)(x:Str):Prop:=sc.names.lookup x=some .local\/sc.names.lookup x=some .cell\/sc.names.lookup x=some .free
def Loc(sc:Scope)(x:Str):Prop:=sc.names.lookup x=some .local\/sc.names.lookup x=some .cell
def Look(env:Env)(h:Heap)(m:Str->Option Value)(x:Str)(u:Value):Prop:=
 (env.kindOf x=some .local/\m x=some u)\/((env.kindOf x=some .cell\/env.kindOf x=some .free)/\∃c,env.cells.lookup x=some c/\h.IsCell c (some u))
structure Cx.Ok (X:Cx):Prop where
 mod:Mod X.K X.mg X.base
 kind:X.env.scope.kind=.function
 glob:X.env.globals=mainGlobals
 blt:X.env.builtins=builtinsNs
 above:X.s₀.heap.objs.size<=X.env.locals
 inj:∀x y c,X.env.cells.lookup x=some c->X.env.cells.lookup y=some c->x=y
 has:∀x,(X.env.kindOf x=some .cell\/X.env.kindOf x=some .free)->∃c,X.env.cells.lookup x=some c
 cab:∀x c,X.fn x=true->X.env.cells.lookup x=some c->X.s₀.heap.objs.size<=c
 hd:X.calm=true->X.A.handled=none
 frames:X.A.frames=some X.stack
 stk:X.stack=X.outer\/(X.stack=X.env::X.outer/\X.env.frame=some X.env.locals)
 exf:∀b∈X.ex,b≠X.env.locals/\∀x c,X.env.cells.lookup x=some c->c≠b
 bs:∀b o,X.base.get? b=some o->X.s₀.heap.get? b=some o/\X.H₀ b=none
 bsz:X.base.objs.size<=X.s₀.heap.objs.size
 noex:∀b o,X.base.get? b=some o->b∉X.ex
 exfs:∀b∈X.ex,b∉X.fs
 funs:X.s₀.heap.FunFrames X.base X.outer
 frf:∀b∈X.fs,X.H₀ b=none
structure Inv (X:Cx) (pins:List (Addr×Obj)) (σ:List (Option V)) (H:Hp) (s:Shared):Prop where
 ok:X.Ok
 os:s.os=X.s₀.os
 bare:AllBare s.gens
 base:Un X.fs X.ex X.H₀ H X.s₀.heap s.heap
 loc:∃m,s.heap.Ns X.env.locals m/\∀(i:Nat) (x:Str) (v:V),X.N[i]?=some x->σ[i]?=some (some v)->Vis X.env.scope x->∃u,RelV v u/\Look X.env s.heap m x u
 cell:∀x c,X.env.cells.lookup x=some c->∃v,s.heap.IsCell c v
 free:H X.env.locals=none
 freeC:∀x c,X.env.cells.lookup x=some c->H c=none
 pin:∀p∈X.pn++pins,s.heap.get? p.1=some p.2/\H p.1=none/\p.1≠X.env.locals/\p.1∉X.fs/\∀v,p.2.data≠.cell v
 hok:HOk X.prog X.w H s.heap
 len:σ.length=X.N.length
section
variable {X:Cx}{pins:List (Addr×Obj)}{σ:List (Option V)}{H H':Hp}{s:Shared}{h':Heap}
def Cx.Ok.nofr (ok:X.Ok) {b:Addr}{o:Obj} (e:X.base.get? b=some o):b∉X.fs:=fun hb=>by
 have:=(ok.funs.mem hb).1
 rw[e]at this;cases this
def Inv.bs (I:Inv X pins σ H s):∀b o,X.base.get? b=some o->s.heap.get? b=some o/\H b=none:=fun b o e=>
 ⟨I.base.keep b o (I.ok.bs b o e).1 (I.ok.bs b o e).2 (I.ok.nofr e) (I.ok.noex b o e),I.base.free b o (I.ok.bs b o e).1 (I.ok.bs b o e).2 (I.ok.noex b o e)⟩
def Inv.bk (I:Inv X pins σ H s):∀b o,X.base.get? b=some o->s.heap.get? b=some o:=fun b o e=>(I.bs b o e).1
def Inv.mod (I:Inv X pins σ H s):Mod X.K X.mg X.base:=I.ok.mod
def Inv.kIn (I:Inv X pins σ H s):X.K.In s.heap:=I.ok.mod.kin.keeps I.bk
def Inv.nolimit (I:Inv X pins σ H s):s.heap.NoLimit:=I.ok.mod.nolimit.keeps I.bk
def Inv.lt (I:Inv X pins σ H s):X.env.locals<s.heap.objs.size:=let ⟨_,hn,_⟩:=I.loc;hn.lt
def Inv.sz (I:Inv X pins σ H s):X.s₀.heap.objs.size<=s.heap.objs.size:=Yx I.ok.above (Qk I.lt)
def Inv.nofs (I:Inv X pins σ H s) {a:Addr} (h:s.heap.objs.size<=a):a∉X.fs:=fun hb=>by
 obtain⟨_,o,ho,_⟩:=I.ok.funs.mem hb;exact absurd (YB (Yk ho) (Yx I.sz h)) (Ws _)
def Inv.cne (I:Inv X pins σ H s):∀x c,X.env.cells.lookup x=some c->c≠X.env.locals:=fun x c e z=>by
 obtain⟨v,o,ho,hd⟩:=I.cell x c e;obtain⟨m,⟨o',es,ep,ho',hd',_⟩,_⟩:=I.loc;rw[z,ho']at ho;cases ho;rw[hd']at hd;cases hd
def Inv.funs (I:Inv X pins σ H s):s.heap.FunFrames X.base X.outer:=by
 have all:∀(l:List Env),(∀b∈frs l,b∈X.fs)->X.s₀.heap.FunFrames X.base l->s.heap.FunFrames X.base l:=by
  intro l
  induction l with
  |nil=>intro _ _;trivial
  |cons env r ih=>
   intro hs hl;obtain⟨hk,⟨L,o,hf,hn,ho,hd⟩,hr⟩:=hl;have hL:L∈X.fs:=hs L (by unfold frs;rw[WC,hf];exact Yy);obtain⟨sl,e⟩:=I.base.slot L o ho (I.ok.frf L hL) hL fun z=>I.ok.exfs L z hL;exact⟨hk,⟨L,_,hf,hn,e,hd⟩,ih (fun b hb=>hs b (by unfold frs;rw[WC,hf];exact Yu _ hb)) hr⟩
 exact all X.outer (fun _ hb=>hb) I.ok.funs
def Inv.stack (I:Inv X pins σ H s):s.heap.FunFrames X.base X.stack:=by
 rcases I.ok.stk with e|⟨e,hf⟩
 ·rw[e];exact I.funs
 ·rw[e];obtain⟨m,hn,_⟩:=I.loc;refine .cons (by rw[I.ok.kind];decide) hf hn ?_ I.funs;exact QP (Yx I.ok.bsz I.ok.above)
def Inv.stkSub (I:Inv X pins σ H s):∀b∈frs X.stack,b∈X.env.locals::X.fs:=fun b hb=>by
 rcases I.ok.stk with e|⟨e,hf⟩
 ·rw[e]at hb;exact Yu _ hb
 ·rw[e]at hb;unfold frs at hb;rw[WC,hf]at hb;exact hb
def Inv.stkFree (I:Inv X pins σ H s):∀b∈frs X.stack,H b=none:=fun b hb=>by
 rcases Yo.mp (I.stkSub b hb)with e|hb
 ·rw[e];exact I.free
 ·obtain⟨_,o,ho,_⟩:=I.ok.funs.mem hb;exact I.base.free b o ho (I.ok.frf b hb) fun z=>I.ok.exfs b z hb
def Inv.step {g':Array GenState}{t':Nat}{d':Drawn}{ch:List Addr} (I:Inv X pins σ H s)
  (hch:∀b∈ch,(b∈X.ex\/X.s₀.heap.objs.size<=b)/\b≠X.env.locals/\(∀x c,X.env.cells.lookup x=some c->c≠b)/\∀p∈X.pn++pins,p.1≠b)
  (keep:∀b o,b≠X.env.locals->b∉X.fs->b∉ch->s.heap.get? b=some o->H b=none->h'.get? b=some o)
  (slot:∀b o,b≠X.env.locals->b∈X.fs->b∉ch->s.heap.get? b=some o->H b=none->∃sl,h'.get? b=some {o with slots:=sl}) (free:∀b o,b∉ch->s.heap.get? b=some o->H b=none->H' b=none)
  (there:∀b o,b∉ch->s.heap.get? b=some o->∃o',h'.get? b=some o')
  (tups:∀b xs,H b=some (.tup xs)->H' b=some (.tup xs)) (frzs:∀b o u,H b=some (.frz o u)->H' b=some (.frz o u)) (tbls:∀b ps,H b=some (.tbl ps)->∃more,H' b=some (.tbl (ps++more)))
  (ns:∀m,s.heap.Ns X.env.locals m->h'.Ns X.env.locals m) (hok:HOk X.prog X.w H' h') (hg:AllBare g') :
  Inv X pins σ H' {s with heap:=h',gens:=g',drawn:=d',toks:=t'}:=by
 have neL:∀b o,X.s₀.heap.get? b=some o->b≠X.env.locals:=fun b o e=>Y6 (YB (Yk e) I.ok.above)
 have neC:∀b o,X.s₀.heap.get? b=some o->b∉X.ex->b∉ch:=fun b o e hx hb=>by
  rcases(hch b hb).1 with z|z
  ·exact hx z
  ·exact absurd (YB (Yk e) z) (Ws _)
 have cellK:∀x c,X.env.cells.lookup x=some c->∀v,s.heap.IsCell c v->h'.IsCell c v:=fun x c e v ⟨o,ho,hd⟩=>by
  have nch:c∉ch:=fun z=>(hch c z).2.2.1 x c e rfl;by_cases hc:c∈X.fs
  ·obtain⟨sl,q⟩:=slot c o (I.cne x c e) hc nch ho (I.freeC x c e);exact⟨_,q,hd⟩
  ·exact⟨o,keep c o (I.cne x c e) hc nch ho (I.freeC x c e),hd⟩
 refine⟨I.ok,I.os,hg,⟨fun b o e n hb hx=>?_,fun b o e n hb hx=>?_,fun b o e n hx=>?_,fun b o e hx=>?_,fun b xs e=>tups b xs (I.base.tups b xs e),fun b o xs e=>frzs b o xs (I.base.frzs b o xs e),fun b ps e=>?_⟩,?_,fun x c e=>?_,?_,fun x c e=>?_,fun p hp=>?_,hok,I.len⟩
 ·exact keep b o (neL b o e) hb (neC b o e hx) (I.base.keep b o e n hb hx) (I.base.free b o e n hx)
 ·obtain⟨sl,e1⟩:=I.base.slot b o e n hb hx;obtain⟨sl',e2⟩:=slot b _ (neL b o e) hb (neC b o e hx) e1 (I.base.free b o e n hx);exact⟨sl',e2⟩
 ·obtain⟨o',e1⟩:=I.base.there b o e hx;exact free b o' (neC b o e hx) e1 (I.base.free b o e n hx)
 ·obtain⟨o',e1⟩:=I.base.there b o e hx;exact there b o' (neC b o e hx) e1
 ·obtain⟨m1,e1⟩:=I.base.tbls b ps e;obtain⟨m2,e2⟩:=tbls b _ e1;exact⟨m1++m2,by rw[e2,Array.append_assoc]⟩
 ·obtain⟨m,hn,hl⟩:=I.loc;refine⟨m,ns m hn,fun i x v e1 e2 e3=>?_⟩;obtain⟨u,r,l⟩:=hl i x v e1 e2 e3;refine⟨u,r,?_⟩;rcases l with l|⟨k,c,e,z⟩
  ·exact .inl l
  ·exact .inr ⟨k,c,e,cellK x c e _ z⟩
 ·obtain⟨v,z⟩:=I.cell x c e;exact⟨v,cellK x c e v z⟩
 ·obtain⟨m,⟨o,_,_,ho,_⟩,_⟩:=I.loc;exact free _ o (fun z=>(hch _ z).2.1 rfl) ho I.free
 ·obtain⟨v,o,ho,hd⟩:=I.cell x c e;exact free c o (fun z=>(hch c z).2.2.1 x c e rfl) ho (I.freeC x c e)
 ·obtain⟨e,n,ne,nf,d⟩:=I.pin p hp;have nch:p.1∉ch:=fun z=>(hch p.1 z).2.2.2 p hp rfl;exact⟨keep p.1 p.2 ne nf nch e n,free p.1 p.2 nch e n,ne,nf,d⟩
def Inv.un {t':Nat} (I:Inv X pins σ H s) (u:Un X.fs [] H H' s.heap h') (hok:HOk X.prog X.w H' h'):Inv X pins σ H' {s with heap:=h',toks:=t'}:=by
 obtain⟨m,⟨o,es,ep,ho,r⟩,_⟩:=id I.loc;obtain⟨sl,hL⟩:=u.any ho I.free (by simp)
 exact I.step (g':=s.gens) (d':=s.drawn) (ch:=[]) (fun _ z=>nomatch z) (fun b o _ hb _ e n=>u.keep b o e n hb (by simp)) (fun b o _ hb _ e n=>u.slot b o e n hb (by simp)) (fun b o _ e n=>u.free b o e n (by simp)) (fun b o _ e=>u.there b o e (by simp)) u.tups u.frzs u.tbls (fun m' hm=>by
  obtain⟨o',es',ep',ho',r'⟩:=hm;rw[ho]at ho';cases ho';exact⟨_,es',ep',hL,r'⟩) hok I.bare
def Inv.call {g':Array GenState}{t':Nat}{d':Drawn}{ch:List Addr} (I:Inv X pins σ H s) (u:Un (frs X.stack) ch H H' s.heap h') (hok:HOk X.prog X.w H' h') (hg:AllBare g')
  (hch:∀b∈ch,(b∈X.ex\/X.s₀.heap.objs.size<=b)/\b≠X.env.locals/\(∀x c,X.env.cells.lookup x=some c->c≠b)/\∀p∈X.pn++pins,p.1≠b) :
  Inv X pins σ H' {s with heap:=h',gens:=g',drawn:=d',toks:=t'}:=by
 obtain⟨m,⟨o,es,ep,ho,r⟩,_⟩:=id I.loc;obtain⟨sl,hL⟩:=u.any ho I.free fun z=>(hch _ z).2.1 rfl
 exact I.step (ch:=ch) hch (fun b o hL hb hc e n=>u.keep b o e n (fun z=>(Yo.mp (I.stkSub b z)).elim hL hb) hc) (fun b o _ _ hc e n=>u.any e n hc) (fun b o hc e n=>u.free b o e n hc) (fun b o hc e=>u.there b o e hc) u.tups u.frzs u.tbls (fun m' hm=>by
  obtain⟨o',es',ep',ho',r'⟩:=hm;rw[ho]at ho';cases ho';exact⟨_,es',ep',hL,r'⟩) hok hg
def Inv.turned {t':Nat}{it:Addr} (I:Inv X pins σ H s) (k:∀b o,b≠it->s.heap.get? b=some o->h'.get? b=some o) (hn:H it=none) (hL:it≠X.env.locals)
  (h1:it∈X.ex\/X.s₀.heap.objs.size<=it) (h2:∀x c,X.env.cells.lookup x=some c->c≠it) (h3:∀p∈X.pn++pins,p.1≠it):Inv X pins σ H {s with heap:=h',toks:=t'}:=by
 have nit:∀b u,H b=some u->b≠it:=fun b u e z=>by rw[z,hn]at e;cases e
 refine I.step (g':=s.gens) (d':=s.drawn) (ch:=[it]) (fun b hb=>?_) (fun b o _ _ hc e _=>k b o (fun z=>hc (by simp[z])) e) (fun b o _ _ hc e _=>⟨o.slots,k b o (fun z=>hc (by simp[z])) e⟩) (fun _ _ _ _ n=>n)
  (fun b o hc e=>⟨o,k b o (fun z=>hc (by simp[z])) e⟩) (fun _ _ e=>e) (fun _ _ _ e=>e) (fun b ps e=>⟨#[],by rw[e];simp⟩) (fun m hm=>?_) (fun b u e=>?_) I.bare
 ·have e:b=it:=by simpa using hb
  subst e;exact⟨h1,hL,h2,h3⟩
 ·obtain⟨o,es,ep,ho,r⟩:=hm;exact⟨o,es,ep,k _ o (Ne.symm hL) ho,r⟩
 ·refine(I.hok b u e).stay (fun c v hc q=>k c v ?_ q) (fun _ q=>q) fun _ _ q=>q;rcases hc with z|z
  ·rw[z];exact nit b u e
  ·exact nit c _ z
def Inv.tok (I:Inv X pins σ H s) (t:Nat):Inv X pins σ H {s with toks:=t}:=I.un (h':=s.heap) (t':=t) Un.refl I.hok
def Inv.kept {t':Nat} (I:Inv X pins σ H s) (k:∀b u,s.heap.get? b=some u->h'.get? b=some u):Inv X pins σ H {s with heap:=h',toks:=t'}:=I.un (Un.kept k) (I.hok.kept k)
def Inv.laid {a:Addr}{o:HO}{t':Nat} (I:Inv X pins σ H s) (k:∀b u,s.heap.get? b=some u->h'.get? b=some u) (hp:s.heap.objs.size<=a) (new:ObjOk X.prog X.w (upd H a o) h' a o) :
  Inv X pins σ (upd H a o) {s with heap:=h',toks:=t'}:=I.un (Un.laid k hp (I.hok.fresh hp)) (I.hok.laid k hp new)
def Inv.write {x e:Addr}{o:HO}{t':Nat} (I:Inv X pins σ H s) (mu:Mut (H x)) (he:e=x\/H e=some (.own x)) (k:∀b u,b≠e->s.heap.get? b=some u->h'.get? b=some u) (heo:∃u,h'.get? e=some u)
  (new:ObjOk X.prog X.w (upd H x o) h' x o):Inv X pins σ (upd H x o) {s with heap:=h',toks:=t'}:=I.un (Un.write mu he k heo) (I.hok.write mu he k heo new)
def Inv.weak {σ':List (Option V)} (I:Inv X pins σ H s) (hl:σ'.length=σ.length) (w:∀(i:Nat) v,σ'[i]?=some (some v)->σ[i]?=some (some v)):Inv X pins σ' H s:=
 ⟨I.ok,I.os,I.bare,I.base,let ⟨m,hn,hl'⟩:=I.loc;⟨m,hn,fun i x v e1 e2 e3=>hl' i x v e1 (w i v e2) e3⟩,I.cell,I.free,I.freeC,I.pin,I.hok,hl.trans I.len⟩
def Inv.pins_of {pins':List (Addr×Obj)} (I:Inv X pins σ H s) (h:∀p∈pins',s.heap.get? p.1=some p.2/\H p.1=none/\p.1≠X.env.locals/\p.1∉X.fs/\∀v,p.2.data≠.cell v):Inv X pins' σ H s:=
 ⟨I.ok,I.os,I.bare,I.base,I.loc,I.cell,I.free,I.freeC,fun p hp=>(Yz.mp hp).elim (fun z=>I.pin p (WR _ z)) (h p),I.hok,I.len⟩
def Ej{N:List Str}(hN:N.Nodup){i j:Nat}{x:Str}(a:N[i]?=some x)(b:N[j]?=some x):i=j:=by
 obtain⟨h1,e1⟩:=Y2.mp a;obtain⟨h2,e2⟩:=Y2.mp b;exact(QH hN).mp (e1.trans e2.symm)
def OI{M:Model}{A:Around}{E:Value->Shared->Prop}{i:Nat}{x:Str}{v:V}{u:Value}{Q:Unit->Shared->Prop}(I:Inv X pins σ H s)(hN:X.N.Nodup)(hi:X.N[i]?=some x)(hx:Loc X.env.scope x)(r:RelV v u)(h:∀s',Inv X pins (σ.set i (some v)) H s'->(∃a,Heap.SameBut a s.heap s'.heap/\(a=X.env.locals\/X.env.cells.lookup x=some a))->Q () s')(hf:X.fn x=true\/X.env.scope.names.lookup x=some .local:=by first|exact .inl rfl|exact .inr rfl|assumption):wpAny M A (storeName X.env x u) Q E s:=by
 obtain⟨m,hn,hl⟩:=id I.loc;have hcls:(X.env.scope.kind == .class || (X.env.scope.kind == .module&&X.env.locals != X.env.globals))=false:=by rw[I.ok.kind];rfl
 have hiσ:i<σ.length:=by rw[I.len];exact(Y2.mp hi).1
 have cne:=I.cne
 have tracked:∀{a:Addr} {h':Heap},(∃o,s.heap.get? a=some o/\H a=none)->Heap.SameBut a s.heap h'->HOk X.prog X.w H h':=fun {a h'} ha hs b ob e=>by
  obtain⟨_,_,hfree⟩:=ha;refine(I.hok b ob e).stay (fun c w' hc q=>(hs.2 c ?_).trans q) (fun _ q=>q) fun _ _ q=>q;rintro rfl;rcases hc with rfl|hc
  ·rw[hfree]at e;cases e
  ·rw[hfree]at hc;cases hc
 rcases hx with hk|hk
 ·refine wpAny_storeName_local hk hn (fun h' hn' hs=>?_) hcls;obtain⟨oL,_,_,hoL,_⟩:=id hn;refine h _ ⟨I.ok,I.os,I.bare,⟨fun b o e n hb hx=>?_,fun b o e n hb hx=>?_,I.base.free,fun b o e hx=>?_,I.base.tups,I.base.frzs,I.base.tbls⟩,⟨_,hn',fun j y v' e1 e2 e3=>?_⟩,fun y c e=>?_,I.free,I.freeC,fun p hp=>?_,tracked ⟨oL,hoL,I.free⟩ hs,by simpa using I.len⟩ ⟨_,hs,.inl rfl⟩
  ·exact(hs.2 b (Y6 (YB (Yk e) I.ok.above))).trans (I.base.keep b o e n hb hx)
  ·obtain⟨sl,e1⟩:=I.base.slot b o e n hb hx;exact⟨sl,(hs.2 b (Y6 (YB (Yk e) I.ok.above))).trans e1⟩
  ·obtain⟨o',e1⟩:=I.base.there b o e hx;exact⟨o',(hs.2 b (Y6 (YB (Yk e) I.ok.above))).trans e1⟩
  ·by_cases hj:j=i
   ·subst hj;rw[hi]at e1;cases e1;rw[Q9 hiσ]at e2;cases e2
    exact⟨u,r,.inl ⟨hk,by simp⟩⟩
   ·rw[Qp (Ne.symm hj)]at e2;obtain⟨u',r',q⟩:=hl j y v' e1 e2 e3;refine⟨u',r',?_⟩;rcases q with⟨k,e⟩|⟨k,c,e,z⟩
    ·refine .inl ⟨k,?_⟩
     have:y≠x:=fun e=>hj (Ej hN e1 (e▸hi))
     simp[this,e]
    ·exact .inr ⟨k,c,e,z.sameBut hs (cne y c e)⟩
  ·obtain⟨w',z⟩:=I.cell y c e;exact⟨w',z.sameBut hs (cne y c e)⟩
  ·obtain⟨e,n,ne,nf,d⟩:=I.pin p hp;exact⟨(hs.2 p.1 ne).trans e,n,ne,nf,d⟩
 ·have hfn:X.fn x=true:=by
   rcases hf with z|z
   ·exact z
   ·rw[z]at hk;cases hk
  obtain⟨c,hc⟩:=I.ok.has x (.inl hk);obtain⟨w',z⟩:=I.cell x c hc;refine wpAny_storeName_cell I.ok.kind hk hc z (fun h' hc' hs=>?_);obtain⟨oc,hoc,hocd⟩:=id z;refine h {s with heap:=h'} ⟨I.ok,I.os,I.bare,⟨fun b o e n hb hx=>?_,fun b o e n hb hx=>?_,I.base.free,fun b o e hx=>?_,I.base.tups,I.base.frzs,I.base.tbls⟩,⟨m,hn.sameBut hs (Ne.symm (cne x c hc)),fun j y v' e1 e2 e3=>?_⟩,fun y c' e=>?_,I.free,I.freeC,fun p hp=>?_,tracked ⟨oc,hoc,I.freeC x c hc⟩ hs,by simpa using I.len⟩ ⟨c,hs,.inr hc⟩
  ·exact(hs.2 b (Y6 (YB (Yk e) (I.ok.cab x c hfn hc)))).trans (I.base.keep b o e n hb hx)
  ·obtain⟨sl,e1⟩:=I.base.slot b o e n hb hx;exact⟨sl,(hs.2 b (Y6 (YB (Yk e) (I.ok.cab x c hfn hc)))).trans e1⟩
  ·obtain⟨o',e1⟩:=I.base.there b o e hx;exact⟨o',(hs.2 b (Y6 (YB (Yk e) (I.ok.cab x c hfn hc)))).trans e1⟩
  ·by_cases hj:j=i
   ·subst hj;rw[hi]at e1;cases e1;rw[Q9 hiσ]at e2;cases e2
    exact⟨u,r,.inr ⟨.inl hk,c,hc,hc'⟩⟩
   ·rw[Qp (Ne.symm hj)]at e2;obtain⟨u',r',q⟩:=hl j y v' e1 e2 e3;refine⟨u',r',?_⟩;rcases q with q|⟨k,c',e,z'⟩
    ·exact .inl q
    ·refine .inr ⟨k,c',e,z'.sameBut hs ?_⟩;rintro rfl;exact hj (Ej hN e1 (I.ok.inj _ _ _ e hc▸hi))
  ·by_cases hcc:c'=c
   ·subst hcc;exact⟨_,hc'⟩
   ·obtain⟨w2,z2⟩:=I.cell y c' e;exact⟨w2,z2.sameBut hs hcc⟩
  ·obtain⟨e,n,ne,nf,d⟩:=I.pin p hp;refine⟨(hs.2 p.1 ?_).trans e,n,ne,nf,d⟩;intro q;rw[q,hoc]at e;have q':oc=p.2:=Yl e;exact d w' (by rw[←q'];exact hocd)
def Kg{M:Model}{A:Around}{E:Value->Shared->Prop}{i:Nat}{x:Str}{v:V}{u:Value}{Q:Unit->Shared->Prop}(I:Inv X pins σ H s)(hN:X.N.Nodup)(hi:X.N[i]?=some x)(hx:Loc X.env.scope x)(r:RelV v u)(h:∀s',Inv X pins (σ.set i (some v)) H s'->Q () s')(hf:X.fn x=true\/X.env.scope.names.lookup x=some .local:=by first|exact .inl rfl|exact .inr rfl|assumption):wpAny M A (storeName X.env x u) Q E s:=
 OI I hN hi hx r (fun s' I' _=>h s' I') hf
def Inv.call' {s':Shared}{ch:List Addr} (I:Inv X pins σ H s) (ho:s'.os=s.os) (u:Un (frs X.stack) ch H H' s.heap s'.heap) (hok:HOk X.prog X.w H' s'.heap) (hg:AllBare s'.gens)
  (hch:∀b∈ch,(b∈X.ex\/X.s₀.heap.objs.size<=b)/\b≠X.env.locals/\(∀x c,X.env.cells.lookup x=some c->c≠b)/\∀p∈X.pn++pins,p.1≠b):Inv X pins σ H' s':=by
 obtain⟨h',g',d',t',o'⟩:=s';have e:o'=s.os:=ho;subst e;exact I.call (g':=g') (t':=t') (d':=d') u hok hg hch
end
abbrev XK:=Value->Option Addr->Hp->Prop
abbrev St:=List (Option V)
abbrev VK:=V->Hp->Prop
abbrev TE:=St->Hp->VK->Prop
abbrev TT:=St->Hp->(Bool->Hp->Prop)->Prop
abbrev TA:=St->Hp->(List V->Hp->Prop)->Prop
structure Ends where
 nx:St->Hp->Prop
 rt:VK
 bk:St->Hp->Prop:=fun _ _=>False
 ct:St->Hp->Prop:=fun _ _=>False
abbrev TS:=Ends->St->Hp->Prop
def EP(X:Cx)(pins:List (Addr×Obj))(σ:St)(Q:VK)(u:Value)(s':Shared):Prop:=∃v H',Inv X pins σ H' s'/\RelV v u/\Q v H'
def TP(X:Cx)(pins:List (Addr×Obj))(σ:St)(Q:Bool->Hp->Prop)(b:Bool)(s':Shared):Prop:=∃H',Inv X pins σ H' s'/\Q b H'
def AP(X:Cx)(pins:List (Addr×Obj))(σ:St)(Q:List V->Hp->Prop)(us:List Value)(s':Shared):Prop:=∃vs H',Inv X pins σ H' s'/\Vals vs us/\Q vs H'
def SP(X:Cx)(pins:List (Addr×Obj))(D:Ends)(f:Flow)(s':Shared):Prop:=
 match f with
 | .next=>∃σ' H',Inv X pins σ' H' s'/\D.nx σ' H'
 | .brk=>∃σ' H',Inv X pins σ' H' s'/\D.bk σ' H'
 | .cont=>∃σ' H',Inv X pins σ' H' s'/\D.ct σ' H'
 | .ret u=>∃v σ' H',Inv X pins σ' H' s'/\RelV v u/\D.rt v H'
def PE(X:Cx)(e:Expr)(t:TE):Prop:=
 ∀(pins:List (Addr×Obj)) (s:Shared) (σ:St) (H:Hp) (Q:VK),Inv X pins σ H s->t σ H Q->wpAny (model X.prog X.w) X.A (eval e X.env) (EP X pins σ Q) X.xe s
def PT(X:Cx)(e:Expr)(t:TT):Prop:=
 ∀(pins:List (Addr×Obj)) (s:Shared) (σ:St) (H:Hp) (Q:Bool->Hp->Prop),Inv X pins σ H s->t σ H Q->wpAny (model X.prog X.w) X.A (isTrue e X.env (eval e X.env)) (TP X pins σ Q) X.xe s
def PW(X:Cx)(e:Expr)(t:TT):Prop:=
 ∀(whole:Sem Value) (pins:List (Addr×Obj)) (s:Shared) (σ:St) (H:Hp) (Q:Bool->Hp->Prop),Inv X pins σ H s->t σ H Q->wpAny (model X.prog X.w) X.A (isTrue e X.env whole) (TP X pins σ Q) X.xe s
def PW.pt {X:Cx}{e:Expr}{t:TT} (h:PW X e t):PT X e t:=h _
def PA(X:Cx)(es:List Expr)(t:TA):Prop:=
 ∀(pos:Pos) (pins:List (Addr×Obj)) (s:Shared) (σ:St) (H:Hp) (Q:List V->Hp->Prop),Inv X pins σ H s->t σ H Q->wpAny (model X.prog X.w) X.A (spliced (backTo pos (starEach es X.env))) (AP X pins σ Q) X.xe s
def PS(X:Cx)(st:Stmt)(t:TS):Prop:=
 ∀(pins:List (Addr×Obj)) (s:Shared) (σ:St) (H:Hp) (D:Ends),Inv X pins σ H s->t D σ H->wpAny (model X.prog X.w) X.A (exec st X.env) (SP X pins D) X.xe s
def PSs(X:Cx)(st:List Stmt)(t:TS):Prop:=
 ∀(pins:List (Addr×Obj)) (s:Shared) (σ:St) (H:Hp) (D:Ends),Inv X pins σ H s->t D σ H->wpAny (model X.prog X.w) X.A (execs st X.env) (SP X pins D) X.xe s
def thn{α:Type}{t:Sem α}{Q Q':α->Shared->Prop}{M:Model}{A:Around}{E:Value->Shared->Prop}{s:Shared}(h:wpAny M A t Q E s)(hQ:∀a s,Q a s->Q' a s):wpAny M A t Q' E s:=YU h hQ fun _ _ x=>x
section
variable {X:Cx}
def bin{a b:Expr}{ta tb:TE}(ha:PE X a ta)(hb:PE X b tb){pins:List (Addr×Obj)}{s:Shared}{σ:St}{H:Hp}{R:V->V->Hp->Prop}(I:Inv X pins σ H s)(h:ta σ H fun x H1=>tb σ H1 fun y H2=>R x y H2){α:Type}{Q:α->Shared->Prop}{f:Value->Value->Sem α}(hf:∀v u s2 x y H2,Inv X pins σ H2 s2->RelV x v->RelV y u->R x y H2->wpAny (model X.prog X.w) X.A (f v u) Q X.xe s2) :
  wpAny (model X.prog X.w) X.A (eval a X.env) (fun v s₁=>wpAny (model X.prog X.w) X.A (eval b X.env) (fun u s₂=>wpAny (model X.prog X.w) X.A (f v u) Q X.xe s₂) X.xe s₁) X.xe s:=by
 refine thn (ha pins s σ H _ I h) fun v s1 ⟨x,H1,I1,r1,q1⟩=>?_;refine thn (hb pins s1 σ H1 _ I1 q1) fun u s2 ⟨y,H2,I2,r2,q2⟩=>?_;exact hf v u s2 x y H2 I2 r1 r2 q2
def tVar(i:Nat):TE:=fun σ H Q=>∃v,σ[i]?=some (some v)/\Q v H
def tC(v:V):TE:=fun _ H Q=>Q v H
def LY{i:Nat}{x:Str}{pos:Pos}(hN:X.N[i]?=some x)(hv:Vis X.env.scope x)(hd:(x==("__debug__" : Str))=false:=by decide)(hcd:(x==("__classdict__" : Str))=false:=by decide):PE X (.Name x pos) (tVar i):=by
 intro pins s σ H Q I h;obtain⟨v,e,h⟩:=h;obtain⟨m,hn,hl⟩:=I.loc;obtain⟨u,r,l⟩:=hl i x v hN e hv;have fin:EP X pins σ Q u s:=⟨v,H,I,r,h⟩;rcases l with⟨hk,hm⟩|⟨hk,c,hc,hcell⟩
 ·exact wpAny_Name (wpAny_loadName_local I.ok.kind hk hn hm fin) hd
 ·rcases hk with hk|hk
  ·exact wpAny_Name (wpAny_loadName_cell I.ok.kind hk hc hcell fin) hd
  ·exact wpAny_Name (wpAny_loadName_free I.ok.kind hk hc hcell fin hcd) hd
def Ji{i j pos}:PE X (.Constant (.int i) j pos) (tC (.int i)):=fun _ _ _ H _ I h=>wpAny_Constant_int ⟨.int i,H,I.tok _,⟨_,rfl⟩,h⟩
def Up{b j pos}:PE X (.Constant (.bool b) j pos) (tC (.bl b)):=fun _ _ _ H _ I h=>Constant_bool ⟨.bl b,H,I,rfl,h⟩
def T7{x j pos}:PE X (.Constant (.str x) j pos) (tC (.str x)):=fun _ _ _ H _ I h=>Calls.Constant_str ⟨.str x,H,I.tok _,⟨_,rfl⟩,h⟩
def Gl(X:Cx)(x:Str):Prop:=X.env.kindOf x=some .globalImplicit
def Th{E:Value->Shared->Prop}{pins:List (Addr×Obj)}{s:Shared}{σ:St}{H:Hp}{x:Str}{u:Value}{pos:Pos}{Q:Value->Shared->Prop}(I:Inv X pins σ H s)(hg:Gl X x)(hm:X.mg x=some u)(h:Q u s)(hd:(x==("__debug__" : Str))=false:=by decide):wpAny (model X.prog X.w) X.A (eval (.Name x pos) X.env) Q E s:=
 Calls.Name_function_global I.ok.kind hg (Calls.loadGlobal_global (by rw[I.ok.glob];exact I.mod.glob.keeps I.bk) hm h) hd
def Kl{E:Value->Shared->Prop}{pins:List (Addr×Obj)}{s:Shared}{σ:St}{H:Hp}{x:Str}{u:Value}{pos:Pos}{Q:Value->Shared->Prop}(I:Inv X pins σ H s)(hg:Gl X x)(hm:X.mg x=none)(hv:bootBuiltins x=some u)(h:Q u s)(hn:x≠"__name__":=by decide)(hd:(x==("__debug__" : Str))=false:=by decide):wpAny (model X.prog X.w) X.A (eval (.Name x pos) X.env) Q E s:=by
 obtain⟨mb,h1,h2⟩:=I.mod.blt;exact Calls.Name_function_global I.ok.kind hg (Calls.loadGlobal_builtin (by rw[I.ok.glob];exact I.mod.glob.keeps I.bk) hm (by rw[I.ok.blt];exact h1.keeps I.bk) ((h2 x hn).trans hv) h) hd
def GI{x:Str}{v:V}{u:Value}{pos:Pos}(hg:Gl X x)(hm:X.mg x=some u)(r:RelV v u)(hd:(x==("__debug__" : Str))=false:=by decide):PE X (.Name x pos) (tC v):=
 fun _ _ _ H _ I h=>Th I hg hm ⟨v,H,I,r,h⟩ hd
def XD{x:Str}{v:V}{u:Value}{pos:Pos}(hg:Gl X x)(hm:X.mg x=none)(hv:bootBuiltins x=some u)(r:RelV v u)(hn:x≠"__name__":=by decide)(hd:(x==("__debug__" : Str))=false:=by decide):PE X (.Name x pos) (tC v):=
 fun _ _ _ H _ I h=>Kl I hg hm hv ⟨v,H,I,r,h⟩ hn hd
variable {a b:Expr}{ta tb:TE}{pos:Pos}
def PC(X:Cx)(op:CmpOp)(a b:Expr)(t:TE):Prop:=
 ∀(pins:List (Addr×Obj)) (s:Shared) (σ:St) (H:Hp) (Q:VK),Inv X pins σ H s->t σ H Q->
  wpAny (model X.prog X.w) X.A (eval a X.env) (fun v s₁=>wpAny (model X.prog X.w) X.A (eval b X.env) (fun u s₂=>wpAny (model X.prog X.w) X.A (compareOp op v u) (EP X pins σ Q) X.xe s₂) X.xe s₁) X.xe s
def Hj(b:Expr){op:CmpOp}(h:op≠.In)(h2:op≠.NotIn):behindInMarks op b=false:=by
 have e1:(op==CmpOp.In)=false:=by cases op<;>first|rfl|exact absurd rfl h
 have e2:(op==CmpOp.NotIn)=false:=by cases op<;>first|rfl|exact absurd rfl h2
 cases b<;>simp[behindInMarks,e1,e2]
def tB(t:TE):TT:=fun σ H Q=>t σ H fun x H1=>∃c,x=.bl c/\Q c H1
def Lq{op:CmpOp}{t:TE}(h:PC X op a b t)(h1:behindInMarks op b=false:=by first|exact Hj _ (by decide) (by decide)|rfl):PT X (.Compare a [op] [b] pos) (tB t):=by
 intro pins s σ H Q I hw;refine wpAny_isTrue_Compare1 (thn (h pins s σ H _ I hw) fun v s1 h1=>thn h1 fun u s2 h2=>thn h2 fun c s3 ⟨x,H1,I1,r1,q1⟩=>?_) h1;obtain⟨d,rfl,q⟩:=q1;cases r1
 exact W6 ⟨H1,I1,q⟩
variable {tA tB':TT}{rest:List Expr}
def tAnd(t u:TT):TT:=fun σ H Q=>t σ H fun c H1=>if c=true then u σ H1 Q else Q false H1
def tOr(t u:TT):TT:=fun σ H Q=>t σ H fun c H1=>if c=true then Q true H1 else u σ H1 Q
def tNot(t:TT):TT:=fun σ H Q=>t σ H fun c H1=>Q (!c) H1
def Kz(ha:PT X a tA):PW X (.BoolOp .And [a] pos) tA:=by
 intro wh pins s σ H Q I h;refine isTrue_and (thn (ha pins s σ H Q I h) fun c s1 e=>?_);cases c with
 |true=>exact isTrue_and_nil e
 |false=>exact e
def UJ(ha:PT X a tA):PW X (.BoolOp .Or [a] pos) tA:=by
 intro wh pins s σ H Q I h;refine isTrue_or (thn (ha pins s σ H Q I h) fun c s1 e=>?_);cases c with
 |false=>exact isTrue_or_nil e
 |true=>exact e
def XN(ha:PT X a tA)(hb:PW X (.BoolOp .And (b::rest) pos) tB'):PW X (.BoolOp .And (a::b::rest) pos) (tAnd tA tB'):=by
 intro wh pins s σ H Q I h;refine isTrue_and (thn (ha pins s σ H _ I h) fun c s1 ⟨H1,I1,q1⟩=>?_);cases c with
 |true=>exact hb wh pins s1 σ H1 Q I1 q1
 |false=>exact⟨H1,I1,q1⟩
def U8(ha:PT X a tA)(hb:PW X (.BoolOp .Or (b::rest) pos) tB'):PW X (.BoolOp .Or (a::b::rest) pos) (tOr tA tB'):=by
 intro wh pins s σ H Q I h;refine isTrue_or (thn (ha pins s σ H _ I h) fun c s1 ⟨H1,I1,q1⟩=>?_);cases c with
 |true=>exact⟨H1,I1,q1⟩
 |false=>exact hb wh pins s1 σ H1 Q I1 q1
def U9(ha:PT X a tA):PT X (.UnaryOp .Not a pos) (tNot tA):=by
 intro pins s σ H Q I h;exact isTrue_not (ha pins s σ H (fun c H1=>Q (!c) H1) I h)
def Cg(ta tb:TE):TE:=fun σ H Q=>ta σ H fun x H1=>∃c,x=.bl c/\if c=true then tb σ H1 Q else Q (.bl false) H1
def tOrV(ta tb:TE):TE:=fun σ H Q=>ta σ H fun x H1=>∃c,x=.bl c/\if c=true then Q (.bl true) H1 else tb σ H1 Q
def DA(ta:TE):TE:=fun σ H Q=>ta σ H fun x H1=>∃c,x=.bl c/\Q (.bl (!c)) H1
def P2{op}{t:TE}(h:PE X a t):PE X (.BoolOp op [a] pos) t:=fun pins s σ H Q I hw=>BoolOp_one (h pins s σ H Q I hw)
def PL(ha:PE X a ta)(hb:PE X (.BoolOp .And (b::rest) pos) tb):PE X (.BoolOp .And (a::b::rest) pos) (Cg ta tb):=by
 intro pins s σ H Q I h;refine BoolOp_and (thn (ha pins s σ H _ I h) fun v s1 ⟨x,H1,I1,r1,q1⟩=>?_);obtain⟨c,rfl,q1⟩:=q1;cases r1
 refine W6 ?_;cases c with
 |true=>exact hb pins s1 σ H1 Q I1 q1
 |false=>exact⟨.bl false,H1,I1,rfl,q1⟩
def GN(ha:PE X a ta)(hb:PE X (.BoolOp .Or (b::rest) pos) tb):PE X (.BoolOp .Or (a::b::rest) pos) (tOrV ta tb):=by
 intro pins s σ H Q I h;refine BoolOp_or (thn (ha pins s σ H _ I h) fun v s1 ⟨x,H1,I1,r1,q1⟩=>?_);obtain⟨c,rfl,q1⟩:=q1;cases r1
 refine W6 ?_;cases c with
 |false=>exact hb pins s1 σ H1 Q I1 q1
 |true=>exact⟨.bl true,H1,I1,rfl,q1⟩
def Bp(ha:PE X a ta):PE X (.UnaryOp .Not a pos) (DA ta):=by
 intro pins s σ H Q I h;refine UnaryOp_ (thn (ha pins s σ H _ I h) fun v s1 ⟨x,H1,I1,r1,q1⟩=>?_);obtain⟨c,rfl,q1⟩:=q1;cases r1
 exact not_of (W6 ⟨.bl (!c),H1,I1,rfl,q1⟩)
end
def SqL(K:Za)(H:Hp)(a:Addr)(xs:List V):Prop:=
 Rd H a (.lst xs)\/
  ∃(o:Obj) (its:Array Value) (n:Nat),K.lookup a=some o/\o.cls=.type "list"/\o.dict=none/\o.data=.seq its n/\its.size<=sizeLine/\Vals xs its.toList
def SqT(K:Za)(H:Hp)(a:Addr)(xs:List V):Prop:=
 Rd H a (.tup xs)\/
  ∃(o:Obj) (its:Array Value) (n:Nat),K.lookup a=some o/\o.cls=.type "tuple"/\o.data=.seq its n/\its.size<=sizeLine/\Vals xs its.toList
def absV:Value->Option V
 | .none=>some .non
 | .bool b=>some (.bl b)
 | .int i _=>some (.int i)
 | .str x _=>some (.str x)
 | .bytes b _=>some (.byt b)
 | .float b _=>some (.flt b)
 | .ref a=>some (.ref a)
 | .type n=>some (.ty n)
 |_=>none
def RelV.abs {x:V}{u:Value} (r:RelV x u):absV u=some x:=by
 cases x with
 |non=>cases r;rfl
 |bl _=>cases r;rfl
 |int _=>obtain⟨t,rfl⟩:=r;rfl
 |str _=>obtain⟨t,rfl⟩:=r;rfl
 |byt _=>obtain⟨t,rfl⟩:=r;rfl
 |flt _=>obtain⟨t,rfl⟩:=r;rfl
 |ref _=>cases r;rfl
 |ty _=>cases r;rfl
def RelV.inj {x y:V}{u:Value} (r:RelV x u) (q:RelV y u):x=y:=Yl (r.abs.symm.trans q.abs)
def Vals.inj:∀{xs ys:List V}{us:List Value},Vals xs us->Vals ys us->xs=ys
 |_,_,_,.nil,.nil=>rfl
 |_,_,_,.cons r t,.cons r' t'=>by rw[r.inj r',Vals.inj t t']
section
variable {X:Cx}{pins:List (Addr×Obj)}{σ:St}{H:Hp}{s:Shared}{a:Addr}{xs ys:List V}
def SqL.of {K:Za} (h:H a=some (.lst xs)):SqL K H a xs:=.inl (.inl h)
def SqT.of {K:Za} (h:H a=some (.tup xs)):SqT K H a xs:=.inl (.inl h)
def Inv.list (I:Inv X pins σ H s) (h:SqL X.K H a xs):∃its:List Value,Vals xs its/\PlainL s.heap a its.toArray/\xs.length<=sizeLine:=by
 rcases h with h|⟨o,its,n,hk,hc,hd,hs,hz,r⟩
 ·obtain⟨z,its,n,r,e⟩:=h.ok I.hok;exact⟨its,r,⟨_,n,e,rfl,rfl,rfl⟩,z⟩
 ·refine⟨its.toList,r,⟨o,n,I.kIn a o hk,hc,hd,by simpa using hs⟩,?_⟩;have e:=r.length;simp only[YC]at e;omega
def Inv.tuple (I:Inv X pins σ H s) (h:SqT X.K H a xs):∃its:List Value,Vals xs its/\IsTup s.heap a its.toArray/\xs.length<=sizeLine:=by
 rcases h with h|⟨o,its,n,hk,hc,hs,hz,r⟩
 ·obtain⟨z,its,r,p⟩:=h.ok I.hok;exact⟨its,r,p,z⟩
 ·refine⟨its.toList,r,⟨o,I.kIn a o hk,hc,n,by simpa using hs⟩,?_⟩;have e:=r.length;simp only[YC]at e;omega
def Inv.list_inj (I:Inv X pins σ H s) (h:SqL X.K H a xs) (h':SqL X.K H a ys):xs=ys:=by
 obtain⟨its,r,⟨o,n,e,_,_,d⟩,_⟩:=I.list h;obtain⟨its',r',⟨o',n',e',_,_,d'⟩,_⟩:=I.list h';rw[e]at e';cases e';rw[d]at d';injection d' with d1 _
 have:its=its':=by simpa using YS Array.toList d1
 subst this;exact r.inj r'
def Inv.tuple_inj (I:Inv X pins σ H s) (h:SqT X.K H a xs) (h':SqT X.K H a ys):xs=ys:=by
 obtain⟨its,r,⟨o,e,_,n,d⟩,_⟩:=I.tuple h;obtain⟨its',r',⟨o',e',_,n',d'⟩,_⟩:=I.tuple h';rw[e]at e';cases e';rw[d]at d';injection d' with d1 _
 have:its=its':=by simpa using YS Array.toList d1
 subst this;exact r.inj r'
end
abbrev Cx.wish (X:Cx) (E:Value->Shared->Prop):Cx:={X with xe:=E}
abbrev Cx.nox (X:Cx):Cx:=X.wish fun _ _=>False
def Cx.Ok.wish {X:Cx} (ok:X.Ok) (E:Value->Shared->Prop):(X.wish E).Ok:=
 ⟨ok.mod,ok.kind,ok.glob,ok.blt,ok.above,ok.inj,ok.has,ok.cab,ok.hd,ok.frames,ok.stk,ok.exf,ok.bs,ok.bsz,ok.noex,ok.exfs,ok.funs,ok.frf⟩
def Cx.Ok.unwish {X:Cx}{E:Value->Shared->Prop} (ok:(X.wish E).Ok):X.Ok:=
 ⟨ok.mod,ok.kind,ok.glob,ok.blt,ok.above,ok.inj,ok.has,ok.cab,ok.hd,ok.frames,ok.stk,ok.exf,ok.bs,ok.bsz,ok.noex,ok.exfs,ok.funs,ok.frf⟩
section
variable {X:Cx}{pins:List (Addr×Obj)}{σ:St}{H:Hp}{s:Shared}{E:Value->Shared->Prop}
def Inv.wish (I:Inv X pins σ H s) (E:Value->Shared->Prop):Inv (X.wish E) pins σ H s:=⟨I.ok.wish E,I.os,I.bare,I.base,I.loc,I.cell,I.free,I.freeC,I.pin,I.hok,I.len⟩
def Inv.unwish (I:Inv (X.wish E) pins σ H s):Inv X pins σ H s:=⟨I.ok.unwish,I.os,I.bare,I.base,I.loc,I.cell,I.free,I.freeC,I.pin,I.hok,I.len⟩
def SP.unwish {D:Ends}{f:Flow}{s':Shared} (h:SP (X.wish E) pins D f s'):SP X pins D f s':=by
 cases f with
 |next=>obtain⟨σ',H',I,q⟩:=h;exact⟨σ',H',I.unwish,q⟩
 |brk=>obtain⟨σ',H',I,q⟩:=h;exact⟨σ',H',I.unwish,q⟩
 |cont=>obtain⟨σ',H',I,q⟩:=h;exact⟨σ',H',I.unwish,q⟩
 |ret u=>obtain⟨v,σ',H',I,r,q⟩:=h;exact⟨v,σ',H',I.unwish,r,q⟩
def PSs.nox {st:List Stmt}{t:TS} (h:PSs X.nox st t):PSs X st t:=fun pins s σ H D I hw=>
 YU (h pins s σ H D (I.wish _) hw) (fun _ _ q=>q.unwish) fun _ _ z=>False.elim z
end
section
variable {X:Cx}{st:Stmt}{rest:List Stmt}{t u:TS}{e:Expr}{te:TE}{pos:Pos}
def AE:TS:=fun D σ H=>D.nx σ H
def tSeq(t u:TS):TS:=fun D σ H=>t {D with nx:=u D} σ H
def J7:PSs X [] AE:=fun _ _ σ H _ I h=>QR ⟨σ,H,I,h⟩
def Jl(h1:PS X st t)(h2:PSs X rest u):PSs X (st::rest) (tSeq t u):=by
 intro pins s σ H D I h;refine Qq (thn (h1 pins s σ H {D with nx:=u D} I h) fun f s1 q=>?_)
 cases f with
 |next=>
  obtain⟨σ',H',I',q⟩:=q;exact h2 pins s1 σ' H' D I' q
 |ret v=>exact q
 |brk=>exact q
 |cont=>exact q
def Jk(h1:PS X st t):PSs X [st] t:=by
 intro pins s σ H D I h;refine Qq (thn (h1 pins s σ H D I h) fun f s1 q=>?_);cases f with
 |next=>exact QR q
 |ret v=>exact q
 |brk=>exact q
 |cont=>exact q
def Inv.quiet {pins:List (Addr×Obj)}{σ:St}{H:Hp}{s:Shared} (I:Inv X pins σ H s):interactive X.env=false:=by simp[interactive,I.ok.kind]
def KC(te:TE):TS:=fun D σ H=>te σ H fun _ H1=>D.nx σ H1
def JL(he:PE X e te)(hs:swapsWith e none pos.line X.env=pure false:=by rfl):PS X (.Expr e pos) (KC te):=by
 intro pins s σ H D I h;exact wpAny_Expr_any (thn (he pins s σ H _ I h) fun v s1 ⟨x,H1,I1,r1,q1⟩=>⟨σ,H1,I1,q1⟩) I.quiet hs
def tRet(te:TE):TS:=fun D σ H=>te σ H D.rt
def Jt(he:PE X e te):PS X (.Return (some e) pos) (tRet te):=by
 intro pins s σ H D I h;exact wpAny_Return_some (thn (he pins s σ H _ I h) fun v s1 ⟨x,H1,I1,r1,q1⟩=>⟨x,σ,H1,I1,r1,q1⟩)
def tIfS(c:TT)(t u:TS):TS:=fun D σ H=>c σ H fun b H1=>if b=true then t D σ H1 else u D σ H1
def J5{c:Expr}{a b:List Stmt}{tc:TT}(hc:PT X c tc)(ha:PSs X a t)(hb:PSs X b u):PS X (.If c a b pos) (tIfS tc t u):=by
 intro pins s σ H D I h;refine wpAny_If (thn (hc pins s σ H _ I h) fun d s1 ⟨H1,I1,q1⟩=>?_);cases d with
 |true=>exact ha pins s1 σ H1 D I1 q1
 |false=>exact hb pins s1 σ H1 D I1 q1
def FK:TS:=fun _ _ _=>False
def RF:PS X st FK:=fun _ _ _ _ _ _ h=>h.elim
end
abbrev TG:=V->St->Hp->(St->Hp->Prop)->Prop
abbrev TGs:=List V->St->Hp->(St->Hp->Prop)->Prop
def PG(X:Cx)(target:Expr)(t:TG):Prop:=
 ∀(pins:List (Addr×Obj)) (s:Shared) (σ:St) (H:Hp) (v:V) (u:Value) (Q:St->Hp->Prop),Inv X pins σ H s->RelV v u->t v σ H Q->
  wpAny (model X.prog X.w) X.A (assign target X.env u) (fun _ s'=>∃σ' H',Inv X pins σ' H' s'/\Q σ' H') X.xe s
def PGs(X:Cx)(ts:List Expr)(t:TGs):Prop:=
 ∀(pins:List (Addr×Obj)) (s:Shared) (σ:St) (H:Hp) (vs:List V) (us:List Value) (Q:St->Hp->Prop),Inv X pins σ H s->Vals vs us->t vs σ H Q->
  wpAny (model X.prog X.w) X.A (assignInOrder ((assignEach ts X.env).map (·.2)) us) (fun _ s'=>∃σ' H',Inv X pins σ' H' s'/\Q σ' H') X.xe s
abbrev TIp:=V->V->Hp->VK->Prop
def PIp(X:Cx)(op:Operator)(t:TIp):Prop:=
 ∀(pins:List (Addr×Obj)) (s:Shared) (σ:St) (H:Hp) (x y:V) (v u:Value) (Q:VK),Inv X pins σ H s->RelV x v->RelV y u->t x y H Q->
  wpAny (model X.prog X.w) X.A (inplaceOp op v u) (EP X pins σ Q) X.xe s
section
variable {X:Cx}{pos:Pos}
def XH(i:Nat):TG:=fun v σ H Q=>Q (σ.set i (some v)) H
def Nn{i:Nat}{x:Str}(hN:X.N.Nodup)(hi:X.N[i]?=some x)(hx:Loc X.env.scope x)(hf:X.fn x=true\/X.env.scope.names.lookup x=some .local:=by first|exact .inl rfl|exact .inr rfl|assumption):PG X (.Name x pos) (XH i):=by
 intro pins s σ H v u Q I r h;exact wpAny_assign_Name (Kg I hN hi hx r (fun s' I'=>⟨_,H,I',h⟩) hf)
def gNil:TGs:=fun vs σ H Q=>vs=[]/\Q σ H
def D7(t:TG)(u:TGs):TGs:=fun vs σ H Q=>∃v r,vs=v::r/\t v σ H fun σ' H'=>u r σ' H' Q
def Xs:PGs X [] gNil:=by
 intro pins s σ H vs us Q I r h;obtain⟨e,h⟩:=h;subst e;cases r
 exact assignInOrder_nil ⟨σ,H,I,h⟩
def Ue{e:Expr}{es:List Expr}{t:TG}{u:TGs}(h1:PG X e t)(h2:PGs X es u)(hs:(assignEach (e::es) X.env).map (·.2)=assign e X.env::(assignEach es X.env).map (·.2):=by rfl):PGs X (e::es) (D7 t u):=by
 intro pins s σ H vs us Q I r h;obtain⟨v,vr,e1,h⟩:=h;subst e1;cases r with
 |cons r rr=>
  rw[hs];refine assignInOrder_cons (thn (h1 pins s σ H _ _ _ I r h) fun _ s1 ⟨σ1,H1,I1,q1⟩=>?_);exact h2 pins s1 σ1 H1 _ _ Q I1 rr q1
def gTup(K:Za)(n:Nat)(t:TGs):TG:=fun v σ H Q=>∃a xs,v=.ref a/\SqT K H a xs/\xs.length=n/\t xs σ H Q
def Lb{es:List Expr}{k:Nat}{t:TGs}{n:Nat}(hc:X.calm=true)(h:PGs X es t)(hn:(assignEach es X.env).length=n:=by rfl)(hst:(assignEach es X.env).findIdx? (·.1)=none:=by rfl):PG X (.Tuple es k pos) (gTup X.K n t):=by
 intro pins s σ H v u Q I r hw;obtain⟨a,xs,e1,hq,hl,hw⟩:=hw;subst e1;cases r
 obtain⟨its,rv,ht,hz⟩:=I.tuple hq;refine assign_Tuple_tuple (I.ok.hd hc) ht (by simp[hn,←hl,rv.length]) hst fun h' hx=>?_;have I1:Inv X pins σ H {s with heap:=h'}:=I.kept (t':=s.toks) fun b o e=>hx b o (Y6 (Yk e)) e
 exact h pins _ σ H xs _ Q I1 (by simpa using rv) hw
def tAsg(te:TE)(g:TG):TS:=fun D σ H=>te σ H fun x H1=>g x σ H1 D.nx
def Ld{i:Nat}{x:Str}{e:Expr}{te:TE}{pos':Pos}(hN:X.N.Nodup)(hi:X.N[i]?=some x)(hx:Loc X.env.scope x)(he:PE X e te)(hs:swapsWith e (some (.Name x pos')) pos.line X.env=pure false:=by rfl)(hf:X.fn x=true\/X.env.scope.names.lookup x=some .local:=by first|exact .inl rfl|exact .inr rfl|assumption) :
  PS X (.Assign [.Name x pos'] e pos) (tAsg te (XH i)):=by
 intro pins s σ H D I h;refine wpAny_Assign_Name (thn (he pins s σ H _ I h) fun v s1 ⟨y,H1,I1,r1,q1⟩=>?_) hs;exact Kg I1 hN hi hx r1 (fun s2 I2=>⟨_,H1,I2,q1⟩) hf
def tPar(i j:Nat)(ta:TA):TS:=fun D σ H=>ta σ H fun vs H1=>∃v w,vs=[v,w]/\D.nx ((σ.set i (some v)).set j (some w)) H1
def OS{i j:Nat}{x y:Str}{a b:Expr}{ta:TA}{px py pt:Pos}{kt k2 pt2}(hc:X.calm=true)(hN:X.N.Nodup)(hi:X.N[i]?=some x)(hj:X.N[j]?=some y)(hij:i≠j)(hx:X.env.scope.names.lookup x=some .local)(hy:X.env.scope.names.lookup y=some .local)(ha:PA X [a,b] ta)(hw:swappedStores [.Tuple [.Name x px,.Name y py] kt pt] (.Tuple [a,b] k2 pt2) X.env=pure (some [x,y]))(hs:swapsWithSole [.Tuple [.Name x px,.Name y py] kt pt] (.Tuple [a,b] k2 pt2) pos.line X.env=pure false:=by rfl) :
  PS X (.Assign [.Tuple [.Name x px,.Name y py] kt pt] (.Tuple [a,b] k2 pt2) pos) (tPar i j ta):=by
 intro pins s σ H D I h;rw[exec_Assign_arm];refine ZY (wpAny_standAt ?_);rw[hs];refine ZY (Yb ?_);rw[Ye (by decide)];refine ZY (Tuple_ (thn (ha _ pins s σ H _ I h) fun us s1 ⟨vs,H1,I1,r1,q1⟩=>?_));obtain⟨v,w,e1,q1⟩:=q1;subst e1
 obtain⟨u1,u2,rfl,rv,rw'⟩:∃u1 u2,us=[u1,u2]/\RelV v u1/\RelV w u2:=by
  cases r1 with
  |cons p q=>
   cases q with
   |cons p' q'=>
    cases q'
    exact⟨_,_,rfl,p,p'⟩
 refine YT ?_ (by show 2<=sizeLine;decide);have I2:Inv X pins σ H1 {s1 with heap:=s1.heap.push {cls:=.type "tuple",data:=.seq [u1,u2].toArray}}:=I1.kept (t':=s1.toks) fun b o e=>Yc _ e
 rw[hw];refine ZY (Yb ?_);show wpAny (model X.prog X.w) X.A (do rule "assign.swapped-stores";let items ←unpackItems (.ref s1.heap.objs.size) 2 none;assignInOrder [fun v=>bindName X.env y v,fun v=>bindName X.env x v] items.reverse;pure Flow.next) _ _ _
 refine ZY (wpAny_rule (ZY (unpackItems_tuple (items:=#[u1,u2]) (I.ok.hd hc) (IsTup.new s1.heap _) fun h' hx'=>?_)));have I3:=I2.kept (h':=h') (t':=s1.toks) fun b o e=>hx' b o (Y6 (Yk e)) e;show wpAny _ _ (assignInOrder [fun v=>bindName X.env y v,fun v=>bindName X.env x v] [u2,u1] >>= fun _=>pure Flow.next) _ _ _;refine ZY (assignInOrder_cons (wpAny_bindName (Kg I3 hN hj (.inl hy) rw' (fun s2 I4=>?_) (.inr hy))));refine assignInOrder_cons (wpAny_bindName (Kg I4 hN hi (.inl hx) rv (fun s3 I5=>assignInOrder_nil (Yb ?_)) (.inr hx)));rw[List.set_comm _ _ (Ne.symm hij)]at I5;exact⟨_,H1,I5,q1⟩
def tAug(i:Nat)(te:TE)(ti:TIp):TS:=fun D σ H=>∃x,σ[i]?=some (some x)/\te σ H fun y H1=>ti x y H1 fun z H2=>D.nx (σ.set i (some z)) H2
def Dr{i:Nat}{x:Str}{e:Expr}{te:TE}{op:Operator}{ti:TIp}{pos':Pos}(hN:X.N.Nodup)(hi:X.N[i]?=some x)(hx:Loc X.env.scope x)(he:PE X e te)(ho:PIp X op ti)(hf:X.fn x=true\/X.env.scope.names.lookup x=some .local:=by first|exact .inl rfl|exact .inr rfl|assumption) :
  PS X (.AugAssign (.Name x pos') op e pos) (tAug i te ti):=by
 intro pins s σ H D I h;obtain⟨v,e1,h⟩:=h;obtain⟨m,hn,hl⟩:=I.loc;have vis:Vis X.env.scope x:=by rcases hx with k|k;exact .inl k;exact .inr (.inl k)
 obtain⟨u,r,l⟩:=hl i x v hi e1 vis;refine wpAny_AugAssign_Name ?_
 have go:wpAny (model X.prog X.w) X.A (eval e X.env) (fun w s₂=>wpAny (model X.prog X.w) X.A (inplaceOp op u w) (fun r s₃=>wpAny (model X.prog X.w) X.A (storeName X.env x r) (fun _=>SP X pins D .next) X.xe s₃) X.xe s₂) X.xe s:=by
  refine thn (he pins s σ H _ I h) fun w s1 ⟨y,H1,I1,r1,q1⟩=>?_;refine thn (ho pins s1 σ H1 v y u w _ I1 r r1 q1) fun z s2 ⟨zv,H2,I2,r2,q2⟩=>?_;exact Kg I2 hN hi hx r2 (fun s3 I3=>⟨_,H2,I3,q2⟩) hf
 rcases l with⟨hk,hm⟩|⟨hk,c,hc,hcell⟩
 ·exact wpAny_loadName_local I.ok.kind hk hn hm go
 ·rcases hk with hk|hk
  ·exact wpAny_loadName_cell I.ok.kind hk hc hcell go
  ·rcases hx with k|k
   ·have:X.env.scope.names.lookup x=some .free:=hk
    rw[k]at this;cases this
   ·have:X.env.scope.names.lookup x=some .free:=hk
    rw[k]at this;cases this
def ipI(f:Int->Int->Int):TIp:=fun x y H Q=>∃i j,x=.int i/\y=.int j/\Q (.int (f i j)) H
def Fn:PIp X .Add (ipI fun i j=>i+j):=by
 intro pins s σ H x y v u Q I r1 r2 h;obtain⟨i,j,e1,e2,q⟩:=h;subst e1;subst e2;obtain⟨t,rfl⟩:=r1;obtain⟨t',rfl⟩:=r2;exact iadd_int ⟨.int _,H,I.tok _,⟨_,rfl⟩,q⟩
end
section
variable {X:Cx}{pos:Pos}
def AX(c:TT)(tb:TS):TS:=fun D σ H=>∃W:Nat->St->Hp->Prop,(∃m,W m σ H)/\∀m σ H,W m σ H->
 c σ H fun b H1=>if b=true then ∃N:St->Hp->Prop,(∀σ' H',N σ' H'->∃m',m'<m/\W m' σ' H')/\tb {D with nx:=N,ct:=N,bk:=D.nx} σ H1 else D.nx σ H1
def T8{c:Expr}{body:List Stmt}{tc:TT}{tb:TS}(hp:PassesOwn (model X.prog X.w) X.A X.env X.xe)(hc:PT X c tc)(hb:PSs X body tb):PS X (.While c body [] pos) (AX tc tb):=by
 intro pins s σ H D I h;obtain⟨W,⟨m0,w0⟩,turn⟩:=h;refine wpAny_While (codeAny_whileLoop (fun n s'=>∃σ' H',Inv X pins σ' H' s'/\W n σ' H') ?_ m0 ⟨σ,H,I,w0⟩);rintro n s1 ⟨σ1,H1,I1,w1⟩;refine WL hp (thn (hc pins s1 σ1 H1 _ I1 (turn n σ1 H1 w1)) fun b s2 ⟨H2,I2,q2⟩=>?_);cases b with
 |true=>
  obtain⟨N,hN,q2⟩:=q2;rw[Yg rfl];refine WL hp (thn (hb pins s2 σ1 H2 _ I2 q2) fun f s3 q3=>?_);cases f with
  |next=>
   obtain⟨σ3,H3,I3,n3⟩:=q3;obtain⟨m',hm,w3⟩:=hN σ3 H3 n3;exact⟨m',hm,σ3,H3,I3,w3⟩
  |cont=>
   obtain⟨σ3,H3,I3,n3⟩:=q3;obtain⟨m',hm,w3⟩:=hN σ3 H3 n3;exact⟨m',hm,σ3,H3,I3,w3⟩
  |brk=>exact q3
  |ret v=>exact q3
 |false=>
  rw[Ye Yw];exact QR ⟨σ1,H2,I2,q2⟩
end
structure It where
 go:Nat->Hp->Prop
 yld:Nat->Hp->V->Hp->Prop
 stop:Nat->Hp->Prop
def FpOk(X:Cx)(pins:List (Addr×Obj))(H:Hp)(b:Addr):Prop:=
 H b=none/\b≠X.env.locals/\b∉X.fs/\(b∈X.ex\/X.s₀.heap.objs.size<=b)/\(∀x c,X.env.cells.lookup x=some c->c≠b)/\∀p∈X.pn++pins,p.1≠b
def Inv.fpOk {X:Cx}{pins:List (Addr×Obj)}{σ:St}{H H':Hp}{s:Shared}{b:Addr} (I:Inv X pins σ H s) (hb:s.heap.objs.size<=b) (hn:H' b=none):FpOk X pins H' b:=by
 refine⟨hn,Vn (YB I.lt hb),I.nofs hb,.inr (Yx I.sz hb),fun x c e z=>?_,fun p hp z=>?_⟩
 ·obtain⟨v,q⟩:=I.cell x c e;exact absurd (YB q.lt (by rw[z];exact hb)) (Ws _)
 ·exact absurd (YB (Yk (I.pin p hp).1) (by rw[z];exact hb)) (Ws _)
structure Turn (P:Program) (w:World) (K:Za) (tg:Expr) (J:It) (fp:List Addr) (it:Addr) (tn:Nat->Heap->Prop):Prop where
 mem:it∈fp
 obj:∀i h,tn i h->∀b∈fp,∃o,h.get? b=some o/\∀v,o.data≠.cell v
 keep:∀i h h',tn i h->(∀b∈fp,∀o,h.get? b=some o->h'.get? b=some o)->tn i h'
 item:∀(X:Cx),X.prog=P->X.w=w->X.K=K->X.calm=true->∀(i:Nat) (pins:List (Addr×Obj)) (s:Shared) (σ:St) (H:Hp) (E:Value->Shared->Prop),Inv X pins σ H s->(∀b∈fp,FpOk X pins H b)->tn i s.heap->J.go i H->
  wpAny (model P w) X.A (pyNext (.ref it)) (fun r s1=>∃u,r=some u/\
   wpAny (model P w) X.A (letOwnedTupleGo tg (.ref it) u) (fun _ s2=>∃x H',Inv X pins σ H' s2/\RelV x u/\J.yld i H x H'/\tn (i+1) s2.heap/\∀b∈fp,H' b=none) E s1) E s
 done:∀(X:Cx),X.prog=P->X.w=w->X.K=K->X.calm=true->∀(i:Nat) (pins:List (Addr×Obj)) (s:Shared) (σ:St) (H:Hp) (E:Value->Shared->Prop),Inv X pins σ H s->(∀b∈fp,FpOk X pins H b)->tn i s.heap->J.stop i H->
  wpAny (model P w) X.A (pyNext (.ref it)) (fun r s1=>r=none/\Inv X pins σ H s1) E s
 self:∀(A:Around) (i:Nat) (s:Shared) (Q:Value->Shared->Prop) (E:Value->Shared->Prop),tn i s.heap->Q (.ref it) s->wpAny (model P w) A (pyIter (.ref it)) Q E s
abbrev TI:=St->Hp->(It->Hp->Prop)->Prop
def PIE(X:Cx)(pins:List (Addr×Obj))(σ:St)(tg:Expr)(R:It->Hp->Prop)(itv:Value)(s2:Shared):Prop:=
 ∃(it:Addr) (fp:List Addr) (tn:Nat->Heap->Prop) (J:It) (H':Hp),itv=.ref it/\Inv X pins σ H' s2/\Turn X.prog X.w X.K tg J fp it tn/\tn 0 s2.heap/\(∀b∈fp,FpOk X pins H' b)/\R J H'
def PI(X:Cx)(tg iter:Expr)(wi:TI):Prop:=
 ∀(pins:List (Addr×Obj)) (s:Shared) (σ:St) (H:Hp) (R:It->Hp->Prop),Inv X pins σ H s->wi σ H R->
  wpAny (model X.prog X.w) X.A (eval iter X.env) (fun v s1=>wpAny (model X.prog X.w) X.A (pyIter v) (PIE X pins σ tg R) X.xe s1) X.xe s
def S9 {M : Model} {A : Around} {E : Value → Shared → Prop} {s : Shared} {tg : Expr} {it : Addr} {u : Value} {o : Obj} {n : String} {vs : Array Value} {Q : Unit → Shared → Prop} (ho : s.heap.get? it = some o) (hc : o.cls = .type n) (hd : o.data = .fields vs)
    (hn : ["enumerate", "zip", "dict_itemiterator", "dict_reverseitemiterator", "odict_iterator", "itertools.zip_longest", "itertools.pairwise"].contains n = false) (hQ : Q () s) : wpAny M A (letOwnedTupleGo tg (.ref it) u) Q E s := by
  unfold letOwnedTupleGo
  cases tg <;> first
    | exact Yb hQ
    | (cases u <;> first
        | exact Yb hQ
        | (refine ZY (wpAny_load ho ?_)
           rw [hc, hd]
           show wpAny M A (if (["enumerate", "zip", "dict_itemiterator", "dict_reverseitemiterator", "odict_iterator", "itertools.zip_longest", "itertools.pairwise"].contains n && vs[0]? == some (rawInt _)) = true then _ else _) Q E s
           rw [Ye (by intro h; rw [hn, Qz] at h; cases h)]
           exact Yb hQ))
def Itl(K:Za)(a:Addr):It:=
 ⟨fun i H=>∃xs x,SqL K H a xs/\xs[i]?=some x,fun i H x H'=>H'=H/\∀xs,SqL K H a xs->xs[i]?=some x,fun i H=>∃xs,SqL K H a xs/\xs.length<=i⟩
def Itt(K:Za)(a:Addr):It:=
 ⟨fun i H=>∃xs x,SqT K H a xs/\xs[i]?=some x,fun i H x H'=>H'=H/\∀xs,SqT K H a xs->xs[i]?=some x,fun i H=>∃xs,SqT K H a xs/\xs.length<=i⟩
def Itr(lo:Int)(n:Nat):It:=⟨fun i _=>i<n,fun i H x H'=>H'=H/\x=.int (lo+i),fun i _=>n<=i⟩
def GV{P:Program}{w:World}{K:Za}{tg:Expr}(a it:Addr):Turn P w K tg (Itl K a) [it] it (fun i h=>h.IsListIter it a i) where
 mem:=by simp
 obj:=fun i h st b hb=>by
  have e:b=it:=by simpa using hb
  subst e;obtain⟨o,e,c,d⟩:=st;exact⟨o,e,fun v z=>by rw[d]at z;cases z⟩
 keep:=fun i h h' st k=>st.at fun o e=>k it (by simp) o e
 item:=by
  intro X hP hw hK hc i pins s σ H E I hf st hg;subst hP hw hK;obtain⟨xs,x,hq,hx⟩:=hg;obtain⟨its,rv,p,hz⟩:=I.list hq;obtain⟨u,hu,ru⟩:=rv.get hx;obtain⟨f0,f1,f2,f3,f4,f5⟩:=hf it (by simp);refine wpAny_pyNext_list_item st p.isList (x:=u) (by simpa using hu) fun h' st' sb=>?_;have I1:Inv X pins σ H {s with heap:=h'}:=I.turned (t':=s.toks) (fun b o hb e=>(sb.2 b hb).trans e) f0 f1 f3 f4 f5
  obtain⟨o,e,c,d⟩:=id st';exact⟨u,rfl,S9 (s:={s with heap:=h'}) e c d (by decide) ⟨x,H,I1,ru,⟨rfl,fun ys hy=>by rw[I.list_inj hy hq];exact hx⟩,st',fun b hb=>(hf b hb).1⟩⟩
 done:=by
  intro X hP hw hK hc i pins s σ H E I hf st hg;subst hP hw hK;obtain⟨xs,hq,hx⟩:=hg;obtain⟨its,rv,p,hz⟩:=I.list hq;obtain⟨f0,f1,f2,f3,f4,f5⟩:=hf it (by simp);have hl:=rv.length;exact wpAny_pyNext_list_end (I.ok.hd hc) st p.isList (by simp;omega) fun h' eb=>⟨rfl,I.turned (t':=s.toks) (fun b o hb e=>eb b o hb e) f0 f1 f3 f4 f5⟩
 self:=fun _ _ _ _ _ st h=>wpAny_pyIter_listiter st h
def LZ{P:Program}{w:World}{K:Za}{tg:Expr}(a it:Addr):Turn P w K tg (Itt K a) [it] it (fun i h=>h.IsTupleIter it a i) where
 mem:=by simp
 obj:=fun i h st b hb=>by
  have e:b=it:=by simpa using hb
  subst e;obtain⟨o,e,c,d⟩:=st;exact⟨o,e,fun v z=>by rw[d]at z;cases z⟩
 keep:=fun i h h' st k=>st.at fun o e=>k it (by simp) o e
 item:=by
  intro X hP hw hK hc i pins s σ H E I hf st hg;subst hP hw hK;obtain⟨xs,x,hq,hx⟩:=hg;obtain⟨its,rv,p,hz⟩:=I.tuple hq;obtain⟨u,hu,ru⟩:=rv.get hx;obtain⟨f0,f1,f2,f3,f4,f5⟩:=hf it (by simp);refine wpAny_pyNext_tuple_item st (show s.heap.IsTuple a its.toArray from p) (x:=u) (by simpa using hu) fun h' st' sb=>?_
  have I1:Inv X pins σ H {s with heap:=h'}:=I.turned (t':=s.toks) (fun b o hb e=>(sb.2 b hb).trans e) f0 f1 f3 f4 f5
  obtain⟨o,e,c,d⟩:=id st';exact⟨u,rfl,S9 (s:={s with heap:=h'}) e c d (by decide) ⟨x,H,I1,ru,⟨rfl,fun ys hy=>by rw[I.tuple_inj hy hq];exact hx⟩,st',fun b hb=>(hf b hb).1⟩⟩
 done:=by
  intro X hP hw hK hc i pins s σ H E I hf st hg;subst hP hw hK;obtain⟨xs,hq,hx⟩:=hg;obtain⟨its,rv,p,hz⟩:=I.tuple hq;obtain⟨f0,f1,f2,f3,f4,f5⟩:=hf it (by simp);have hl:=rv.length;exact wpAny_pyNext_tuple_end (I.ok.hd hc) st (show s.heap.IsTuple a its.toArray from p) (by simp;omega) fun h' eb=>⟨rfl,I.turned (t':=s.toks) (fun b o hb e=>eb b o hb e) f0 f1 f3 f4 f5⟩
 self:=fun _ _ _ _ _ st h=>wpAny_pyIter_tupleiter st h
def LG{P:Program}{w:World}{K:Za}{tg:Expr}(it:Addr)(lo:Int)(n:Nat):Turn P w K tg (Itr lo n) [it] it (fun i h=>IsRangeIter h it (lo+(i:Nat)*1) ((n:Int)-(i:Nat)) 1) where
 mem:=by simp
 obj:=fun i h st b hb=>by
  have e:b=it:=by simpa using hb
  subst e
  exact⟨_,st,fun v z=>by
   have z':Data.fields _=Data.cell v:=z;cases z'⟩
 keep:=fun i h h' st k=>k it (by simp) _ st
 item:=by
  intro X hP hw hK hc i pins s σ H E I hf st hg;subst hP hw hK;obtain⟨f0,f1,f2,f3,f4,f5⟩:=hf it (by simp);have W:=Walks.range (prog:=X.prog) (w:=X.w) (I.ok.hd hc) it lo 1 n;refine W.item i s _ _ hg st fun v h' tk hv st' kk=>?_;obtain⟨t,rfl⟩:=hv;have I1:Inv X pins σ H {s with heap:=h',toks:=tk}:=I.turned (fun b o hb e=>kk b o (by simpa using hb) e) f0 f1 f3 f4 f5
  refine⟨_,rfl,S9 (s:={s with heap:=h',toks:=tk}) (n:="range_iterator") st' rfl rfl (by decide) ⟨.int (lo+i),H,I1,⟨t,?_⟩,⟨rfl,rfl⟩,st',fun b hb=>(hf b hb).1⟩⟩
  rw[Int.mul_one]
 done:=by
  intro X hP hw hK hc i pins s σ H E I hf st hg;subst hP hw hK;obtain⟨f0,f1,f2,f3,f4,f5⟩:=hf it (by simp);exact wpAny_pyNext_range_end (I.ok.hd hc) st (by have:n<=i:=hg;omega) fun h' eb=>⟨rfl,I.turned (t':=s.toks) (fun b o hb e=>eb b o hb e) f0 f1 f3 f4 f5⟩
 self:=fun _ _ _ _ _ st h=>wpAny_pyIter_rangeiter st h
section
variable {X:Cx}{tg:Expr}
def Tt(K:Za)(tl:TE):TI:=fun σ H R=>tl σ H fun x H1=>∃a,x=.ref a/\(∃xs,SqL K H1 a xs)/\R (Itl K a) H1
def iTup(K:Za)(tl:TE):TI:=fun σ H R=>tl σ H fun x H1=>∃a,x=.ref a/\(∃xs,SqT K H1 a xs)/\R (Itt K a) H1
def CM{l:Expr}{tl:TE}(hl:PE X l tl):PI X tg l (Tt X.K tl):=by
 intro pins s σ H R I h;refine thn (hl pins s σ H _ I h) fun v s1 ⟨x,H1,I1,r1,q1⟩=>?_;obtain⟨a,e,⟨xs,hq⟩,q⟩:=q1;subst e;cases r1
 obtain⟨its,rv,p,hz⟩:=I1.list hq;refine wpAny_pyIter_list p.isList ?_;refine⟨s1.heap.objs.size,[s1.heap.objs.size],_,_,H1,rfl,I1.kept (t':=s1.toks) fun b o e=>Yc _ e,GV a _,⟨_,Ym _ rfl,rfl,rfl⟩,fun b hb=>?_,q⟩;have e:b=s1.heap.objs.size:=by simpa using hb
 subst e;exact I1.fpOk (Yi _) (I1.hok.fresh (Yi _))
def Rr{l:Expr}{tl:TE}(hl:PE X l tl):PI X tg l (iTup X.K tl):=by
 intro pins s σ H R I h;refine thn (hl pins s σ H _ I h) fun v s1 ⟨x,H1,I1,r1,q1⟩=>?_;obtain⟨a,e,⟨xs,hq⟩,q⟩:=q1;subst e;cases r1
 obtain⟨its,rv,p,hz⟩:=I1.tuple hq;refine wpAny_pyIter_tuple (show s1.heap.IsTuple a its.toArray from p) ?_
 refine⟨s1.heap.objs.size,[s1.heap.objs.size],_,_,H1,rfl,I1.kept (t':=s1.toks) fun b o e=>Yc _ e,LZ a _,⟨_,Ym _ rfl,rfl,rfl⟩,fun b hb=>?_,q⟩;have e:b=s1.heap.objs.size:=by simpa using hb
 subst e;exact I1.fpOk (Yi _) (I1.hok.fresh (Yi _))
def FO{pins:List (Addr×Obj)}{σ:St}{H:Hp}{s:Shared}{R:It->Hp->Prop}{E:Value->Shared->Prop}{lo hi:Int}{t u v:Tok}{tk:Nat}(I:Inv X pins σ H s)(h1:-(2 ^ 62)<=lo)(h2:lo<2 ^ 62)(h3:-(2 ^ 62)<=hi)(h4:hi<2 ^ 62)(q:R (Itr lo (hi-lo).toNat) H):wpAny (model X.prog X.w) X.A (pyIter (.ref s.heap.objs.size)) (PIE X pins σ tg R) E {s with heap:=s.heap.push {cls:=.type "range",data:=.fields #[.int lo t,.int hi u,.int 1 v]},toks:=tk}:=by
 refine wpAny_pyIter_range (IsRange.new ..) (small_one h1 h2 h3 h4) ?_;have I1:Inv X pins σ H {s with heap:=s.heap.push {cls:=.type "range",data:=.fields #[.int lo t,.int hi u,.int 1 v]},toks:=tk}:=I.kept fun b o e=>Yc _ e
 refine⟨(s.heap.push {cls:=.type "range",data:=.fields #[.int lo t,.int hi u,.int 1 v]}).objs.size,[(s.heap.push {cls:=.type "range",data:=.fields #[.int lo t,.int hi u,.int 1 v]}).objs.size],_,_,H,rfl,
  I1.kept (t':=tk) fun b o e=>Yc _ e,LG _ lo (hi-lo).toNat,?_,fun b hb=>?_,q⟩
 ·have e1:lo+((0:Nat):Int)*1=lo:=by simp
  have e2:(((hi-lo).toNat:Nat):Int)-((0:Nat):Int)=Builtin.Range.rangeSize lo hi 1:=by rw[rangeSize_one];split<;>omega
  show IsRangeIter _ _ (lo+((0:Nat):Int)*1) ((((hi-lo).toNat:Nat):Int)-((0:Nat):Int)) 1;rw[e1,e2];exact Ym _ rfl
 ·have e:b=(s.heap.push {cls:=.type "range",data:=.fields #[.int lo t,.int hi u,.int 1 v]}).objs.size:=by simpa using hb
  subst e;exact I1.fpOk (Yi _) (I1.hok.fresh (Yi _))
def Et(ta:TA):TI:=fun σ H R=>ta σ H fun vs H1=>∃j:Int,vs=[.int j]/\-(2 ^ 62)<=j/\j<2 ^ 62/\R (Itr 0 j.toNat) H1
def A6(ta:TA):TI:=fun σ H R=>ta σ H fun vs H1=>∃i j:Int,vs=[.int i,.int j]/\(-(2 ^ 62)<=i/\i<2 ^ 62/\-(2 ^ 62)<=j/\j<2 ^ 62)/\R (Itr i (j-i).toNat) H1
def Xf{a:Expr}{ta:TA}{p pos:Pos}(hg:Gl X "range")(hm:X.mg "range"=none)(ha:PA X [a] ta)(hs:starEach [a] X.env=[(false,eval a X.env)]:=by rfl):PI X tg (.Call (.Name "range" p) [a] [] pos) (Et ta):=by
 intro pins s σ H R I h;refine Call_ (Kl I hg hm boot_range (Qo (thn (ha pos pins s σ H _ I h) fun us s1 ⟨vs,H1,I1,r1,q1⟩=>?_) hs rfl));obtain⟨j,e,q1,q2,q⟩:=q1;subst e;cases r1 with
 |cons r rr=>
  cases rr
  obtain⟨t,rfl⟩:=r;exact call_range_1 (FO I1 (by omega) (by omega) q1 q2 (by simpa using q))
def Aa{a b:Expr}{ta:TA}{p pos:Pos}(hg:Gl X "range")(hm:X.mg "range"=none)(ha:PA X [a,b] ta)(hs:starEach [a,b] X.env=[(false,eval a X.env),(false,eval b X.env)]:=by rfl)(hs2:starEach [b] X.env=[(false,eval b X.env)]:=by rfl) :
  PI X tg (.Call (.Name "range" p) [a,b] [] pos) (A6 ta):=by
 intro pins s σ H R I h;refine Call_ (Kl I hg hm boot_range (Qo (thn (ha pos pins s σ H _ I h) fun us s1 ⟨vs,H1,I1,r1,q1⟩=>?_) (by rw[hs,hs2]) (by rw[hs2];rfl)));obtain⟨i,j,e,⟨q1,q2,q3,q4⟩,q⟩:=q1;subst e;cases r1 with
 |cons r rr=>
  cases rr with
  |cons r' rr=>
   cases rr
   obtain⟨t,rfl⟩:=r;obtain⟨t',rfl⟩:=r';exact call_range_2 (FO I1 q1 q2 q3 q4 q)
def tFor(wi:TI)(g:TG)(tb:TS):TS:=fun D σ H=>wi σ H fun J H1=>∃W:Nat->Nat->St->Hp->Prop,(∃m,W 0 m σ H1)/\∀i m σ H,W i m σ H->
 (J.stop i H/\D.nx σ H)\/(J.go i H/\∃N:St->Hp->Prop,(∀σ' H',N σ' H'->∃m',m'<m/\W (i+1) m' σ' H')/\∀x H',J.yld i H x H'->g x σ H' fun σ2 H2=>tb {D with nx:=N,ct:=N,bk:=D.nx} σ2 H2)
def KM(fp:List Addr)(h:Heap):List (Addr×Obj):=fp.filterMap fun b=>(h.get? b).map fun o=>(b,o)
def Tc{fp:List Addr}{h:Heap}{b:Addr}{o:Obj}(hb:b∈fp)(e:h.get? b=some o):(b,o)∈KM fp h:=Ve.mpr ⟨b,hb,by rw[e];rfl⟩
def ON{fp:List Addr}{h:Heap}{p:Addr×Obj}(hp:p∈KM fp h):p.1∈fp/\h.get? p.1=some p.2:=by
 obtain⟨b,hb,e⟩:=Ve.mp hp;cases q:h.get? b with
 |none=>rw[q]at e;cases e
 |some o=>
  rw[q]at e;have e':(b,o)=p:=Yl e;subst e';exact⟨hb,q⟩
def Inv.pinned {pins:List (Addr×Obj)}{σ:St}{H:Hp}{s:Shared}{fp:List Addr} (I:Inv X pins σ H s) (hf:∀b∈fp,FpOk X pins H b) (ho:∀b∈fp,∃o,s.heap.get? b=some o/\∀v,o.data≠.cell v):Inv X (pins++KM fp s.heap) σ H s:=
 I.pins_of fun p hp=>(Yz.mp hp).elim (fun z=>I.pin p (Y0 _ z)) fun z=>by
  obtain⟨hb,e⟩:=ON z;obtain⟨f0,f1,f2,_⟩:=hf p.1 hb;obtain⟨o,e',d⟩:=ho p.1 hb;rw[e]at e';cases e';exact⟨e,f0,f1,f2,d⟩
def Inv.unpinned {pins pl:List (Addr×Obj)}{σ:St}{H:Hp}{s:Shared} (I:Inv X (pins++pl) σ H s):Inv X pins σ H s:=I.pins_of fun p hp=>I.pin p (Y0 _ (WR _ hp))
def JS{iter:Expr}{body:List Stmt}{wi:TI}{g:TG}{tb:TS}{pos:Pos}(hp:PassesOwn (model X.prog X.w) X.A X.env X.xe)(hc:X.calm=true)(hi:PI X tg iter wi)(hg:PG X tg g)(hb:PSs X body tb)(hs:∀x,foldedSetIterable iter X.env x=pure x:=by intro _;rfl):PS X (.For tg iter body [] pos) (tFor wi g tb):=by
 intro pins s σ H D I h;refine wpAny_For (thn (hi pins s σ H _ I h) fun v s1 h1=>thn h1 fun itv s2 h2=>?_) hs;obtain⟨it,fp,tn,J,H2,e,I2,T,st2,f2,W,⟨m0,w0⟩,turn⟩:=h2;subst e;have stat:∀{H':Hp},(∀b∈fp,H' b=none)->∀b∈fp,FpOk X pins H' b:=fun hn b hb=>⟨hn b hb,(f2 b hb).2⟩;refine codeAny_forLoop_any (fun n s'=>∃i σ' H',Inv X pins σ' H' s'/\tn i s'.heap/\(∀b∈fp,H' b=none)/\W i n σ' H') ?_ m0 ⟨0,σ,H2,I2,st2,fun b hb=>(f2 b hb).1,w0⟩;rintro n s3 ⟨i,σ3,H3,I3,st3,fr3,w3⟩;rcases turn i n σ3 H3 w3 with⟨stop,qn⟩|⟨go,N,hN,step⟩
 ·refine WL hp (thn (T.done X rfl rfl rfl hc i pins s3 σ3 H3 X.xe I3 (stat fr3) st3 stop) fun r s4 ⟨hr,I4⟩=>?_);subst hr;exact QR ⟨σ3,H3,I4,qn⟩
 ·refine WL hp (thn (T.item X rfl rfl rfl hc i pins s3 σ3 H3 X.xe I3 (stat fr3) st3 go) fun r s4 ⟨u,hr,h4⟩=>?_);subst hr;refine WL hp (thn h4 fun _ s5 ⟨x,H5,I5,r5,y5,st5,fr5⟩=>?_);have I5':=I5.pinned (stat fr5) (T.obj _ _ st5);refine WL hp (thn (hg _ s5 σ3 H5 x u _ I5' r5 (step x H5 y5)) fun _ s6 ⟨σ6,H6,I6,q6⟩=>?_);refine WL hp (thn (hb _ s6 σ6 H6 _ I6 q6) fun f s7 q7=>?_)
  have again:∀{σ7:St} {H7:Hp},Inv X (pins++KM fp s5.heap) σ7 H7 s7->N σ7 H7->∃m,m<n/\∃i σ' H',Inv X pins σ' H' s7/\tn i s7.heap/\(∀b∈fp,H' b=none)/\W i m σ' H':=fun {σ7 H7} I7 n7=>by
   obtain⟨m',hm,w7⟩:=hN σ7 H7 n7;refine⟨m',hm,i+1,σ7,H7,I7.unpinned,T.keep _ _ _ st5 fun b hb o e=>(I7.pin (b,o) (Y0 _ (Y0 _ (Tc hb e)))).1,fun b hb=>?_,w7⟩;obtain⟨o,e,d⟩:=T.obj _ _ st5 b hb;exact(I7.pin (b,o) (Y0 _ (Y0 _ (Tc hb e)))).2.1
  cases f with
  |next=>obtain⟨σ7,H7,I7,n7⟩:=q7;exact again I7 n7
  |cont=>obtain⟨σ7,H7,I7,n7⟩:=q7;exact again I7 n7
  |brk=>obtain⟨σ7,H7,I7,q7⟩:=q7;exact⟨σ7,H7,I7.unpinned,q7⟩
  |ret v=>obtain⟨x7,σ7,H7,I7,r7,q7⟩:=q7;exact⟨x7,σ7,H7,I7.unpinned,r7,q7⟩
end
abbrev R2:=V->V->Hp->VK->Prop
def OpR(X:Cx)(f:Value->Value->Sem Value)(r:R2):Prop:=
 ∀(pins:List (Addr×Obj)) (s:Shared) (σ:St) (H:Hp) (x y:V) (v u:Value) (Q:VK),Inv X pins σ H s->RelV x v->RelV y u->r x y H Q->
  wpAny (model X.prog X.w) X.A (f v u) (EP X pins σ Q) X.xe s
def UnR(X:Cx)(f:Value->Sem Value)(r:V->Hp->VK->Prop):Prop:=
 ∀(pins:List (Addr×Obj)) (s:Shared) (σ:St) (H:Hp) (x:V) (v:Value) (Q:VK),Inv X pins σ H s->RelV x v->r x H Q->
  wpAny (model X.prog X.w) X.A (f v) (EP X pins σ Q) X.xe s
def Ug(X:Cx)(f:Value)(r:List V->Hp->VK->Prop):Prop:=
 ∀(pins:List (Addr×Obj)) (s:Shared) (σ:St) (H:Hp) (xs:List V) (us:List Value) (Q:VK),Inv X pins σ H s->Vals xs us->r xs H Q->
  wpAny (model X.prog X.w) X.A (call f us) (EP X pins σ Q) X.xe s
def TruR(X:Cx)(r:V->Hp->(Bool->Hp->Prop)->Prop):Prop:=
 ∀(pins:List (Addr×Obj)) (s:Shared) (σ:St) (H:Hp) (x:V) (v:Value) (Q:Bool->Hp->Prop),Inv X pins σ H s->RelV x v->r x H Q->
  wpAny (model X.prog X.w) X.A (truthy v) (TP X pins σ Q) X.xe s
def tOp(r:R2)(ta tb:TE):TE:=fun σ H Q=>ta σ H fun x H1=>tb σ H1 fun y H2=>r x y H2 Q
def tUn(r:V->Hp->VK->Prop)(ta:TE):TE:=fun σ H Q=>ta σ H fun x H1=>r x H1 Q
def rI(C:Int->Int->Prop)(g:Int->Int->V):R2:=fun x y H Q=>∃i j,x=.int i/\y=.int j/\C i j/\Q (g i j) H
def rI0(g:Int->Int->V):R2:=fun x y H Q=>∃i j,x=.int i/\y=.int j/\Q (g i j) H
def rU(g:Int->V):V->Hp->VK->Prop:=fun x H Q=>∃i,x=.int i/\Q (g i) H
section
variable {X:Cx}{a b c:Expr}{ta tb tc:TE}{pos:Pos}
def binT(ha:PE X a ta)(hb:PE X b tb){pins:List (Addr×Obj)}{s:Shared}{σ:St}{H:Hp}{R:V->V->Hp->Prop}(I:Inv X pins σ H s)(h:ta σ H fun x H1=>tb σ H1 fun y H2=>R x y H2){Q:Value->Shared->Prop}{f:Value->Value->Sem Value}(hf:∀v u s2 x y H2,Inv X pins σ H2 s2->RelV x v->RelV y u->R x y H2->wpAny (model X.prog X.w) X.A (f v u) Q X.xe s2) :
  wpAny (model X.prog X.w) X.A (eval a X.env) (fun v s₁=>wpAny (model X.prog X.w) X.A (eval b X.env) (fun u s₂=>wpAny (model X.prog X.w) X.A (f v u) Q X.xe s₂) X.xe s₁) X.xe s:=by
 refine thn (ha pins s σ H _ I h) fun v s1 ⟨x,H1,I1,r1,q1⟩=>?_;refine thn (hb pins s1 σ H1 _ I1 q1) fun u s2 ⟨y,H2,I2,r2,q2⟩=>?_;exact hf v u s2 x y H2 I2 r1 r2 q2
def Jo{op:Operator}{r:R2}(ho:OpR X (binaryOp op) r)(ha:PE X a ta)(hb:PE X b tb):PE X (.BinOp a op b pos) (tOp r ta tb):=by
 intro pins s σ H Q I h;exact wpAny_BinOp (binT ha hb I h fun v u s2 x y H2 I2 rx ry q=>ho pins s2 σ H2 x y v u Q I2 rx ry q)
def Kh{op:UnaryOp}{r:V->Hp->VK->Prop}(ho:UnR X (unaryOp op) r)(ha:PE X a ta):PE X (.UnaryOp op a pos) (tUn r ta):=by
 intro pins s σ H Q I h;exact UnaryOp_ (thn (ha pins s σ H _ I h) fun v s1 ⟨x,H1,I1,r1,q1⟩=>ho pins s1 σ H1 x v Q I1 r1 q1)
def opI{f:Value->Value->Sem Value}{C:Int->Int->Prop}{g:Int->Int->Int}(rule:∀(i j:Int) (t u:Tok) (s:Shared) (Q:Value->Shared->Prop) (E:Value->Shared->Prop),C i j->Q (.int (g i j) s.toks) {s with toks:=s.toks+1}->wpAny (model X.prog X.w) X.A (f (.int i t) (.int j u)) Q E s) :
  OpR X f (rI C fun i j=>.int (g i j)):=by
 intro pins s σ H x y v u Q I rx ry h;obtain⟨i,j,rfl,rfl,hc,q⟩:=h;obtain⟨t,rfl⟩:=rx;obtain⟨t',rfl⟩:=ry;exact rule i j t t' s _ _ hc ⟨.int (g i j),H,I.tok _,⟨_,rfl⟩,q⟩
def opI0{f:Value->Value->Sem Value}{g:Int->Int->Int}(rule:∀(i j:Int) (t u:Tok) (s:Shared) (Q:Value->Shared->Prop) (E:Value->Shared->Prop),Q (.int (g i j) s.toks) {s with toks:=s.toks+1}->wpAny (model X.prog X.w) X.A (f (.int i t) (.int j u)) Q E s) :
  OpR X f (rI0 fun i j=>.int (g i j)):=by
 intro pins s σ H x y v u Q I rx ry h;obtain⟨i,j,rfl,rfl,q⟩:=h;obtain⟨t,rfl⟩:=rx;obtain⟨t',rfl⟩:=ry;exact rule i j t t' s _ _ ⟨.int (g i j),H,I.tok _,⟨_,rfl⟩,q⟩
def opB0{f:Value->Value->Sem Value}{g:Int->Int->Bool}(rule:∀(i j:Int) (t u:Tok) (s:Shared) (Q:Value->Shared->Prop) (E:Value->Shared->Prop),Q (.bool (g i j)) s->wpAny (model X.prog X.w) X.A (f (.int i t) (.int j u)) Q E s) :
  OpR X f (rI0 fun i j=>.bl (g i j)):=by
 intro pins s σ H x y v u Q I rx ry h;obtain⟨i,j,rfl,rfl,q⟩:=h;obtain⟨t,rfl⟩:=rx;obtain⟨t',rfl⟩:=ry;exact rule i j t t' s _ _ ⟨.bl (g i j),H,I,rfl,q⟩
def CDiv(i j:Int):Prop:=0<j/\j<1073741824
def CMul(i j:Int):Prop:=(-(2 ^ 64)<i/\i<2 ^ 64)\/(-(2 ^ 64)<j/\j<2 ^ 64)
def CMul.ok {i j:Int} (h:CMul i j):IntMulOk i j:=by
 rcases h with⟨h1,h2⟩|⟨h1,h2⟩
 ·exact .of_left (intBits_le_64 h1 h2)
 ·exact .of_right (intBits_le_64 h1 h2)
def Ud:OpR X (binaryOp .Add) (rI0 fun i j=>.int (i+j)):=opI0 fun _ _ _ _ _ _ _ q=>add_int q
def U3:OpR X (binaryOp .Sub) (rI0 fun i j=>.int (i-j)):=opI0 fun _ _ _ _ _ _ _ q=>sub_int q
def Kd:OpR X (binaryOp .Mult) (rI CMul fun i j=>.int (i*j)):=opI fun _ _ _ _ _ _ _ hc q=>mul_int q hc.ok
def U1:OpR X (binaryOp .FloorDiv) (rI CDiv fun i j=>.int (i / j)):=opI fun i j _ _ _ _ _ hc q=>by
 have h1:(0:Int)<j:=hc.1;have h2:j<1073741824:=hc.2;exact floordiv_int (by omega) (by rw[Int.fdiv_eq_ediv_of_nonneg i (by omega)];exact q) (.inl (PyProof.noPylong_small (by omega)))
def JM:OpR X (binaryOp .Mod) (rI (fun _ j=>0<j) fun i j=>.int (i % j)):=opI fun i j _ _ _ _ _ hc q=>by
 have h1:(0:Int)<j:=hc;exact mod_int' (by omega) (by rw[Int.fmod_eq_emod_of_nonneg i (by omega)];exact q)
def unI{f:Value->Sem Value}{g:Int->Int}(rule:∀(i:Int) (t:Tok) (s:Shared) (Q:Value->Shared->Prop) (E:Value->Shared->Prop),Q (.int (g i) s.toks) {s with toks:=s.toks+1}->wpAny (model X.prog X.w) X.A (f (.int i t)) Q E s) :
  UnR X f (rU fun i=>.int (g i)):=by
 intro pins s σ H x v Q I rx h;obtain⟨i,rfl,q⟩:=h;obtain⟨t,rfl⟩:=rx;exact rule i t s _ _ ⟨.int (g i),H,I.tok _,⟨_,rfl⟩,q⟩
def XT:UnR X (unaryOp .USub) (rU fun i=>.int (-i)):=unI fun _ _ _ _ _ q=>neg_int q
end
def scal:V->V->Bool
 | .non,.non=>true | .non,.int _=>true | .int _,.non=>true | .non,.bl _=>true | .bl _,.non=>true | .non,.str _=>true | .str _,.non=>true
 | .int _,.int _=>true | .bl _,.bl _=>true | .str _,.str _=>true | .byt _,.byt _=>true
 | .int _,.str _=>true | .str _,.int _=>true | .bl _,.str _=>true | .str _,.bl _=>true
 |_,_=>false
def rEq:R2:=fun x y H Q=>scal x y=true/\Q (.bl (decide (x=y))) H
def rNe:R2:=fun x y H Q=>scal x y=true/\Q (.bl (!decide (x=y))) H
def AH{i j:Int}:decide (V.int i=V.int j)=(i==j):=by
 rw[QS];simp
def AI{i j:Bool}:decide (V.bl i=V.bl j)=(i==j):=by
 rw[QS];simp
def D6{i j:Str}:decide (V.str i=V.str j)=(i==j):=by
 rw[QS];simp
def DM{i j:Array UInt8}:decide (V.byt i=V.byt j)=(i.toList==j.toList):=by
 rw[QS];cases i
 cases j
 simp
section
variable {X:Cx}{a b c:Expr}{ta tb tc:TE}{pos:Pos}
def JD{pins:List (Addr×Obj)}{σ:St}{H:Hp}{s:Shared}{Q:VK}{k k':Bool}(I:Inv X pins σ H s)(q:Q (.bl k) H)(e:k=k'):EP X pins σ Q (.bool k') s:=by
 subst e;exact⟨.bl k,H,I,rfl,q⟩
def op_eq:OpR X (compareOp .Eq) rEq:=by
 intro pins s σ H x y v u Q I rx ry h;obtain⟨hs,q⟩:=h;cases x with
 |non=>
  cases rx
  cases y with
  |non=>cases ry;exact PySem.EqNone.eq_none_none (JD I q (by simp))
  |bl j=>cases ry;exact PySem.EqNone.eq_none_bool (JD I q (by simp))
  |int j=>obtain⟨t',rfl⟩:=ry;exact PySem.EqNone.eq_none_int (JD I q (by simp))
  |str j=>obtain⟨t',rfl⟩:=ry;exact PySem.EqNone.eq_none_str (JD I q (by simp))
  |_=>exact absurd (show false=true from hs) Yw
 |bl i=>
  cases rx
  cases y with
  |non=>cases ry;exact PySem.EqNone.eq_bool_none (JD I q (by simp))
  |bl j=>cases ry;exact eq_bool (JD I q AI)
  |str j=>obtain⟨t',rfl⟩:=ry;exact PySem.EqMixed.eq_bool_str (JD I q (by simp))
  |_=>exact absurd (show false=true from hs) Yw
 |int i=>
  obtain⟨t,rfl⟩:=rx;cases y with
  |non=>cases ry;exact PySem.EqNone.eq_int_none (JD I q (by simp))
  |int j=>obtain⟨t',rfl⟩:=ry;exact eq_int (JD I q AH)
  |str j=>obtain⟨t',rfl⟩:=ry;exact PySem.EqMixed.eq_int_str (JD I q (by simp))
  |_=>exact absurd (show false=true from hs) Yw
 |str i=>
  obtain⟨t,rfl⟩:=rx;cases y with
  |non=>cases ry;exact PySem.EqNone.eq_str_none (JD I q (by simp))
  |bl j=>cases ry;exact PySem.EqMixed.eq_str_bool (JD I q (by simp))
  |int j=>obtain⟨t',rfl⟩:=ry;exact PySem.EqMixed.eq_str_int (JD I q (by simp))
  |str j=>obtain⟨t',rfl⟩:=ry;exact eq_str (JD I q D6)
  |_=>exact absurd (show false=true from hs) Yw
 |byt i=>
  obtain⟨t,rfl⟩:=rx;cases y with
  |byt j=>obtain⟨t',rfl⟩:=ry;exact PySem.W.eq_bytes (JD I q DM)
  |_=>exact absurd (show false=true from hs) Yw
 |_=>cases y<;>exact absurd (show false=true from hs) Yw
def op_ne:OpR X (compareOp .NotEq) rNe:=by
 intro pins s σ H x y v u Q I rx ry h;obtain⟨hs,q⟩:=h;cases x with
 |non=>
  cases rx
  cases y with
  |non=>cases ry;exact PySem.EqNone.ne_none_none (JD I q (by simp))
  |bl j=>cases ry;exact PySem.EqNone.ne_none_bool (JD I q (by simp))
  |int j=>obtain⟨t',rfl⟩:=ry;exact PySem.EqNone.ne_none_int (JD I q (by simp))
  |str j=>obtain⟨t',rfl⟩:=ry;exact PySem.EqNone.ne_none_str (JD I q (by simp))
  |_=>exact absurd (show false=true from hs) Yw
 |bl i=>
  cases rx
  cases y with
  |non=>cases ry;exact PySem.EqNone.ne_bool_none (JD I q (by simp))
  |bl j=>cases ry;exact ne_bool (JD I q (YS not AI))
  |str j=>obtain⟨t',rfl⟩:=ry;exact PySem.EqMixed.ne_bool_str (JD I q (by simp))
  |_=>exact absurd (show false=true from hs) Yw
 |int i=>
  obtain⟨t,rfl⟩:=rx;cases y with
  |non=>cases ry;exact PySem.EqNone.ne_int_none (JD I q (by simp))
  |int j=>obtain⟨t',rfl⟩:=ry;exact ne_int (JD I q (YS not AH))
  |str j=>obtain⟨t',rfl⟩:=ry;exact PySem.EqMixed.ne_int_str (JD I q (by simp))
  |_=>exact absurd (show false=true from hs) Yw
 |str i=>
  obtain⟨t,rfl⟩:=rx;cases y with
  |non=>cases ry;exact PySem.EqNone.ne_str_none (JD I q (by simp))
  |bl j=>cases ry;exact PySem.EqMixed.ne_str_bool (JD I q (by simp))
  |int j=>obtain⟨t',rfl⟩:=ry;exact PySem.EqMixed.ne_str_int (JD I q (by simp))
  |str j=>obtain⟨t',rfl⟩:=ry;exact ne_str (JD I q (YS not D6))
  |_=>exact absurd (show false=true from hs) Yw
 |byt i=>
  obtain⟨t,rfl⟩:=rx;cases y with
  |byt j=>obtain⟨t',rfl⟩:=ry;exact PySem.W.ne_bytes (JD I q (YS not DM))
  |_=>exact absurd (show false=true from hs) Yw
 |_=>cases y<;>exact absurd (show false=true from hs) Yw
def TM:OpR X (compareOp .Lt) (rI0 fun i j=>.bl (decide (i<j))):=opB0 fun _ _ _ _ _ _ _ q=>lt_int q
def UF:OpR X (compareOp .Gt) (rI0 fun i j=>.bl (decide (j<i))):=opB0 fun _ _ _ _ _ _ _ q=>gt_int q
def DF:OpR X (compareOp .GtE) (rI0 fun i j=>.bl (decide (j<=i))):=opB0 fun _ _ _ _ _ _ _ q=>ge_int q
def OpR.or {f:Value->Value->Sem Value}{r r':R2} (h:OpR X f r) (h':OpR X f r'):OpR X f (fun x y H Q=>r x y H Q\/r' x y H Q):=by
 intro pins s σ H x y v u Q I rx ry q;rcases q with q|q
 ·exact h pins s σ H x y v u Q I rx ry q
 ·exact h' pins s σ H x y v u Q I rx ry q
def JJ(b:Expr){op:CmpOp}(h:op≠.In:=by decide)(h2:op≠.NotIn:=by decide):behindInMarks op b=false:=by
 have e1:(op==CmpOp.In)=false:=by cases op<;>first|rfl|exact absurd rfl h
 have e2:(op==CmpOp.NotIn)=false:=by cases op<;>first|rfl|exact absurd rfl h2
 cases b<;>simp[behindInMarks,e1,e2]
def Xm{op:CmpOp}{r:R2}(ho:OpR X (compareOp op) r)(ha:PE X a ta)(hb:PE X b tb)(hm:behindInMarks op b=false):PE X (.Compare a [op] [b] pos) (tOp r ta tb):=by
 intro pins s σ H Q I h;exact wpAny_Compare1 (binT ha hb I h fun v u s2 x y H2 I2 rx ry q=>ho pins s2 σ H2 x y v u Q I2 rx ry q) hm
def P4(t:TE):TT:=fun σ H Q=>t σ H fun x H'=>∃k,x=.bl k/\Q k H'
def JE{op:CmpOp}{r:R2}(ho:OpR X (compareOp op) r)(ha:PE X a ta)(hb:PE X b tb)(hm:behindInMarks op b=false):PT X (.Compare a [op] [b] pos) (P4 (tOp r ta tb)):=by
 intro pins s σ H Q I h
 refine wpAny_isTrue_Compare1 (thn (ha pins s σ H _ I h) fun v s1 ⟨x,H1,I1,r1,q1⟩=>thn (hb pins s1 σ H1 _ I1 q1) fun u s2 ⟨y,H2,I2,r2,q2⟩=>
  thn (ho pins s2 σ H2 x y v u _ I2 r1 r2 q2) fun c s3 ⟨z,H3,I3,r3,k,e,q3⟩=>?_) hm
 subst e;cases r3
 exact W6 ⟨H3,I3,q3⟩
def TruV(K:Za)(x:V)(H:Hp)(k:Bool):Prop:=
 match x with
 | .non=>k=false
 | .bl b=>k=b
 | .int i=>k=(i != 0)
 | .str y=>y.length<=sizeLine/\k=((y.length:Int) != 0)
 | .byt y=>y.size<=sizeLine/\k=((y.size:Int) != 0)
 | .ref p=>(∃xs,SqL K H p xs/\k=!xs.isEmpty)\/(∃xs,SqT K H p xs/\k=!xs.isEmpty)\/∃kvs,H p=some (.dK kvs)/\k=!kvs.isEmpty
 |_=>False
def GS{κ:Type}{kvs:List (κ×V)}{vs:List (κ×Value)}(r:KV kvs vs):(!vs.isEmpty)=!kvs.isEmpty:=by
 cases r<;>rfl
def D9{xs:List V}{its:List Value}(r:Vals xs its):(!its.toArray.isEmpty)=!xs.isEmpty:=by
 cases r<;>simp
def Te:(sizeLine:Nat)<2 ^ 63:=by rw[Wt];decide
def Lv:TruR X (fun x H Q=>∃k,TruV X.K x H k/\Q k H):=by
 intro pins s σ H x v Q I rx h;obtain⟨k,e,q⟩:=h;have hl:=Te;have hs:sizeLine=16777216:=Wt;cases x with
 |non=>
  cases rx
  have e':k=false:=e;subst e';exact truthy_none ⟨H,I,q⟩
 |bl b=>
  cases rx
  have e':k=b:=e;subst e';exact W6 ⟨H,I,q⟩
 |int i=>
  obtain⟨t,rfl⟩:=rx;have e':k=(i != 0):=e;subst e';exact PySem.P.truthy_int ⟨H,I,q⟩
 |str y=>
  obtain⟨t,rfl⟩:=rx;obtain⟨hy,e'⟩:y.length<=sizeLine/\k=((y.length:Int) != 0):=e;subst e';exact PySem.P.truthy_str (by omega) ⟨H,I.tok _,q⟩
 |byt y=>
  obtain⟨t,rfl⟩:=rx;obtain⟨hy,e'⟩:y.size<=sizeLine/\k=((y.size:Int) != 0):=e;subst e';exact PySem.W.truthy_bytes (by omega) ⟨H,I.tok _,q⟩
 |ref p=>
  cases rx
  have e':(∃xs,SqL X.K H p xs/\k=!xs.isEmpty)\/(∃xs,SqT X.K H p xs/\k=!xs.isEmpty)\/∃kvs,H p=some (.dK kvs)/\k=!kvs.isEmpty:=e;rcases e' with⟨xs,hx,e'⟩|⟨xs,hx,e'⟩|⟨kvs,hx,e'⟩
  ·subst e';obtain⟨its,r,pl,hz⟩:=I.list hx;have hlen:=r.length;exact wpAny_truthy_list pl.isList (by simp only[Yp];omega) ⟨H,I.tok _,by rw[D9 r];exact q⟩
  ·subst e';obtain⟨its,r,pl,hz⟩:=I.tuple hx;have hlen:=r.length;exact truthy_tuple pl (by simp only[Yp];omega) ⟨H,I.tok _,by rw[D9 r];exact q⟩
  ·subst e';obtain⟨hz,hS,vs,r,m⟩:kvs.length<=sizeLine/\(p==sysModules)=false/\∃vs,KV kvs vs/\s.heap.DictOf (Ut X.prog X.w) p vs:=I.hok p _ hx;have hlen:kvs.length=vs.length:=Paired.length r;exact wpAny_truthy_dict hS m (by omega) ⟨H,I.tok _,by rw[GS r];exact q⟩
 |_=>exact(show False from e).elim
def Ma(ha:PE X a ta)(he:∀whole,isTrue a X.env whole=(do let v ←whole;standAt a.pos;holding [v] (truthy v))) :
  PT X a (fun σ H Q=>ta σ H fun x H'=>∃k,TruV X.K x H' k/\Q k H'):=by
 intro pins s σ H Q I h;exact isTrue_plain (thn (ha pins s σ H _ I h) fun v s1 ⟨x,H1,I1,r1,q1⟩=>Lv pins s1 σ H1 x v Q I1 r1 q1) (he _)
def vals1{x:V}{us:List Value}(r:Vals [x] us):∃u,us=[u]/\RelV x u:=by
 cases r with
 |cons r1 r2=>cases r2;exact⟨_,rfl,r1⟩
def vals2{x y:V}{us:List Value}(r:Vals [x,y] us):∃u w',us=[u,w']/\RelV x u/\RelV y w':=by
 cases r with
 |cons r1 r2=>
  cases r2 with
  |cons r3 r4=>cases r4;exact⟨_,_,rfl,r1,r3⟩
def Hn(hc:X.calm=true):Ug X (.builtin "max") (fun xs H Q=>∃i j,xs=[.int i,.int j]/\Q (.int (if j>i then j else i)) H):=by
 intro pins s σ H xs us Q I r h;obtain⟨i,j,rfl,q⟩:=h;obtain⟨u,w',rfl,⟨t,rfl⟩,⟨t',rfl⟩⟩:=vals2 r;refine max_two_ints (I.ok.hd hc) fun h' tk k=>⟨_,H,I.kept k,?_,q⟩;by_cases hj:j>i
 ·rw[Yg hj,Yg hj];exact⟨_,rfl⟩
 ·rw[Ye hj,Ye hj];exact⟨_,rfl⟩
def LenV(K:Za)(x:V)(H:Hp)(n:Nat):Prop:=
 match x with
 | .str y=>y.length<=sizeLine/\n=y.length
 | .byt y=>y.size<=sizeLine/\n=y.size
 | .ref p=>(∃xs,SqL K H p xs/\n=xs.length)\/∃xs,SqT K H p xs/\n=xs.length
 |_=>False
def SZ:Ug X (.builtin "len") (fun xs H Q=>∃x n,xs=[x]/\LenV X.K x H n/\Q (.int n) H):=by
 intro pins s σ H xs us Q I r h;obtain⟨x,n,rfl,e,q⟩:=h;obtain⟨u,rfl,rx⟩:=vals1 r;have hl:=Te;have hs:sizeLine=16777216:=Wt;cases x with
 |str y=>
  obtain⟨t,rfl⟩:=rx;obtain⟨hy,e'⟩:y.length<=sizeLine/\n=y.length:=e;subst e';exact len_str (by omega) ⟨.int _,H,I.tok _,⟨_,rfl⟩,q⟩
 |byt y=>
  obtain⟨t,rfl⟩:=rx;obtain⟨hy,e'⟩:y.size<=sizeLine/\n=y.size:=e;subst e';exact PySem.W.len_bytes (by omega) ⟨.int _,H,I.tok _,⟨_,rfl⟩,q⟩
 |ref p=>
  cases rx
  have e':(∃xs,SqL X.K H p xs/\n=xs.length)\/∃xs,SqT X.K H p xs/\n=xs.length:=e;rcases e' with⟨xs,hx,e'⟩|⟨xs,hx,e'⟩
  ·subst e';obtain⟨its,r',pl,hz⟩:=I.list hx;have hlen:=r'.length;exact Calls.call_len_list pl.isList (by simp only[Yp];omega) ⟨.int xs.length,H,I.tok _,⟨_,by simp only[Yp];rw[hlen]⟩,q⟩
  ·subst e';obtain⟨its,r',pl,hz⟩:=I.tuple hx;have hlen:=r'.length;exact len_tuple pl (by simp only[Yp];omega) ⟨.int xs.length,H,I.tok _,⟨_,by simp only[Yp];rw[hlen]⟩,q⟩
 |_=>exact(show False from e).elim
end
structure ObjM (h:Heap) (x dx C:Addr) (mA:Str->Option Value):Prop where
 obj:h.get? x=some (PySem.W.instObj C dx)
 ns:h.Ns1 dx mA
 ne:dx≠x
def LB{h:Heap}{dx:Addr}{mA:Str->Option Value}(n:h.Ns1 dx mA):∃od,h.get? dx=some od/\∀name,PySem.W.lookIn name od=some (mA name):=by
 obtain⟨o,es,ep,ho,hd,hk,_,hm⟩:=n;refine⟨o,ho,fun name=>?_⟩;have e:=hm name;unfold nsFind findBy at e;rw[←Array.find?_toList]at e;unfold PySem.W.lookIn;rw[hd]
 dsimp only
 split
 ·rename_i y q;rw[q]at e;exact YS some e
 ·rename_i q;rw[q]at e
  have a:es.toList.any (·.refKey)=false:=by
   rw[Vh];intro y hy;obtain⟨z,t,hkey⟩:=hk y (Array.mem_toList_iff.mp hy);simp[DictEntry.refKey,hkey]
  have a':¬es.toList.any (·.refKey)=true:=by rw[a];exact Yw
  rw[Ye a'];exact YS some e
def ObjM.look {h:Heap}{x dx C:Addr}{mA:Str->Option Value} (I:ObjM h x dx C mA):∃od,PySem.W.InstAt h x (PySem.W.instObj C dx) C (some od)/\∀name,PySem.W.lookIn name od=some (mA name):=
 let ⟨od,ho,hl⟩:=LB I.ns
 ⟨od,⟨I.obj,rfl,rfl,ho⟩,hl⟩
section
variable {prog:Program}{w:World}{A:Around}{E:Value->Shared->Prop}{s:Shared}{K:Za}{x dx C f:Addr}{mA:Str->Option Value}{name:Str}{v:Value}
def LD{expr:Bool}{Q:Value->Shared->Prop}(X:K.In s.heap)(I:ObjM s.heap x dx C mA)(hg:PySem.W.plainGet K C name=true)(hh:PySem.W.hasDictIn K C=true)(ha:PySem.W.findIn K (.ref C) name=some none)(hv:mA name=some v)(hv':PySem.W.handedIn v=true)(h:Q v {s with toks:=s.toks+1}) :
  wpAny (model prog w) A (getAttr (.ref x) name expr) Q E s:=by
 obtain⟨od,J,hl⟩:=I.look;exact PySem.W.get_value X J (QY hg).1 (PySem.W.findObj_own hh ha rfl (by rw[hl,hv])) hv' h
def Ik{pl:Sem Bool}{Q:Value×List Value->Shared->Prop}(X:K.In s.heap)(I:ObjM s.heap x dx C mA)(hg:PySem.W.plainGet K C name=true)(hf:PySem.W.findIn K (.ref C) name=some (some (.ref f)))(ht:PySem.W.isFn K (.ref f)=true)(hv:mA name=none)(h:Q (.ref f,[.ref x]) s) :
  wpAny (model prog w) A (getMethod (.ref x) name pl) Q E s:=by
 obtain⟨od,J,hl⟩:=I.look;exact PySem.W.method_fn X J (QY hg).1 (QY hg).2 hf (beq_iff_eq.mp ht) (by show(PySem.W.lookIn name od).map (·.isSome)=some false;rw[hl,hv];rfl) h
def Gn{ns:List Str}{Q:Unit->Shared->Prop}(X:K.In s.heap)(I:ObjM s.heap x dx C mA)(hs:PySem.W.findIn K (.ref C) "__setattr__"=some (some (.builtin "object.__setattr__")))(hp:PySem.W.plainOver K C=true)(ht:PySem.W.takerIn K C name=some none)(hh:PySem.W.hasDictIn K C=true)(hw:PySem.Within mA ns)(hsz:ns.length<=sizeLine)(h:∀h',ObjM h' x dx C (fun y=>if y=name then some v else mA y)->Heap.SameBut dx s.heap h'->Q () {s with heap:=h',toks:=s.toks+2}) :
  wpAny (model prog w) A (setAttr (.ref x) name v) Q E s:=by
 obtain⟨od,J,hl⟩:=I.look;refine PySem.W.set_plain X J hs (PySem.W.osa_open (s:={s with toks:=s.toks+1}) (r:=none) X J hp ht fun b=>?_)
 obtain⟨cd,hc,hd'⟩:=PySem.W.any_some hh;have hx:s.heap.get? x=some ⟨.ref C,some dx,.plain,#[]⟩:=I.obj;refine ZY (Yb (ZY (ZY (wpAny_loadPart hx (ZY (PySem.W.Looks.here (s:={s with toks:=s.toks+1}) (PySem.W.looks_clsIn X hc) ?_))))))
 rw[hd'];refine Yb (a:=some dx) (ZY (Yb (ZY ?_)));refine wpAny_nsSet1 (s:={s with toks:=s.toks+1}) I.ns fun h' hn2 hs2=>?_
 obtain⟨oD,esD,epD,hoD,hdD,hcD⟩:=hn2.count (PySem.Within.cons name v hw);refine ZY (wpAny_lookBehind hoD (by rw[hdD];exact pastItsLine_dict (Yx hcD (by rw[Y3];omega))) ?_);exact Yb (h _ ⟨(hs2.2 _ (Ne.symm I.ne)).trans I.obj,hn2,I.ne⟩ hs2)
def Gs{R:Result->Shared->Prop}{vs:List Value}{kw:List (Str×Value)}(X:K.In s.heap)(hm:PySem.W.makesIn K C=true)(hi:PySem.W.findIn K (.ref C) "__init__"=some (some (.ref f)))(hf:PySem.W.typeIn K (.ref f)=some (.type "function"))
  (h:codeAny (model prog w) (A.under (.builtin "type.__call__" ⟨.ref C::vs,kw⟩)) (.call (.ref f) ⟨.ref (s.heap.objs.size+1)::vs,kw⟩) (PySem.W.InitBack (s.heap.objs.size+1) R)
   {s with heap:=(s.heap.push PySem.W.emptyDict).push (PySem.W.instObj C s.heap.objs.size)}) :
  codeAny (model prog w) A (.call (.ref C) ⟨vs,kw⟩) R s:=by
 obtain⟨hh,g,d,t,os⟩:=s;exact PySem.W.make_core (PySem.W.makes_of X hm) (PySem.W.looks_findIn X hi) (fun self=>PySem.W.bind_fn X self hf) (.inl rfl) h
end
def putF(f:Str)(v:V):List (Str×V)->List (Str×V)
 |[]=>[(f,v)]
 |(g,x)::r=>if g=f then(g,v)::r else(g,x)::putF f v r
def Dh(f g:Str)(v:V):∀fs:List (Str×V),(putF f v fs).lookup g=if g=f then some v else fs.lookup g
 |[]=>by
  show List.lookup g [(f,v)]=_;by_cases h:g=f
  ·have hb:(g==f)=true:=beq_iff_eq.mpr h;simp only[List.lookup,hb,Yg h]
  ·have hb:(g==f)=false:=WB.mpr h;simp only[List.lookup,hb,Ye h]
 |(k,x)::r=>by
  have ih:=Dh f g v r;rw[show putF f v ((k,x)::r)=(if k=f then(k,v)::r else(k,x)::putF f v r)from rfl]
  by_cases hk:k=f
  ·rw[Yg hk];by_cases h:g=k
   ·have hb:(g==k)=true:=beq_iff_eq.mpr h;simp only[List.lookup,hb,Yg (h.trans hk)]
   ·have hb:(g==k)=false:=WB.mpr h;simp only[List.lookup,hb,Ye (fun e:g=f=>h (e.trans hk.symm))]
  ·rw[Ye hk];by_cases h:g=k
   ·have hb:(g==k)=true:=beq_iff_eq.mpr h;simp only[List.lookup,hb,Ye (fun e:g=f=>hk (h.symm.trans e))]
   ·have hb:(g==k)=false:=WB.mpr h;simp only[List.lookup,hb];exact ih
def Sj(f:Str)(v:V):∀fs:List (Str×V),f∈(putF f v fs).map (·.1)/\∀g,g∈fs.map (·.1)->g∈(putF f v fs).map (·.1)
 |[]=>⟨by simp[putF],fun g h=>by simp at h⟩
 |(k,x)::r=>by
  obtain⟨i1,i2⟩:=Sj f v r;rw[show putF f v ((k,x)::r)=(if k=f then(k,v)::r else(k,x)::putF f v r)from rfl]
  by_cases hk:k=f
  ·rw[Yg hk];subst hk;exact⟨by simp,fun g h=>by simpa using h⟩
  ·rw[Ye hk];refine⟨?_,fun g h=>?_⟩
   ·rw[Yq];exact Yu _ i1
   ·rw[Yq]at h ⊢;rcases Yo.mp h with e|e
    ·exact Yo.mpr (.inl e)
    ·exact Yu _ (i2 g e)
def Fo(f:Str)(v:V):∀fs:List (Str×V),(putF f v fs).length<=fs.length+1
 |[]=>by simp[putF]
 |(k,x)::r=>by
  have ih:=Fo f v r;rw[show putF f v ((k,x)::r)=(if k=f then(k,v)::r else(k,x)::putF f v r)from rfl]
  by_cases hk:k=f
  ·rw[Yg hk,Y3,Y3];omega
  ·rw[Ye hk,Y3,Y3];omega
def RelO.some_of {v:V}{o:Option Value} (r:RelO (some v) o):∃u,o=some u/\RelV v u:=by
 cases o with
 |none=>exact(show False from r).elim
 |some u=>exact⟨u,rfl,r⟩
def RelO.none_of {o:Option Value} (r:RelO none o):o=none:=by
 cases o with
 |none=>rfl
 |some u=>exact(show False from r).elim
def Mb{v:V}{u:Value}(r:RelV v u):PySem.W.handedIn u=true:=by
 cases v with
 |non=>cases (show u=Value.none from r);rfl
 |bl b=>cases (show u=Value.bool b from r);rfl
 |int i=>obtain⟨t,e⟩:=(show ∃t,u=Value.int i t from r);cases e;rfl
 |str x=>obtain⟨t,e⟩:=(show ∃t,u=Value.str x t from r);cases e;rfl
 |byt b=>obtain⟨t,e⟩:=(show ∃t,u=Value.bytes b t from r);cases e;rfl
 |flt b=>obtain⟨t,e⟩:=(show ∃t,u=Value.float b t from r);cases e;rfl
 |ref a=>cases (show u=Value.ref a from r);rfl
 |ty n=>cases (show u=Value.type n from r);rfl
section
variable {P:Program}{w:World}{H H':Hp}{h h':Heap}{a C dx:Addr}{fs fs':List (Str×V)}
def PD(hok:HOk P w H h)(e:H a=some (.ins C dx fs)):∃mA,ObjM h a dx C mA/\(∀f,RelO (fs.lookup f) (mA f))/\PySem.Within mA (fs.map (·.1))/\fs.length<=1000/\H dx=some (.own a):=by
 obtain⟨d,z,ne,ob,mA,n,r,q⟩:=(show ObjOk P w H h a (.ins C dx fs)from hok a _ e)
 exact⟨mA,⟨ob,n,ne⟩,r,q,z,d⟩
end
structure Cls (K:Za) (C:Addr):Prop where
 pg:PySem.W.plainGet K C Str.empty=true
 hd:PySem.W.hasDictIn K C=true
 po:PySem.W.plainOver K C=true
 sa:PySem.W.findIn K (.ref C) "__setattr__"=some (some (.builtin "object.__setattr__"))
def Cls.get {K:Za}{C:Addr} (c:Cls K C) (f:Str):PySem.W.plainGet K C f=true:=c.pg
def NoAttr(K:Za)(C:Addr)(f:Str):Prop:=PySem.W.findIn K (.ref C) f=some none
def NoAttr.taker {K:Za}{C:Addr}{f:Str} (n:NoAttr K C f):PySem.W.takerIn K C f=some none:=by
 unfold PySem.W.takerIn;rw[show PySem.W.findIn K (.ref C) f=some none from n]
 rfl
structure Meth (K:Za) (C:Addr) (m:Str) (f:Addr):Prop where
 at_:PySem.W.findIn K (.ref C) m=some (some (.ref f))
 fn:PySem.W.isFn K (.ref f)=true
 kp:PySem.W.keepIn K (.ref f)=true
section
variable {X:Cx}{pins:List (Addr×Obj)}{σ:St}{H:Hp}{s:Shared}{a C dx:Addr}{fs:List (Str×V)}{f:Str}{v:V}{A:Around}{E:Value->Shared->Prop}
def RQ{b:Bool}{Q:Value->Shared->Prop}(I:Inv X pins σ H s)(e:H a=some (.ins C dx fs))(c:Cls X.K C)(n:NoAttr X.K C f)(l:fs.lookup f=some v)(h:∀u s',Inv X pins σ H s'->RelV v u->Q u s'):wpAny (model X.prog X.w) A (getAttr (.ref a) f b) Q E s:=by
 obtain⟨mA,O,r,_,_,_⟩:=PD I.hok e;obtain⟨u,hu,ru⟩:=RelO.some_of (v:=v) (o:=mA f) (by rw[←l];exact r f);exact LD I.kIn O (c.get f) c.hd n hu (Mb ru) (h u _ (I.tok _) ru)
def Sf{m:Str}{g:Addr}{pl:Sem Bool}{Q:Value×List Value->Shared->Prop}(I:Inv X pins σ H s)(e:H a=some (.ins C dx fs))(c:Cls X.K C)(k:Meth X.K C m g)(l:fs.lookup m=none)(h:Q (.ref g,[.ref a]) s):wpAny (model X.prog X.w) A (getMethod (.ref a) m pl) Q E s:=by
 obtain⟨mA,O,r,_,_,_⟩:=PD I.hok e;have hn:mA m=none:=RelO.none_of (by rw[←l];exact r m);exact Ik I.kIn O (c.get m) k.at_ k.fn hn h
def RO{y:V}{u:Value}{Q:Unit->Shared->Prop}(I:Inv X pins σ H s)(e:H a=some (.ins C dx fs))(c:Cls X.K C)(n:NoAttr X.K C f)(hl:fs.length<1000)(ry:RelV y u)(h:∀s',Inv X pins σ (upd H a (.ins C dx (putF f y fs))) s'->Q () s'):wpAny (model X.prog X.w) A (setAttr (.ref a) f u) Q E s:=by
 obtain⟨mA,O,r,wi,_,ho⟩:=PD I.hok e;have hz:(fs.map (·.1)).length<=sizeLine:=by rw[Ya,Wt];omega
 refine Gn I.kIn O c.sa c.po n.taker c.hd wi hz fun h' O' sb=>h _ ?_;have hd:∃o,h'.get? dx=some o:=let ⟨o,_,_,e',_⟩:=O'.ns;⟨o,e'⟩;refine I.write (x:=a) (e:=dx) (by rw[e];exact True.intro) (.inr ho) (fun b q hb z=>(sb.2 b hb).trans z) hd ?_;refine⟨by rw[Jv O.ne];exact ho,?_,O.ne,O'.obj,_,O'.ns,fun g=>?_,fun g hg=>?_⟩
 ·have:=Fo f y fs;omega
 ·show RelO ((putF f y fs).lookup g) (if g=f then some u else mA g);rw[Dh];by_cases q:g=f
  ·rw[Yg q,Yg q];exact ry
  ·rw[Ye q,Ye q];exact r g
 ·by_cases q:g=f
  ·rw[q];exact(Sj f y fs).1
  ·refine(Sj f y fs).2 g (wi g fun z=>hg ?_);show(if g=f then some u else mA g)=none;rw[Ye q];exact z
def Inv.made (I:Inv X pins σ H s):Inv X pins σ (upd (upd H s.heap.objs.size (.own (s.heap.objs.size+1))) (s.heap.objs.size+1) (.ins C s.heap.objs.size []))
  {s with heap:=(s.heap.push PySem.W.emptyDict).push (PySem.W.instObj C s.heap.objs.size)}:=by
 have e1:(s.heap.push PySem.W.emptyDict).get? s.heap.objs.size=some PySem.W.emptyDict:=Ym s.heap rfl
 have e2:((s.heap.push PySem.W.emptyDict).push (PySem.W.instObj C s.heap.objs.size)).get? (s.heap.objs.size+1)=some (PySem.W.instObj C s.heap.objs.size):=by
  have:=Ym (s.heap.push PySem.W.emptyDict) (o:=PySem.W.instObj C s.heap.objs.size) rfl
  rwa[Q0]at this
 have e3:(s.heap.push PySem.W.emptyDict).Ns s.heap.objs.size (fun _=>none):=⟨PySem.W.emptyDict,#[],_,e1,rfl,(fun e he=>absurd he (by simp)),fun _=>rfl⟩;have I1:=I.laid (a:=s.heap.objs.size) (o:=.own (s.heap.objs.size+1)) (h':=s.heap.push PySem.W.emptyDict) (t':=s.toks) (fun b u q=>Yc _ q) (Yi _) ⟨_,e1⟩;refine I1.laid (a:=s.heap.objs.size+1) (o:=.ins C s.heap.objs.size []) (t':=s.toks) (fun b u q=>Yc _ q) (Wx (Q0 _ _)) ?_;have ne:s.heap.objs.size≠s.heap.objs.size+1:=Y6 (Qr _);refine⟨by rw[Jv ne,J8],Wb _,ne,e2,fun _=>none,(Heap.Ns1.of_empty e3).at fun o q=>Yc _ q,fun _=>True.intro,fun y hy=>absurd rfl hy⟩
def IP{prog:Program}{w:World}{env:Env}{e:Expr}{f:Str}{pos:Pos}{s:Shared}{Q:Value->Shared->Prop}(hb:attributeBase e f env (eval e env)=eval e env)(h:wpAny (model prog w) A (eval e env) (fun o s₁=>wpAny (model prog w) A (getAttr o f true) Q E s₁) E s):wpAny (model prog w) A (eval (.Attribute e f pos) env) Q E s:=
 Attribute_any_ h (by rw[arm_eval_Attribute,hb])
end
def tFld(K:Za)(ta:TE)(f:Str):TE:=fun σ H Q=>ta σ H fun x H1=>∃a C dx fs v,x=.ref a/\H1 a=some (.ins C dx fs)/\Cls K C/\NoAttr K C f/\fs.lookup f=some v/\Q v H1
def sFld(K:Za)(ta tv:TE)(f:Str):TS:=fun D σ H=>tv σ H fun y H1=>ta σ H1 fun x H2=>∃a C dx fs,x=.ref a/\H2 a=some (.ins C dx fs)/\Cls K C/\NoAttr K C f/\fs.length<1000/\
 D.nx σ (upd H2 a (.ins C dx (putF f y fs)))
section
variable {X:Cx}{o e value:Expr}{f:Str}{pos pos' tpos:Pos}{ta tv:TE}
def Ke(he:PE X e ta)(hb:attributeBase e f X.env (eval e X.env)=eval e X.env):PE X (.Attribute e f pos) (tFld X.K ta f):=by
 intro pins s σ H Q I h;refine IP hb (thn (he pins s σ H _ I h) fun u s1 ⟨x,H1,I1,rx,a,C,dx,fs,v,ex,ea,c,n,l,q⟩=>?_);subst ex;obtain rfl:u=Value.ref a:=rx;exact RQ I1 ea c n l fun u' s2 I2 ru=>⟨v,H1,I2,ru,q⟩
def NJ(ha:PE X o ta)(hv:PE X value tv)(hs:swapsWith value (some (.Attribute o f pos')) pos.line X.env=pure false):PS X (.Assign [.Attribute o f pos'] value pos) (sFld X.K ta tv f):=by
 intro pins s σ H D I h;refine plainObj_wpAny_Assign_Attribute (thn (hv pins s σ H _ I h) fun u s1 ⟨y,H1,I1,ry,q⟩=>thn (ha pins s1 σ H1 _ I1 q) fun ov s2 ⟨x,H2,I2,rx,a,C,dx,fs,ex,ea,c,n,l,q2⟩=>?_) hs;subst ex;obtain rfl:ov=Value.ref a:=rx;exact RO I2 ea c n l ry fun s3 I3=>⟨σ,_,I3,q2⟩
def Zbc{pl:Sem Bool}{m:Str}{apos:Pos}{args:List Expr}{pins:List (Addr×Obj)}{s:Shared}{σ:St}{H:Hp}{Q:Value->Shared->Prop}{te:TE}(he:PE X e te)(I:Inv X pins σ H s)
  (h:te σ H fun x H1=>∃a C dx fs g,x=.ref a/\H1 a=some (.ins C dx fs)/\Cls X.K C/\Meth X.K C m g/\fs.lookup m=none/\
   ∀s1,Inv X pins σ H1 s1->wpAny (model X.prog X.w) X.A (callWith pos (.ref g) [.ref a] (backTo pos (starEach args X.env)) (backToKw pos (keywordEach [] X.env))) Q X.xe s1)
  (ht:eval (.Call (.Attribute e m apos) args [] pos) X.env=(do
   let ov ←eval e X.env
   standAt apos.atName
   let (f,first) ←holding [ov] (getMethod ov m pl)
   callWith pos f first (backTo pos (starEach args X.env)) (backToKw pos (keywordEach [] X.env)))) :
  wpAny (model X.prog X.w) X.A (eval (.Call (.Attribute e m apos) args [] pos) X.env) Q X.xe s:=by
 refine QK (pl:=pl) (thn (he pins s σ H _ I h) fun u s1 ⟨x,H1,I1,rx,a,C,dx,fs,g,ex,ea,c,k,l,q⟩=>?_) ht;subst ex;obtain rfl:u=Value.ref a:=rx;exact Sf I1 ea c k l (q s1 I1)
end
section
variable {X:Cx}{pins:List (Addr×Obj)}{σ:St}{H:Hp}{s:Shared}{A:Around}{E:Value->Shared->Prop}{Q:Value->Shared->Prop}{c:Value}{b:Bool}
inductive TyOf (K:Za) (H:Hp):V->Value->Prop where
 |non:TyOf K H .non (.type "NoneType")
 |bl (x:Bool):TyOf K H (.bl x) (.type "bool")
 |int (i:Int):TyOf K H (.int i) (.type "int")
 |str (x:Str):TyOf K H (.str x) (.type "str")
 |flt (x:UInt64):TyOf K H (.flt x) (.type "float")
 |lst {a:Addr} {xs:List V} (e:H a=some (.lst xs)):TyOf K H (.ref a) (.type "list")
 |frz {a:Addr} {o:Obj} {xs:List V} (e:H a=some (.frz o (.lst xs))):TyOf K H (.ref a) (.type "list")
 |tup {a:Addr} {xs:List V} (e:H a=some (.tup xs)):TyOf K H (.ref a) (.type "tuple")
 |dK {a:Addr} {kvs:List (Key×V)} (e:H a=some (.dK kvs)):TyOf K H (.ref a) (.type "dict")
 |dT {a:Addr} {kvs:List (List Key×V)} (e:H a=some (.dT kvs)):TyOf K H (.ref a) (.type "dict")
 |ins {a C dx:Addr} {fs:List (Str×V)} (e:H a=some (.ins C dx fs)) (cl:Cls K C) (ha:PySem.W.findIn K (.ref C) "__class__"=some (some (.builtin "object.__class__")))
   (hn:PySem.W.specialIn K (.builtin "object.__class__") "__get__"=some (some (.builtin "getset_descriptor.__get__"))) (htk:PySem.W.takesIn K (.builtin "object.__class__")=some true)
   (hm:PySem.W.mroIn K C (.type "object")=some true):TyOf K H (.ref a) (.ref C)
def M8{x:V}{u t:Value}(I:Inv X pins σ H s)(rx:RelV x u)(ty:TyOf X.K H x t)(e:PySem.W.kitOne X.K t c=some b)(h:∀tk,Q (.bool b) {s with toks:=tk}) :
  wpAny (model X.prog X.w) A (call (.builtin "isinstance") [u,c]) Q E s:=by
 cases ty with
 |non=>cases (show u=Value.none from rx);exact Wl PySem.W.kitx_none I.kIn True.intro e (fun z=>nomatch z) h
 |bl y=>cases (show u=Value.bool y from rx);exact Wl PySem.W.kitx_bool I.kIn True.intro e (fun z=>nomatch z) h
 |int i=>obtain⟨t,q⟩:=(show ∃t,u=Value.int i t from rx);cases q;exact Wl PySem.W.kitx_int I.kIn True.intro e (fun z=>nomatch z) h
 |str y=>obtain⟨t,q⟩:=(show ∃t,u=Value.str y t from rx);cases q;exact Wl PySem.W.kitx_str I.kIn True.intro e (fun z=>nomatch z) h
 |flt y=>obtain⟨t,q⟩:=(show ∃t,u=Value.float y t from rx);cases q;exact Wl PySem.W.kitx_float I.kIn True.intro e (fun z=>nomatch z) h
 | @lst a xs ea=>
  cases (show u=Value.ref a from rx)
  obtain⟨_,_,n,_,h1⟩:=(show ObjOk X.prog X.w H s.heap a (.lst xs)from I.hok a _ ea)
  exact Wl PySem.W.kitx_list I.kIn ⟨_,h1,rfl⟩ e (fun z=>nomatch z) h
 | @frz a ob xs ea=>
  cases (show u=Value.ref a from rx)
  obtain⟨_,_,_,n,_,h1⟩:=(show ObjOk X.prog X.w H s.heap a (.frz ob (.lst xs))from I.hok a _ ea)
  exact Wl PySem.W.kitx_list I.kIn ⟨_,h1,rfl⟩ e (fun z=>nomatch z) h
 | @tup a xs ea=>
  cases (show u=Value.ref a from rx)
  obtain⟨_,_,_,p⟩:=(show ObjOk X.prog X.w H s.heap a (.tup xs)from I.hok a _ ea)
  obtain⟨o,h1,h2,_⟩:=p;exact Wl PySem.W.kitx_tuple I.kIn ⟨o,h1,h2⟩ e (fun z=>nomatch z) h
 | @dK a kvs ea=>
  cases (show u=Value.ref a from rx)
  obtain⟨_,_,vs,_,p⟩:=(show ObjOk X.prog X.w H s.heap a (.dK kvs)from I.hok a _ ea)
  obtain⟨o,es,ep,h1,h2,_⟩:=p;exact Wl PySem.W.kitx_dict I.kIn ⟨o,h1,h2.1⟩ e (fun z=>nomatch z) h
 | @dT a kvs ea=>
  cases (show u=Value.ref a from rx)
  obtain⟨_,_,xs,_,o,es,ep,h1,h2,_⟩:=(show ObjOk X.prog X.w H s.heap a (.dT kvs)from I.hok a _ ea)
  exact Wl PySem.W.kitx_dict I.kIn ⟨o,h1,h2.1⟩ e (fun z=>nomatch z) h
 | @ins a C dx fs ea cl ha hn htk hm=>
  cases (show u=Value.ref a from rx)
  obtain⟨mA,O,_⟩:=PD I.hok ea;obtain⟨od,J,_⟩:=O.look;exact Wl (PySem.W.kitx_own (cl.get _) cl.hd ha hn htk hm) I.kIn J e (fun z=>nomatch z) h
end
structure Room (k:Nat) (A:Around):Prop where
 hd:A.handled=none
 dp:A.depth+3*k+5<recursionLimit
 un:A.units+16*k+200<cLine
def Room.mono {j k:Nat}{A:Around} (r:Room k A) (h:j<=k):Room j A:=⟨r.hd,by have:=r.dp;omega,by have:=r.un;omega⟩
def Room.deeper {k:Nat}{A:Around} (r:Room (k+1) A) (env:Env):Room k (A.deeper env):=
 ⟨r.hd,by have:=r.dp;show A.depth+1+3*k+5<_;omega,by have:=r.un;show A.units+3+16*k+200<_;omega⟩
def R0{A:Around}{C:Addr}{us:List Value}{kw:List (Str×Value)}:(A.under (.builtin "type.__call__" ⟨.ref C::us,kw⟩)).depth=A.depth+1:=by
 first|rfl|simp[Around.under,Code.weight,Code.isCreation,Code.isGuard,Code.isCaller,Code.frames,Code.isFrame,guardIds]
def Ln{A:Around}{C:Addr}{us:List Value}{kw:List (Str×Value)}:(A.under (.builtin "type.__call__" ⟨.ref C::us,kw⟩)).units=A.units+1:=by
 first|rfl|simp[Around.under,Code.cUnits,Code.frames,Code.isFrame]
def Room.make {k:Nat}{A:Around} (r:Room (k+1) A) (C:Addr) (us:List Value) (kw:List (Str×Value)):Room k (A.under (.builtin "type.__call__" ⟨.ref C::us,kw⟩)):=
 ⟨r.hd,by have:=r.dp;rw[R0];omega,by have:=r.un;rw[Ln];omega⟩
def Room.depth {k:Nat}{A:Around} (r:Room k A):A.depth<recursionLimit:=by have:=r.dp;omega
def Room.units {k:Nat}{A:Around} (r:Room k A):A.units+64<cLine:=by have:=r.un;omega
def Room.units0 {k:Nat}{A:Around} (r:Room k A):A.units<cLine:=by have:=r.un;omega
def tNil:TA:=fun _ H Q=>Q [] H
def JR(ta:TE)(tr:TA):TA:=fun σ H Q=>ta σ H fun x H1=>tr σ H1 fun xs H2=>Q (x::xs) H2
section
variable {X:Cx}{e:Expr}{es:List Expr}{te:TE}{t:TA}{pos:Pos}
def J4:PA X [] tNil:=fun _ _ _ _ H Q I h=>Calls.spliced_nil ⟨[],H,I,.nil,h⟩
def J1(ha:PE X e te)(hr:PA X es t)(hs:starEach (e::es) X.env=(false,eval e X.env)::starEach es X.env:=by rfl):PA X (e::es) (JR te t):=by
 intro pos pins s σ H Q I h;rw[hs];show wpAny _ _ (spliced ((false,eval e X.env)::backTo pos (starEach es X.env))) _ _ s;refine Calls.spliced_cons (thn (ha pins s σ H _ I h) fun u s1 ⟨x,H1,I1,r1,q1⟩=>?_);exact thn (hr pos pins s1 σ H1 _ I1 q1) fun us s2 ⟨xs,H2,I2,r2,q2⟩=>⟨x::xs,H2,I2,.cons r1 r2,q2⟩
def tTup(t:TA):TE:=fun σ H Q=>t σ H fun xs H1=>xs.length<=sizeLine/\∀p,H1 p=none->Q (.ref p) (upd H1 p (.tup xs))
def tLst(t:TA):TE:=fun σ H Q=>t σ H fun xs H1=>xs.length<=sizeLine/\∀p,H1 p=none->Q (.ref p) (upd H1 p (.lst xs))
def Ui{x1}(h:PA X es t):PE X (.Tuple es x1 pos) (tTup t):=by
 intro pins s σ H Q I hq;refine wpAny_Tuple_spliced (thn (h pos pins s σ H _ I hq) fun us s1 ⟨xs,H1,I1,r,z,q⟩=>⟨by rw[←r.length];exact z,?_⟩);have hf:H1 s1.heap.objs.size=none:=I1.hok.fresh (Yi _);refine⟨.ref s1.heap.objs.size,upd H1 s1.heap.objs.size (.tup xs),I1.laid (t':=s1.toks) (fun b u e=>Yc _ e) (Yi _) ?_,rfl,q _ hf⟩;exact⟨z,us,r,⟨_,Ym _ rfl,rfl,_,rfl⟩⟩
def JF(h:PA X es t):PE X (.List es pos) (tLst t):=by
 intro pins s σ H Q I hq;refine wpAny_List_spliced (thn (h pos pins s σ H _ I hq) fun us s1 ⟨xs,H1,I1,r,z,q⟩=>⟨by rw[←r.length];exact z,?_⟩);have hf:H1 s1.heap.objs.size=none:=I1.hok.fresh (Yi _);refine⟨.ref s1.heap.objs.size,upd H1 s1.heap.objs.size (.lst xs),I1.laid (t':=s1.toks) (fun b u e=>Yc _ e) (Yi _) ?_,rfl,q _ hf⟩;exact⟨z,us,0,r,Ym _ rfl⟩
end
abbrev Sp:=List V->Hp->VK->XK->Prop
abbrev CXT:=List Env->Hp->Shared->XK->Value->Shared->Prop
structure Env0 (P:Program) (w:World) (K:Za) (mg:Str->Option Value) (base:Heap) (A:Around) (outer:List Env) (s:Shared) (H:Hp):Prop where
 frames:A.frames=some outer
 mod:Mod K mg base
 bs:∀b o,base.get? b=some o->s.heap.get? b=some o/\H b=none
 bsz:base.objs.size<=s.heap.objs.size
 funs:s.heap.FunFrames base outer
 frf:∀b∈frs outer,H b=none
 hok:HOk P w H s.heap
 bare:AllBare s.gens
def CE(outer:List Env)(P:Program)(w:World)(H:Hp)(s:Shared)(Q:VK)(u:Value)(s':Shared):Prop:=
 ∃v H',s'.os=s.os/\AllBare s'.gens/\Un (frs outer) [] H H' s.heap s'.heap/\HOk P w H' s'.heap/\RelV v u/\Q v H'
def CR(CX:CXT)(outer:List Env)(P:Program)(w:World)(H:Hp)(s:Shared)(Q:VK)(E:XK)(r:Result)(s':Shared):Prop:=
 match r with
 | .ok (.ret u)=>CE outer P w H s Q u s'
 | .ok _=>False
 | .error e=>CX outer H s E e s'
structure FnOk (P:Program) (w:World) (K:Za) (mg:Str->Option Value) (base:Heap) (CX:CXT) (k:Nat) (f:Addr) (fd:FuncData) (ps:List Str) (sp:Sp):Prop where
 len:∀vs H Q E,sp vs H Q E->vs.length=ps.length
 run:∀(A:Around) (outer:List Env) (s:Shared) (H:Hp) (args:Args) (us:List Value) (vs:List V) (Q:VK) (E:XK),Room k A->Env0 P w K mg base A outer s H->BindsTo s fd args (ps.zip us)->Vals vs us->sp vs H Q E->
  codeAny (model P w) A (.call (.ref f) args) (CR CX outer P w H s Q E) s
def FnOk.imp {P:Program}{w:World}{K:Za}{mg:Str->Option Value}{base:Heap}{CX:CXT}{k:Nat}{f:Addr}{fd:FuncData}{ps:List Str}{sp sp':Sp} (F:FnOk P w K mg base CX k f fd ps sp)
  (h:∀vs H Q E,sp' vs H Q E->sp vs H Q E):FnOk P w K mg base CX k f fd ps sp':=
 ⟨fun vs H Q E q=>F.len vs H Q E (h _ _ _ _ q),fun A outer s H args us vs Q E hr he hb hv hs=>F.run A outer s H args us vs Q E hr he hb hv (h _ _ _ _ hs)⟩
def Env0.make {P:Program}{w:World}{K:Za}{mg:Str->Option Value}{base:Heap}{A:Around}{outer:List Env}{s:Shared}{H:Hp} (e:Env0 P w K mg base A outer s H) (C:Addr) (us:List Value) (kw:List (Str×Value)) :
  Env0 P w K mg base (A.under (.builtin "type.__call__" ⟨.ref C::us,kw⟩)) outer s H:=⟨by first|exact e.frames|(simpa [Around.under,Code.envs,Code.isFrame,pushEnvs]using e.frames),e.mod,e.bs,e.bsz,e.funs,e.frf,e.hok,e.bare⟩
section
variable {X:Cx}{pins:List (Addr×Obj)}{σ:St}{H:Hp}{s s':Shared}
def Inv.env0 (I:Inv X pins σ H s):Env0 X.prog X.w X.K X.mg X.base X.A X.stack s H:=
 ⟨I.ok.frames,I.ok.mod,I.bs,Yx I.ok.bsz I.sz,I.stack,I.stkFree,I.hok,I.bare⟩
def Inv.after {Q:VK}{u:Value} (I:Inv X pins σ H s) (h:CE X.stack X.prog X.w H s Q u s'):EP X pins σ Q u s':=by
 obtain⟨v,H',os,bare,un,hok,r,q⟩:=h;obtain⟨hh,g,d,t,os'⟩:=s';obtain rfl:os'=s.os:=os;exact⟨v,H',I.call (h':=hh) (g':=g) (d':=d) (t':=t) (ch:=[]) un hok bare (fun b z=>absurd z (by simp)),r,q⟩
end
def Pn(sp:Sp)(dvs:List V)(E:XK)(t:TA):TE:=fun σ H Q=>t σ H fun vs H1=>sp (vs++dvs) H1 Q E
def XI(C:Addr)(m:Str)(sp:Sp)(dvs:List V)(E:XK)(ta:TE)(t:TA):TE:=fun σ H Q=>ta σ H fun x H1=>∃a dx fs,x=.ref a/\H1 a=some (.ins C dx fs)/\fs.lookup m=none/\
 t σ H1 fun vs H2=>sp (x::(vs++dvs)) H2 Q E
def Be(C:Addr)(sp:Sp)(dvs:List V)(E:XK)(t:TA):TE:=fun σ H Q=>t σ H fun vs H1=>∀x dx,H1 x=none->H1 dx=none->dx≠x->
 sp (.ref x::(vs++dvs)) (upd (upd H1 dx (.own x)) x (.ins C dx [])) (fun v H2=>v=.non/\Q (.ref x) H2) E
def Binds(K:Za)(fd:FuncData)(ps:List Str)(ds:List Value):Prop:=
 ∀(s:Shared) (us:List Value),K.In s.heap->(us++ds).length=ps.length->BindsTo s fd ⟨us,[]⟩ (ps.zip (us++ds))
def Binds.all {K:Za}{fd:FuncData}{ps:List Str} (h:∀us:List Value,us.length=ps.length->bindArgs fd ⟨us,[]⟩=pure (ps.zip us)):Binds K fd ps []:=fun s us _ hl=>by
 rw[Wd]at hl ⊢;exact .of_eq (h us hl)
def UB(CX:CXT)(X:Cx)(E:XK):Prop:=∀(pins:List (Addr×Obj)) (σ:St) (H:Hp) (s:Shared) (e:Value) (s':Shared),Inv X pins σ H s->CX X.stack H s E e s'->X.xe e s'
section
variable {X:Cx}{CX:CXT}{k:Nat}{f C:Addr}{fd:FuncData}{ps:List Str}{sp:Sp}{dvs:List V}{ds:List Value}{E:XK}{x m:Str}{p pos apos:Pos}{e o:Expr}{es:List Expr}{ta:TE}{t:TA}
def ND{pins:List (Addr×Obj)}{σ:St}{H:Hp}{s:Shared}{Q:VK}{us:List Value}{vs:List V}(F:FnOk X.prog X.w X.K X.mg X.base CX k f fd ps sp)(hr:Room k X.A)(hb:Binds X.K fd ps ds)(hd:Vals dvs ds)(hx:UB CX X E)(I:Inv X pins σ H s)(r:Vals vs us)(h:sp (vs++dvs) H Q E):wpAny (model X.prog X.w) X.A (call (.ref f) us) (EP X pins σ Q) X.xe s:=by
 have r2:Vals (vs++dvs) (us++ds):=r.append hd;have hl:(us++ds).length=ps.length:=by rw[←r2.length];exact F.len _ _ _ _ h
 refine wpAny_call (Ql (F.run X.A X.stack s H ⟨us,[]⟩ (us++ds) (vs++dvs) Q E hr I.env0 (hb s us I.kIn hl) r2 h) fun r s' hq=>?_);cases r with
 |error e=>exact hx pins σ H s e s' I hq
 |ok fl=>
  cases fl with
  |ret u=>exact I.after hq
  |next=>exact False.elim hq
  |brk=>exact False.elim hq
  |cont=>exact False.elim hq
def Ly(F:FnOk X.prog X.w X.K X.mg X.base CX k f fd ps sp)(hr:Room k X.A)(hg:Gl X x)(hm:X.mg x=some (.ref f))(hk:PySem.W.keepIn X.K (.ref f)=true)(hb:Binds X.K fd ps ds)(hd:Vals dvs ds)(hx:UB CX X E)(ha:PA X (e::es) t)(hdb:(x==("__debug__" : Str))=false:=by decide)(he:starEach (e::es) X.env=(false,eval e X.env)::starEach es X.env:=by rfl)(hpl:(backTo pos (starEach es X.env)).any (·.1)=false:=by rfl) :
  PE X (.Call (.Name x p) (e::es) [] pos) (Pn sp dvs E t):=by
 intro pins s σ H Q I h;refine Qa (Th I hg hm ?_ hdb);refine Vf (h₀:=X.base) I.ok.mod.kin hk (thn (ha pos pins s σ H _ I h) fun us s1 ⟨vs,H1,I1,r,q⟩=>⟨I1.kIn,?_⟩) he hpl;exact ND F hr hb hd hx I1 r q
def LP{pl:Sem Bool}(he:PE X o ta)(c:Cls X.K C)(hm:Meth X.K C m f)(F:FnOk X.prog X.w X.K X.mg X.base CX k f fd ps sp)(hr:Room k X.A)(hb:Binds X.K fd ps ds)(hd:Vals dvs ds)(hx:UB CX X E)(ha:PA X (e::es) t)(hst:starEach (e::es) X.env=(false,eval e X.env)::starEach es X.env:=by rfl)(hpl:(backTo pos (starEach es X.env)).any (·.1)=false:=by rfl)
  (ht:eval (.Call (.Attribute o m apos) (e::es) [] pos) X.env=(do
   let ov ←eval o X.env
   standAt apos.atName
   let (f,first) ←holding [ov] (getMethod ov m pl)
   callWith pos f first (backTo pos (starEach (e::es) X.env)) (backToKw pos (keywordEach [] X.env))):=by rfl) :
  PE X (.Call (.Attribute o m apos) (e::es) [] pos) (XI C m sp dvs E ta t):=by
 intro pins s σ H Q I h;refine QK (pl:=pl) (thn (he pins s σ H _ I h) fun u s1 ⟨x,H1,I1,rx,a,dx,fs,ex,ea,l,q⟩=>?_) ht;subst ex;obtain rfl:u=Value.ref a:=rx;refine Sf I1 ea c hm l ?_;refine Vf (first:=[.ref a]) (h₀:=X.base) I.ok.mod.kin hm.kp (thn (ha pos pins s1 σ H1 _ I1 q) fun us s2 ⟨vs,H2,I2,r,q2⟩=>⟨I2.kIn,?_⟩) hst hpl
 exact ND (us:=.ref a::us) (vs:=.ref a::vs) F hr hb hd hx I2 (.cons rfl r) q2
def Zac{pl:Sem Bool}(he:PE X o ta)(c:Cls X.K C)(hm:Meth X.K C m f)(F:FnOk X.prog X.w X.K X.mg X.base CX k f fd ps sp)(hr:Room k X.A)(hb:Binds X.K fd ps ds)(hd:Vals dvs ds)(hx:UB CX X E)
  (ht:eval (.Call (.Attribute o m apos) [] [] pos) X.env=(do
   let ov ←eval o X.env
   standAt apos.atName
   let (f,first) ←holding [ov] (getMethod ov m pl)
   callWith pos f first (backTo pos (starEach [] X.env)) (backToKw pos (keywordEach [] X.env))):=by rfl) :
  PE X (.Call (.Attribute o m apos) [] [] pos) (XI C m sp dvs E ta tNil):=by
 intro pins s σ H Q I h;refine QK (pl:=pl) (thn (he pins s σ H _ I h) fun u s1 ⟨x,H1,I1,rx,a,dx,fs,ex,ea,l,q⟩=>?_) ht;subst ex;obtain rfl:u=Value.ref a:=rx;refine Sf I1 ea c hm l ?_;exact PySem.W.callWith_K0 (first:=[.ref a]) I1.kIn hm.kp (ND (us:=[.ref a]) (vs:=[.ref a]) F hr hb hd hx I1 (.cons rfl .nil) q)
structure Mk (K:Za) (C f:Addr):Prop where
 makes:PySem.W.makesIn K C=true
 init:PySem.W.findIn K (.ref C) "__init__"=some (some (.ref f))
 fn:PySem.W.isFn K (.ref f)=true
 kp:PySem.W.keepIn K (.ref C)=true
def Rv{pins:List (Addr×Obj)}{σ:St}{H:Hp}{s:Shared}{Q:VK}{us:List Value}{vs:List V}(M:Mk X.K C f)(F:FnOk X.prog X.w X.K X.mg X.base CX k f fd ps sp)(hr:Room (k+1) X.A)(hb:Binds X.K fd ps ds)(hd:Vals dvs ds)(hx:UB CX X E)(I:Inv X pins σ H s)(r:Vals vs us)(h:∀x dx,H x=none->H dx=none->dx≠x->sp (.ref x::(vs++dvs)) (upd (upd H dx (.own x)) x (.ins C dx [])) (fun v H2=>v=.non/\Q (.ref x) H2) E) :
  wpAny (model X.prog X.w) X.A (call (.ref C) us) (EP X pins σ Q) X.xe s:=by
 have hq:=h (s.heap.objs.size+1) s.heap.objs.size (I.hok.fresh (QA _)) (I.hok.fresh (Yi _)) (Y6 (Qr _));have I2:=Inv.made (C:=C) I;have r2:Vals (V.ref (s.heap.objs.size+1)::(vs++dvs)) (Value.ref (s.heap.objs.size+1)::(us++ds)):=.cons rfl (r.append hd)
 have hl:(Value.ref (s.heap.objs.size+1)::us++ds).length=ps.length:=by
  have e:=r2.length;rw[F.len _ _ _ _ hq]at e;exact e.symm
 refine wpAny_call (Gs (f:=f) I.kIn M.makes M.init (beq_iff_eq.mp M.fn) (Ql (F.run _ X.stack _ _ ⟨Value.ref (s.heap.objs.size+1)::us,[]⟩ (Value.ref (s.heap.objs.size+1)::(us++ds)) _ _ E (hr.make C us [])
  (I2.env0.make C us []) (hb _ (Value.ref (s.heap.objs.size+1)::us) I2.kIn hl) r2 hq) fun r s' hq'=>?_))
 cases r with
 |error e=>exact hx pins σ _ _ e s' I2 hq'
 |ok fl=>
  cases fl with
  |ret u=>
   obtain⟨v,H',I3,rv,ev,q3⟩:=I2.after hq';subst ev;exact⟨rv,⟨V.ref (s.heap.objs.size+1),H',I3,rfl,q3⟩⟩
  |next=>exact False.elim hq'
  |brk=>exact False.elim hq'
  |cont=>exact False.elim hq'
def Zaj(M:Mk X.K C f)(F:FnOk X.prog X.w X.K X.mg X.base CX k f fd ps sp)(hr:Room (k+1) X.A)(hg:Gl X x)(hm:X.mg x=some (.ref C))(hb:Binds X.K fd ps ds)(hd:Vals dvs ds)(hx:UB CX X E)(ha:PA X (e::es) t)(hdb:(x==("__debug__" : Str))=false:=by decide)(he:starEach (e::es) X.env=(false,eval e X.env)::starEach es X.env:=by rfl)(hpl:(backTo pos (starEach es X.env)).any (·.1)=false:=by rfl) :
  PE X (.Call (.Name x p) (e::es) [] pos) (Be C sp dvs E t):=by
 intro pins s σ H Q I h;refine Qa (Th I hg hm ?_ hdb);refine Vf (h₀:=X.base) I.ok.mod.kin M.kp (thn (ha pos pins s σ H _ I h) fun us s1 ⟨vs,H1,I1,r,q⟩=>⟨I1.kIn,?_⟩) he hpl;exact Rv M F hr hb hd hx I1 r q
end
structure FnScope (N P:List Str) (sc:Scope):Prop where
 kind:sc.kind=.function
 co:sc.isCoroutine=false
 gen:sc.isGenerator=false
 nd:N.Nodup
 pre:N.take P.length=P
 par:∀x∈P,sc.names.lookup x=some .local\/sc.names.lookup x=some .cell
 nofree:∀y∈sc.names,y.2≠.free
def FG{kindOf:Str->Option NameKind}{x:Str}:∀{binds:List (Str×Value)}{m:Str->Option Value},(∀v,(x,v)∉binds)->bindL kindOf binds m x=m x
 |[],_,_=>rfl
 |(n,v)::r,m,h=>by
  unfold bindL;rw[FG fun w hw=>h w (Yu _ hw)];split
  ·have:x≠n:=by rintro rfl;exact h v Yy
   simp[this]
  ·rfl
def Cn{kindOf:Str->Option NameKind}{x:Str}:∀{binds:List (Str×Value)}{m:Str->Option Value},(∀v,(x,v)∉binds)->bindC kindOf binds m x=m x
 |[],_,_=>rfl
 |(n,v)::r,m,h=>by
  unfold bindC;rw[Cn fun w hw=>h w (Yu _ hw)];split
  ·rfl
  ·have:x≠n:=by rintro rfl;exact h v Yy
   simp[this]
def Fy{kindOf:Str->Option NameKind}{x:Str}{v:Value}:∀{P:List Str}{vs:List Value}{i:Nat}{m:Str->Option Value},P.Nodup->P[i]?=some x->vs[i]?=some v->kindOf x=some .local->
  bindL kindOf (P.zip vs) m x=some v
 |[],_,_,_,_,h,_,_=>by simp at h
 |_::_,[],_,_,_,_,h,_=>by simp at h
 |p::P,w::vs,0,m,nd,h1,h2,hk=>by
  simp at h1 h2;subst h1;subst h2;show bindL kindOf ((p,w)::P.zip vs) m p=_;unfold bindL;rw[FG fun v hv=>(YG.mp nd).1 (List.of_mem_zip hv).1,Yg hk];simp
 |p::P,w::vs,i+1,m,nd,h1,h2,hk=>by
  show bindL kindOf ((p,w)::P.zip vs) m x=_;unfold bindL;exact Fy (i:=i) (YG.mp nd).2 (by simpa using h1) (by simpa using h2) hk
def Eu{kindOf:Str->Option NameKind}{x:Str}{v:Value}:∀{P:List Str}{vs:List Value}{i:Nat}{m:Str->Option Value},P.Nodup->P[i]?=some x->vs[i]?=some v->kindOf x≠some .local->
  bindC kindOf (P.zip vs) m x=some v
 |[],_,_,_,_,h,_,_=>by simp at h
 |_::_,[],_,_,_,_,h,_=>by simp at h
 |p::P,w::vs,0,m,nd,h1,h2,hk=>by
  simp at h1 h2;subst h1;subst h2;show bindC kindOf ((p,w)::P.zip vs) m p=_;unfold bindC;rw[Cn fun v hv=>(YG.mp nd).1 (List.of_mem_zip hv).1,Ye hk];simp
 |p::P,w::vs,i+1,m,nd,h1,h2,hk=>by
  show bindC kindOf ((p,w)::P.zip vs) m x=_;unfold bindC;exact Eu (i:=i) (YG.mp nd).2 (by simpa using h1) (by simpa using h2) hk
def start(N:List Str)(vs:List V):St:=vs.map some++List.replicate (N.length-vs.length) none
def cxOf(CX:CXT)(P:Program)(w:World)(K:Za)(mg:Str->Option Value)(base:Heap)(N:List Str)(qual:Str)(scope:Scope)(f:Addr)(cd:Value)(A:Around)(outer:List Env)(s:Shared)(H:Hp)(E:XK):Cx where
 prog:=P
 w:=w
 K:=K
 mg:=mg
 base:=base
 A:=A.deeper (envOfC qual scope s.heap.objs.size f cd)
 N:=N
 s₀:=s
 H₀:=H
 env:=envOfC qual scope s.heap.objs.size f cd
 outer:=outer
 stack:=envOfC qual scope s.heap.objs.size f cd::outer
 ex:=[]
 calm:=true
 fn:=fun _=>true
 pn:=[]
 xe:=fun e s'=>wpAny (model P w) (A.deeper (envOfC qual scope s.heap.objs.size f cd)) (leaving (envOfC qual scope s.heap.objs.size f cd) e) (fun _ s''=>CX outer H s E e s'') (fun e' s''=>CX outer H s E e' s'') s'
def BX{sc:Scope}{n:Nat}{x:Str}(h:sc.names.lookup x=some .cell):∃c,(cellsFrom n sc.names []).lookup x=some c:=by
 have q:=QB sc.names n [] (.inl h);exact Option.isSome_iff_exists.mp q
def DS{CX:CXT}{P:Program}{w:World}{K:Za}{mg:Str->Option Value}{base:Heap}{N ps:List Str}{qual:Str}{scope:Scope}{f:Addr}{cd:Value}{A:Around}{outer:List Env}{s s1:Shared}{H:Hp}{E:XK}{us:List Value}{vs:List V}(S:FnScope N ps scope)(hd:A.handled=none)(e0:Env0 P w K mg base A outer s H)(hl:vs.length=ps.length)(r:Vals vs us)(x:InCallC s s.heap.objs.size (bindL (envOfC qual scope s.heap.objs.size f cd).kindOf (ps.zip us) fun _=>none) (cellsFrom (s.heap.objs.size+1) scope.names []) (bindC (envOfC qual scope s.heap.objs.size f cd).kindOf (ps.zip us) fun _=>none) s1) :
  Inv (cxOf CX P w K mg base N qual scope f cd A outer s H E) [] (start N vs) H s1:=by
 have hpl:ps.length<=N.length:=by have:=YS List.length S.pre;rw[YD]at this;omega
 obtain⟨h1,tk,rfl,hk⟩:=x.done;have noA:∀b:Addr,b∉(cxOf CX P w K mg base N qual scope f cd A outer s H E).ex:=fun b z=>absurd (show b∈([]:List Addr)from z) (by simp)
 refine⟨⟨e0.mod,S.kind,rfl,rfl,Yi _,fun y z c h1 h2=>?_,fun y hy=>?_,fun y c _ h=>?_,fun _=>hd,Around.frames_deeper e0.frames,.inr ⟨rfl,rfl⟩,fun b z=>absurd z (noA b),e0.bs,e0.bsz,fun b _ _=>noA b,fun b z=>absurd z (noA b),e0.funs,e0.frf⟩,
  rfl,e0.bare,Un.kept hk,⟨_,x.toInCall.ns,fun i y v h1 h2 h3=>?_⟩,fun y c h=>⟨_,x.cell y c h⟩,e0.hok.fresh (Yi _),fun y c h=>?_,fun p hp=>absurd (show p∈([]:List (Addr×Obj))from hp) (by simp),e0.hok.kept hk,?_⟩
 ·exact name_of_addr x.apart (YY h1) (YY h2)
 ·have hy:scope.names.lookup y=some .cell\/scope.names.lookup y=some .free:=hy;rcases hy with hy|hy
  ·exact BX hy
  ·exact absurd rfl (S.nofree _ (YY hy))
 ·exact Qk (x.above y c (YY h))
 ·have hi:i<vs.length:=by
   unfold start at h2;by_cases hi:i<vs.length
   ·exact hi
   ·rw[Wn (by simpa using hi)]at h2;rw[Q1]at h2;split at h2<;>cases h2
  have ha:vs[i]?=some v:=by
   unfold start at h2;rw[YR (by simpa using hi),Yj]at h2;cases e:vs[i]? with
   |none=>rw[e]at h2;cases h2
   |some a=>rw[e]at h2;cases h2;rfl
  obtain⟨u,hu,rv⟩:=r.get ha
  have hp:ps[i]?=some y:=by
   rw[←S.pre,Wq (by omega)];exact h1
  have ndP:ps.Nodup:=by rw[←S.pre];exact S.nd.sublist (Q4 _ _)
  refine⟨u,rv,?_⟩;rcases S.par y (Y4 hp)with k|k
  ·exact .inl ⟨k,Fy ndP hp hu k⟩
  ·obtain⟨c,e⟩:=BX (n:=s.heap.objs.size+1) k;refine .inr ⟨.inl k,c,e,?_⟩;have q:=x.cell y c e;rw[Eu ndP hp hu (by show scope.names.lookup y≠_;rw[k];decide)]at q;exact q
 ·exact e0.hok.fresh (Qk (x.above y c (YY h)))
 ·unfold start;show _=N.length;rw[Yn,Ya,List.length_replicate];omega
def Ni{CX:CXT}{P:Program}{w:World}{K:Za}{mg:Str->Option Value}{base:Heap}{k:Nat}{f:Addr}{name qual:Str}{params:Arguments}{body:List Stmt}{scope:Scope}{dV kV doc pm cdv ct oc:Value}{an od:Option Addr}{osl:Array (Option Value)}{N ps:List Str}{sp:Sp}(lk:K.lookup f=some ⟨oc,od,.func (PySem.W.fnOf name qual params body scope dV kV doc pm an cdv ct),osl⟩)(hcd:PySem.W.codeIn K cdv qual=true)(S:FnScope N ps scope)(len:∀vs H Q E,sp vs H Q E->vs.length=ps.length)
  (hbody:∀(A:Around) (outer:List Env) (s:Shared) (H:Hp) (vs:List V) (Q:VK) (E:XK),Room k (A.deeper (envOfC qual scope s.heap.objs.size f cdv))->sp vs H Q E->
   ∃t,PSs (cxOf CX P w K mg base N qual scope f cdv A outer s H E) body t/\t {nx:=fun _ H'=>Q .non H',rt:=Q} (start N vs) H) :
  FnOk P w K mg base CX (k+1) f (PySem.W.fnOf name qual params body scope dV kV doc pm an cdv ct) ps sp:=by
 refine⟨len,fun A outer s H args us vs Q E hr e0 hb r hsp=>?_⟩;have hl:=len _ _ _ _ hsp;have KX:K.In s.heap:=e0.mod.kin.keeps fun b o e=>(e0.bs b o e).1;have lim:s.heap.NoLimit:=e0.mod.nolimit.keeps fun b o e=>(e0.bs b o e).1
 have hkind:∀y∈ps.zip us,scope.names.lookup y.1=some .local\/(scope.names.lookup y.1=some .cell/\((cellsFrom (s.heap.objs.size+1) scope.names []).lookup y.1).isSome=true):=fun⟨n,v⟩ hy=>by
  rcases S.par n (List.of_mem_zip hy).1 with q|q
  ·exact .inl q
  ·exact .inr ⟨q,QB _ _ _ (.inl q)⟩
 refine codeAny_call_function hr.depth (KX _ _ lk) rfl S.co S.gen rfl (PySem.W.codeRec_of KX hcd) (hb _ _ _ _ ?_);refine wpAny_newFunctionEnv_cells S.kind hkind fun env he s1 x=>?_;subst he;refine⟨lim.keeps x.toInCall.keep,codeAny_func ?_⟩;obtain⟨t,ht,hq⟩:=hbody A outer s H vs Q E (hr.deeper _) hsp;have I:Inv (cxOf CX P w K mg base N qual scope f cdv A outer s H E) [] (start N vs) H s1:=DS S hr.hd e0 hl r x;refine YU (ht [] s1 (start N vs) H _ I hq) (fun fl s' hs=>?_) fun e s' hs=>hs
 have fin:∀{σ':St} {H':Hp} {v:V} {u:Value},Inv (cxOf CX P w K mg base N qual scope f cdv A outer s H E) [] σ' H' s'->RelV v u->Q v H'->CE outer P w H s Q u s':=
  fun {σ' H' v u} J rv q=>⟨v,H',J.os,J.bare,J.base,J.hok,rv,q⟩
 cases fl with
 |ret u=>
  obtain⟨v,σ',H',J,rv,q⟩:=hs;exact fin J rv q
 |next=>
  obtain⟨σ',H',J,q⟩:=hs;exact fin (v:=V.non) (u:=Value.none) J rfl q
 |brk=>
  obtain⟨_,_,_,q⟩:=hs;exact False.elim q
 |cont=>
  obtain⟨_,_,_,q⟩:=hs;exact False.elim q
section
variable {X:Cx}{x:Str}{p pos:Pos}{e:Expr}{es:List Expr}{t:TA}{id T:String}{r:List V->Hp->VK->Prop}
def tCB(r:List V->Hp->VK->Prop)(t:TA):TE:=fun σ H Q=>t σ H fun vs H1=>r vs H1 Q
def JY(hc:Ug X (.builtin id) r)(hg:Gl X x)(hm:X.mg x=none)(hv:bootBuiltins x=some (.builtin id))(ha:PA X (e::es) t)(hn:x≠"__name__":=by decide)(hdb:(x==("__debug__" : Str))=false:=by decide)(he:starEach (e::es) X.env=(false,eval e X.env)::starEach es X.env:=by rfl)(hpl:(backTo pos (starEach es X.env)).any (·.1)=false:=by rfl):PE X (.Call (.Name x p) (e::es) [] pos) (tCB r t):=by
 intro pins s σ H Q I h;refine Qa (Kl I hg hm hv ?_ hn hdb);exact PyProof.Rows.callWith_builtin1 (thn (ha pos pins s σ H _ I h) fun us s1 ⟨vs,H1,I1,r1,q1⟩=>hc pins s1 σ H1 vs us Q I1 r1 q1) he hpl
def Xb(hc:Ug X (.type T) r)(hg:Gl X x)(hm:X.mg x=none)(hv:bootBuiltins x=some (.type T))(ha:PA X (e::es) t)(hn:x≠"__name__":=by decide)(hdb:(x==("__debug__" : Str))=false:=by decide)(he:starEach (e::es) X.env=(false,eval e X.env)::starEach es X.env:=by rfl)(hpl:(backTo pos (starEach es X.env)).any (·.1)=false:=by rfl):PE X (.Call (.Name x p) (e::es) [] pos) (tCB r t):=by
 intro pins s σ H Q I h;refine Qa (Kl I hg hm hv ?_ hn hdb);exact Qo (thn (ha pos pins s σ H _ I h) fun us s1 ⟨vs,H1,I1,r1,q1⟩=>hc pins s1 σ H1 vs us Q I1 r1 q1) he hpl
end
end L2
namespace HT
open PySem PyProof.Rows
section
variable {prog:Program}{w:World}{A:Around}{E:Value->Shared->Prop}{s:Shared}
def EM{t b:Addr}{vs ws:List Value}{Q:Value->Shared->Prop}(ht:IsTup s.heap t vs.toArray)(hb:IsTup s.heap b ws.toArray)(hv:vs≠[])(h1:ws=[]->Q (.ref t) s)(h2:ws≠[]->Q (.ref s.heap.objs.size) {s with heap:=s.heap.push {cls:=.type "tuple",data:=.seq (vs++ws).toArray}})(hsz:vs.length+ws.length<=sizeLine):wpAny (model prog w) A (binaryOp .Add (.ref t) (.ref b)) Q E s:=by
 obtain⟨⟨cls,dd,data,sl⟩,ho,hc,n,hd⟩:=id ht;obtain⟨⟨cls2,dd2,data2,sl2⟩,ho2,hc2,n2,hd2⟩:=id hb;simp only at hc hd hc2 hd2;subst hc hd hc2 hd2;have e:vs.toArray++ws.toArray=(vs++ws).toArray:=by simp
 by_cases hw:ws=[]
 ·exact concat_meets ⟨_,ho,rfl⟩ ⟨_,ho2,rfl⟩ noFill_tuple_add seq_tuple_add QC Q2 (Qw _ _)
   (tuple_addW1 t b vs.toArray ws.toArray n n2 dd dd2 sl sl2 (by simpa using hv) (by simp[hw])) ⟨ho,ho2,h1 hw⟩
 ·refine concat_meets ⟨_,ho,rfl⟩ ⟨_,ho2,rfl⟩ noFill_tuple_add seq_tuple_add QC Q2 (Qw _ _)
   (tuple_addW2 t b vs.toArray ws.toArray n n2 dd dd2 sl sl2 (by simpa using hv) (by simpa using hw) (by rw[Yp,Yp];exact hsz)) ⟨ho,ho2,?_⟩
  rw[e];exact h2 hw
def sIx(n d:Nat):Option Int->Nat
 |none=>d
 |some v=>if v<0 then(v+(n:Int)).toNat else min v.toNat n
def Er(n d:Nat):sIx n d none=d:=rfl
def BV(n d k:Nat):sIx n d (some (k:Int))=min k n:=by
 show(if (k:Int)<0 then((k:Int)+(n:Int)).toNat else min (k:Int).toNat n)=min k n;rw[Ye (by omega),YF]
end
end HT
namespace L2
open PySem PySem.Spec PyProof.Rows
abbrev TO:=St->Hp->(Option Int->Hp->Prop)->Prop
def PO(X:Cx)(e:Option Expr)(t:TO):Prop:=
 ∀(pins:List (Addr×Obj)) (s:Shared) (σ:St) (H:Hp) (Q:Option Int->Hp->Prop),Inv X pins σ H s->t σ H Q->
  wpAny (model X.prog X.w) X.A (evalPart e X.env) (fun u s'=>∃o H',Inv X pins σ H' s'/\IsPart u o/\Q o H') X.xe s
def Ee:TO:=fun _ H Q=>Q none H
def AR(t:TE):TO:=fun σ H Q=>t σ H fun x H1=>∃i,x=.int i/\Q (some i) H1
def P8{ns:List Int}:∀{us:List Value},Vals (ns.map V.int) us->IntsAre us ns:=by
 induction ns with
 |nil=>intro us r;rw[QT]at r;cases r;exact .nil
 |cons n ns ih=>
  intro us r;rw[Yq]at r;cases r with
  |cons r1 r2=>
   obtain⟨t,e⟩:=r1;subst e;exact .cons n t (ih r2)
section
variable {X:Cx}{e:Expr}{te:TE}{lo hi:Option Expr}{tl th:TO}{pos p2:Pos}
def KW:PO X none Ee:=by
 intro pins s σ H Q I h;rw[evalPart_none];exact Yb ⟨none,H,I,.none,h⟩
def Pt(h:PE X e te):PO X (some e) (AR te):=by
 intro pins s σ H Q I hw;rw[evalPart_some];refine thn (h pins s σ H _ I hw) fun u s1 ⟨x,H1,I1,r1,q1⟩=>?_;obtain⟨i,rfl,q⟩:=q1;obtain⟨t,rfl⟩:=r1;exact⟨some i,H1,I1,.int i t,q⟩
def SlR(X:Cx)(r:V->Option Int->Option Int->Hp->VK->Prop):Prop:=
 ∀(pins:List (Addr×Obj)) (s:Shared) (σ:St) (H:Hp) (x:V) (v vl vu:Value) (lo hi:Option Int) (sl:Addr) (Q:VK),Inv X pins σ H s->RelV x v->s.heap.IsSliceOf sl vl vu .none->IsPart vl lo->IsPart vu hi->r x lo hi H Q->
  ∃T id,typeLookup (.type T) "__getitem__"=pure (some (.builtin id))/\s.TypeIs v T/\wpAny (model X.prog X.w) X.A (getItem v (.ref sl)) (EP X pins σ Q) X.xe s
def tSl(r:V->Option Int->Option Int->Hp->VK->Prop)(te:TE)(tl th:TO):TE:=fun σ H Q=>te σ H fun x H1=>tl σ H1 fun l H2=>th σ H2 fun u H3=>r x l u H3 Q
def Pr{r:V->Option Int->Option Int->Hp->VK->Prop}(hr:SlR X r)(he:PE X e te)(hl:PO X lo tl)(hu:PO X hi th):PE X (.Subscript e (.Slice lo hi none p2) pos) (tSl r te tl th):=by
 intro pins s σ H Q I h;refine Subscript_ (thn (he pins s σ H _ I h) fun v s1 ⟨x,H1,I1,r1,q1⟩=>?_);refine wpAny_Slice (thn (hl pins s1 σ H1 _ I1 q1) fun vl s2 ⟨l,H2,I2,pl,q2⟩=>thn (hu pins s2 σ H2 _ I2 q2) fun vu s3 ⟨u,H3,I3,pu,q3⟩=>?_);rw[evalPart_none];refine Yb ?_;have I4:Inv X pins σ H3 {s3 with heap:=s3.heap.push {cls:=.type "slice",data:=.fields #[vl,vu,.none]}}:=I3.kept (t':=s3.toks) fun b ob q=>Yc _ q
 obtain⟨T,id,hT,ht,hg⟩:=hr pins {s3 with heap:=s3.heap.push {cls:=.type "slice",data:=.fields #[vl,vu,.none]}} σ H3 x v vl vu l u s3.heap.objs.size Q I4 r1 (Heap.IsSliceOf.new ..) pl pu q3
 show wpAny (model X.prog X.w) X.A (subscriptTail e (.Slice lo hi none p2) v (.ref s3.heap.objs.size)) (EP X pins σ Q) X.xe {s3 with heap:=s3.heap.push {cls:=.type "slice",data:=.fields #[vl,vu,.none]}}
 exact tail_any (ops:=[.ref s3.heap.objs.size,v]) ht hT hg (by with_unfolding_all rfl)
def cutV(xs:List V)(lo hi:Option Int):List V:=(xs.drop (HT.sIx xs.length 0 lo)).take (HT.sIx xs.length xs.length hi-HT.sIx xs.length 0 lo)
def Gu(xs:List V)(lo hi:Option Int):(cutV xs lo hi).length<=xs.length:=by
 unfold cutV;rw[YD,List.length_drop];omega
def HX(K:Za):R2:=fun x y H Q=>∃a b xs ys,x=.ref a/\y=.ref b/\SqT K H a xs/\SqT K H b ys/\xs≠[]/\xs.length+ys.length<=sizeLine/\
 (ys=[]->Q (.ref a) H)/\(ys≠[]->∀p,H p=none->Q (.ref p) (upd H p (.tup (xs++ys))))
def Vals.nil_iff {xs:List V}{us:List Value} (r:Vals xs us):us=[]↔xs=[]:=by
 cases r with
 |nil=>simp
 |cons _ _=>simp
def L7:OpR X (binaryOp .Add) (HX X.K):=by
 intro pins s σ H x y v u Q I rx ry h;obtain⟨a,b,xs,ys,rfl,rfl,ha,hb,hx,hz,q1,q2⟩:=h;cases rx
 cases ry
 obtain⟨its,r1,p1,_⟩:=I.tuple ha;obtain⟨its2,r2,p2,_⟩:=I.tuple hb;refine HT.EM p1 p2 (fun z=>hx (r1.nil_iff.mp z)) (fun z=>⟨.ref a,H,I,rfl,q1 (r2.nil_iff.mp z)⟩) (fun z=>?_) (by rw[←r1.length,←r2.length];exact hz);refine⟨.ref s.heap.objs.size,_,I.laid (t':=s.toks) (o:=.tup (xs++ys)) (fun b ob q=>Yc _ q) (Yi _) ?_,rfl,q2 (fun w=>z (r2.nil_iff.mpr w)) _ (I.hok.fresh (Yi _))⟩;exact⟨by rw[Yn];exact hz,_,r1.append r2,IsTup.new _ _⟩
end
def ixN(n:Nat)(i:Int):Option Nat:=if 0<=i then(if i<n then some i.toNat else none)else if -(n:Int)<=i then some (i+n).toNat else none
def atI{α:Type}(xs:List α)(i:Int):Option α:=(ixN xs.length i).bind fun j=>xs[j]?
def Iy{n:Nat}{i:Int}{j:Nat}(h:ixN n i=some j):seqIndex? i n=some j/\j<n/\-(n:Int)<=i/\i<n:=by
 unfold ixN at h;by_cases h0:0<=i
 ·rw[Yg h0]at h;by_cases h1:i<n
  ·rw[Yg h1]at h;have e:i.toNat=j:=Yl h;exact⟨by rw[seqIndex_of h0 h1,e],by omega,by omega,h1⟩
  ·rw[Ye h1]at h;cases h
 ·rw[Ye h0]at h;by_cases h1:-(n:Int)<=i
  ·rw[Yg h1]at h;have e:(i+n).toNat=j:=Yl h;exact⟨by rw[seqIndex_neg (by omega) h1,e],by omega,h1,by omega⟩
  ·rw[Ye h1]at h;cases h
def D3{α:Type}{xs:List α}{i:Int}{v:α}(h:atI xs i=some v):∃j,seqIndex? i xs.length=some j/\xs[j]?=some v/\j<xs.length/\-(xs.length:Int)<=i/\i<xs.length:=by
 unfold atI at h;cases e:ixN xs.length i with
 |none=>rw[e]at h;cases h
 |some j=>
  rw[e]at h;obtain⟨h1,h2,h3,h4⟩:=Iy e;exact⟨j,h1,h,h2,h3,h4⟩
def Td{α:Type}{xs:List α}{j:Nat}{v:α}(h:xs[j]?=some v):atI xs (j:Int)=some v:=by
 have hj:j<xs.length:=(Y2.mp h).1
 have e:ixN xs.length (j:Int)=some j:=by
  unfold ixN;rw[Yg (by omega),Yg (by omega)];simp
 unfold atI;rw[e];exact h
def Gh{α:Type}(xs:List α)(v:α):atI (xs++[v]) (-1)=some v:=by
 have hl:(xs++[v]).length=xs.length+1:=by simp
 have e:ixN (xs++[v]).length (-1)=some xs.length:=by
  unfold ixN;rw[hl,Ye (by decide),Yg (by omega)];congr 1;omega
 unfold atI;rw[e];show(xs++[v])[xs.length]?=some v;simp
def Da(b:Expr):Prop:=∀o i,subscripted b false o i=operate [o,i] (getItem o i)
def IxR(X:Cx)(r:R2):Prop:=
 ∀(value slice:Expr) (pins:List (Addr×Obj)) (s:Shared) (σ:St) (H:Hp) (x y:V) (v u:Value) (Q:VK),Inv X pins σ H s->RelV x v->RelV y u->r x y H Q->
  subscripted slice false v u=operate [v,u] (getItem v u)->wpAny (model X.prog X.w) X.A (subscriptTail value slice v u) (EP X pins σ Q) X.xe s
def MtR(X:Cx)(id:String)(r:V->List V->Hp->VK->Prop):Prop:=
 ∀(pins:List (Addr×Obj)) (s:Shared) (σ:St) (H:Hp) (x:V) (xs:List V) (v:Value) (us:List Value) (Q:VK),Inv X pins σ H s->RelV x v->Vals xs us->r x xs H Q->
  wpAny (model X.prog X.w) X.A (call (.builtin id) (v::us)) (EP X pins σ Q) X.xe s
section
variable {X:Cx}{a b:Expr}{ta tb:TE}{pos:Pos}
def IxR.or {r r':R2} (h:IxR X r) (h':IxR X r'):IxR X (fun x y H Q=>r x y H Q\/r' x y H Q):=by
 intro value slice pins s σ H x y v u Q I rx ry q hs;rcases q with q|q
 ·exact h value slice pins s σ H x y v u Q I rx ry q hs
 ·exact h' value slice pins s σ H x y v u Q I rx ry q hs
def Bl{r:R2}(hr:IxR X r)(ha:PE X a ta)(hb:PE X b tb)(hs:Da b):PE X (.Subscript a b pos) (tOp r ta tb):=by
 intro pins s σ H Q I h;exact Subscript_ (binT ha hb I h fun v u s2 x y H2 I2 rx ry q=>hr a b pins s2 σ H2 x y v u Q I2 rx ry q (hs _ _))
def rIxL(K:Za):R2:=fun x y H Q=>∃p xs i v,x=.ref p/\y=.int i/\SqL K H p xs/\atI xs i=some v/\Q v H
def rIxT(K:Za):R2:=fun x y H Q=>∃p xs i v,x=.ref p/\y=.int i/\SqT K H p xs/\atI xs i=some v/\Q v H
def ix_list:IxR X (rIxL X.K):=by
 intro value slice pins s σ H x y v u Q I rx ry h hs;obtain⟨p,xs,i,z,rfl,rfl,hq,he,q⟩:=h;cases rx
 obtain⟨t,rfl⟩:=ry;obtain⟨its,r,pl,hz⟩:=I.list hq;obtain⟨j,h1,h2,h3,h4,h5⟩:=D3 he;obtain⟨w,ew,rw'⟩:=r.get h2;have hl:=r.length;have hn:=Te;have fin:EP X pins σ Q w s:=⟨z,H,I,rw',q⟩;by_cases h0:0<=i
 ·have hj:i.toNat=j:=by
   rw[seqIndex_of h0 h5]at h1;exact Yl h1
  exact item_listR pl.isList h0 (by omega) (by rw[hj];simpa using ew) fin hs
 ·have hj:(i+(its.toArray.size:Int)).toNat=j:=by
   rw[seqIndex_neg (by omega) h4]at h1;rw[Yp,←hl];exact Yl h1
  exact subscriptTail_builtinR (x:=w) pl.isList.typeIs slot_list_getitem.lookup
   (wpAny_getItem_list_neg (Q:=fun r s'=>r=w/\EP X pins σ Q r s') pl.isList (by omega) (by rw[Yp]<;>omega) (by omega) (by rw[hj];simpa using ew) ⟨rfl,fin⟩) hs
def GW:IxR X (rIxT X.K):=by
 intro value slice pins s σ H x y v u Q I rx ry h hs;obtain⟨p,xs,i,z,rfl,rfl,hq,he,q⟩:=h;cases rx
 obtain⟨t,rfl⟩:=ry;obtain⟨its,r,pl,hz⟩:=I.tuple hq;obtain⟨j,h1,h2,h3,h4,h5⟩:=D3 he;obtain⟨w,ew,rw'⟩:=r.get h2;have hl:=r.length;have hn:=Te;have fin:EP X pins σ Q w s:=⟨z,H,I,rw',q⟩
 exact subscriptTail_builtinR (x:=w) pl.typeIs slot_tuple_getitem.lookup
  (getItem_tuple (j:=j) (Q:=fun r s'=>r=w/\EP X pins σ Q r s') pl (by omega) (by omega) (by rw[Yp,←hl];exact h1) (by simpa using ew) ⟨rfl,fin⟩) hs
def GB(lo hi:Option Int)(n:Nat):(sliceBounds lo hi none n).1=((HT.sIx n 0 lo:Nat):Int)/\(sliceBounds lo hi none n).2.1=((HT.sIx n n hi:Nat):Int)/\(sliceBounds lo hi none n).2.2=1:=by
 refine⟨?_,?_,rfl⟩
 ·cases lo with
  |none=>simp[sliceBounds,HT.sIx]
  |some i=>
   simp only[sliceBounds,HT.sIx,Option.getD_none,show(1:Int)>0 by decide,if_true];by_cases h:i<0
   ·simp only[h,if_true]<;>omega
   ·simp only[h,Qf]<;>omega
 ·cases hi with
  |none=>simp[sliceBounds,HT.sIx]
  |some i=>
   simp only[sliceBounds,HT.sIx,Option.getD_none,show(1:Int)>0 by decide,if_true];by_cases h:i<0
   ·simp only[h,if_true]<;>omega
   ·simp only[h,Qf]<;>omega
def Zax(its:List Value)(lo hi:Option Int):slicePick its.toArray lo hi none=((its.drop (HT.sIx its.length 0 lo)).take (HT.sIx its.length its.length hi-HT.sIx its.length 0 lo)).toArray:=by
 obtain⟨h1,h2,h3⟩:=GB lo hi its.toArray.size;unfold slicePick;rw[h1,h2,h3];simp only[sliceRange_one,pick_run,Yp]<;>rfl
def rSlL(K:Za):V->Option Int->Option Int->Hp->VK->Prop:=fun x lo hi H Q=>∃a xs,x=.ref a/\SqL K H a xs/\∀p,H p=none->Q (.ref p) (upd H p (.lst (cutV xs lo hi)))
def Oh:SlR X (rSlL X.K):=by
 intro pins s σ H x v vl vu lo hi sl Q I rx hs pl pu h;obtain⟨a,xs,rfl,hx,q⟩:=h;cases rx
 obtain⟨its,r,ht,hz⟩:=I.list hx;have hlen:=r.length;refine⟨"list",_,slot_list_getitem.lookup,ht.isList.typeIs,?_⟩;refine wpAny_getItem_list_slice ht.isList hs pl pu .none (by simp) ?_ (by rw[Yp]<;>omega);rw[Zax,←hlen];refine⟨.ref s.heap.objs.size,_,I.laid (t':=s.toks) (o:=.lst (cutV xs lo hi)) (fun b ob q=>Yc _ q) (Yi _) ?_,rfl,q _ (I.hok.fresh (Yi _))⟩;exact⟨Yx (Gu xs lo hi) hz,_,0,(r.drop (HT.sIx xs.length 0 lo)).take (HT.sIx xs.length xs.length hi-HT.sIx xs.length 0 lo),Ym _ rfl⟩
def U2:V->Bool
 | .non=>true
 | .bl _=>true
 | .int _=>true
 | .str _=>true
 |_=>false
def eqV:V->V->Bool
 | .non,.non=>true
 | .bl a,.bl b=>a==b
 | .bl a,.int b=>(if a then 1 else 0)==b
 | .int a,.bl b=>a==(if b then 1 else 0)
 | .int a,.int b=>a==b
 | .str a,.str b=>a==b
 |_,_=>false
def Eh{A:Around}{s:Shared}{y x:V}{u v:Value}(ry:RelV y u)(rx:RelV x v)(fy:U2 y=true)(fx:U2 x=true):SeqAt.EqAt A s u v (eqV y x):=by
 cases y with
 |non=>
  cases ry
  cases x with
  |non=>cases rx;exact SeqAt.EqAt.same _
  |bl b=>cases rx;exact SeqAt.EqAt.none_bool b
  |int b=>obtain⟨t,rfl⟩:=rx;exact SeqAt.EqAt.none_int b t
  |str b=>obtain⟨t,rfl⟩:=rx;exact SeqAt.EqAt.none_str b t
  |_=>exact absurd (show false=true from fx) Yw
 |bl a=>
  cases ry
  cases x with
  |non=>cases rx;exact SeqAt.EqAt.bool_none a
  |bl b=>cases rx;exact SeqAt.EqAt.bool_bool a b
  |int b=>obtain⟨t,rfl⟩:=rx;exact SeqAt.EqAt.bool_int a b t
  |str b=>obtain⟨t,rfl⟩:=rx;exact SeqAt.EqAt.bool_str a b t
  |_=>exact absurd (show false=true from fx) Yw
 |int a=>
  obtain⟨t',rfl⟩:=ry;cases x with
  |non=>cases rx;exact SeqAt.EqAt.int_none a t'
  |bl b=>cases rx;exact SeqAt.EqAt.int_bool a t' b
  |int b=>obtain⟨t,rfl⟩:=rx;exact SeqAt.EqAt.int_int a t' b t
  |str b=>obtain⟨t,rfl⟩:=rx;exact SeqAt.EqAt.int_str a t' b t
  |_=>exact absurd (show false=true from fx) Yw
 |str a=>
  obtain⟨t',rfl⟩:=ry;cases x with
  |non=>cases rx;exact SeqAt.EqAt.str_none a t'
  |bl b=>cases rx;exact SeqAt.EqAt.str_bool a t' b
  |int b=>obtain⟨t,rfl⟩:=rx;exact SeqAt.EqAt.str_int a t' b t
  |str b=>obtain⟨t,rfl⟩:=rx;exact SeqAt.EqAt.str_str a t' b t
  |_=>exact absurd (show false=true from fx) Yw
 |_=>exact absurd (show false=true from fy) Yw
def eqU(x:V)(u:Value):Bool:=match u with
 | .none=>eqV .non x
 | .bool b=>eqV (.bl b) x
 | .int i _=>eqV (.int i) x
 | .str z _=>eqV (.str z) x
 |_=>false
def BN{x y:V}{u:Value}(r:RelV y u)(f:U2 y=true):eqU x u=eqV y x:=by
 cases y with
 |non=>cases r;rfl
 |bl b=>cases r;rfl
 |int i=>obtain⟨t,rfl⟩:=r;rfl
 |str z=>obtain⟨t,rfl⟩:=r;rfl
 |_=>exact absurd (show false=true from f) Yw
def K9{x:V}:∀{xs:List V}{us:List Value},Vals xs us->xs.all U2=true->us.any (eqU x)=xs.any fun y=>eqV y x
 |_,_,.nil,_=>rfl
 |y::xs,u::us,.cons r t,f=>by
  rw[QF,YA]at f;rw[WZ,WZ,BN r f.1,K9 t f.2]
def Pp{A:Around}{s:Shared}{x:V}{v:Value}(rx:RelV x v)(fx:U2 x=true):∀{xs:List V}{us:List Value},Vals xs us->xs.all U2=true->∀u∈us,SeqAt.EqAt A s u v (eqU x u)
 |_,_,.nil,_=>fun u hu=>by cases hu
 |y::xs,u::us,.cons r t,f=>fun u' hu=>by
  rw[QF,YA]at f;rcases Yo.mp hu with rfl|hu
  ·rw[BN r f.1];exact Eh r rx f.1 fx
  ·exact Pp rx fx t f.2 u' hu
def inV(x:V)(xs:List V):Bool:=xs.any fun y=>eqV y x
def rIn(K:Za)(neg:Bool):R2:=fun x y H Q=>∃p xs,y=.ref p/\(SqL K H p xs\/SqT K H p xs)/\U2 x=true/\xs.all U2=true/\Q (.bl (if neg then !inV x xs else inV x xs)) H
def RP:OpR X (compareOp .In) (rIn X.K false):=by
 intro pins s σ H x y v u Q I rx ry h;obtain⟨p,xs,rfl,hq,fx,fs,q⟩:=h;cases ry
 rcases hq with hq|hq
 ·obtain⟨its,r,pl,hz⟩:=I.list hq;refine SeqAt.in_listAt (eqU x) pl.isList (fun w hw=>Pp rx fx r fs w (by simpa using hw)) ⟨.bl _,H,I,rfl,?_⟩;rw[show its.toArray.any (eqU x)=its.any (eqU x) by simp,K9 r fs];exact q
 ·obtain⟨its,r,pl,hz⟩:=I.tuple hq;refine SeqAt.in_tupleAt (eqU x) pl (fun w hw=>Pp rx fx r fs w (by simpa using hw)) ⟨.bl _,H,I,rfl,?_⟩;rw[show its.toArray.any (eqU x)=its.any (eqU x) by simp,K9 r fs];exact q
def RV:OpR X (compareOp .NotIn) (rIn X.K true):=by
 intro pins s σ H x y v u Q I rx ry h;obtain⟨p,xs,rfl,hq,fx,fs,q⟩:=h;cases ry
 rcases hq with hq|hq
 ·obtain⟨its,r,pl,hz⟩:=I.list hq;refine SeqAt.notIn_listAt (eqU x) pl.isList (fun w hw=>Pp rx fx r fs w (by simpa using hw)) ⟨.bl _,H,I,rfl,?_⟩;rw[show its.toArray.any (eqU x)=its.any (eqU x) by simp,K9 r fs];exact q
 ·obtain⟨its,r,pl,hz⟩:=I.tuple hq;refine SeqAt.notIn_tupleAt (eqU x) pl (fun w hw=>Pp rx fx r fs w (by simpa using hw)) ⟨.bl _,H,I,rfl,?_⟩;rw[show its.toArray.any (eqU x)=its.any (eqU x) by simp,K9 r fs];exact q
def A7:Ug X (.type "list") (fun xs H Q=>∃p ys,xs=[.ref p]/\(SqL X.K H p ys\/SqT X.K H p ys)/\∀l,H l=none->Q (.ref l) (upd H l (.lst ys))):=by
 intro pins s σ H xs us Q I r h;obtain⟨p,ys,rfl,hq,q⟩:=h;obtain⟨u,rfl,rx⟩:=vals1 r;cases rx
 have fin:∀(its:List Value),Vals ys its->ys.length<=sizeLine->∀(h':Heap) (c':Nat),(∀b o',s.heap.get? b=some o'->h'.get? b=some o')->
   h'.get? s.heap.objs.size=some {cls:=.type "list",dict:=none,data:=.seq its.toArray c',slots:=#[]}->EP X pins σ Q (.ref s.heap.objs.size) {s with heap:=h'}:=fun its r' hz h' c' kp e=>
  ⟨.ref s.heap.objs.size,_,I.laid (t':=s.toks) kp (Yi _) (show ObjOk X.prog X.w _ h' _ (.lst ys)from⟨hz,its,c',r',e⟩),rfl,q _ (I.hok.fresh (Yi _))⟩
 rcases hq with hq|hq
 ·obtain⟨its,r',pl,hz⟩:=I.list hq;have hlen:=r'.length;obtain⟨o,ho,hc,n,hd⟩:=pl.isList;exact call_list_seq p (.inl rfl) ho hc hd (fun h' c' kp e=>fin its r' hz h' c' kp e) (by simp only[Yp]<;>omega)
 ·obtain⟨its,r',pl,hz⟩:=I.tuple hq;have hlen:=r'.length;obtain⟨o,ho,hc,n,hd⟩:=pl;exact call_list_seq p (.inr rfl) ho hc hd (fun h' c' kp e=>fin its r' hz h' c' kp e) (by simp only[Yp]<;>omega)
def LF:Ug X (.type "tuple") (fun xs H Q=>∃p ys,xs=[.ref p]/\((SqL X.K H p ys/\∀l,H l=none->Q (.ref l) (upd H l (.tup ys)))\/(SqT X.K H p ys/\Q (.ref p) H))):=by
 intro pins s σ H xs us Q I r h;obtain⟨p,ys,rfl,h⟩:=h;obtain⟨u,rfl,rx⟩:=vals1 r;cases rx
 rcases h with⟨hq,q⟩|⟨hq,q⟩
 ·obtain⟨its,r',pl,hz⟩:=I.list hq;have hlen:=r'.length;refine call_tuple_list pl.isList (fun h' kp=>?_) (by simp only[Yp]<;>omega);have I1:Inv X pins σ H {s with heap:=h'}:=I.kept (t':=s.toks) kp
  have I2:Inv X pins σ (upd H h'.objs.size (.tup ys)) {s with heap:=h'.push {cls:=.type "tuple",data:=.seq its.toArray}}:=
   I1.laid (t':=s.toks) (fun b o e=>Yc _ e) (Yi _) (show ObjOk X.prog X.w _ _ _ (.tup ys)from⟨hz,its,r',IsTup.new _ _⟩)
  exact⟨.ref h'.objs.size,_,I2,rfl,q _ (I1.hok.fresh (Yi _))⟩
 ·obtain⟨its,r',pl,hz⟩:=I.tuple hq;exact call_tuple_same pl ⟨.ref p,H,I,rfl,q⟩
def tyV(K:Za)(T:String)(x:V)(H:Hp):Prop:=match x with
 | .str _=>T = "str"
 | .int _=>T = "int"
 | .ref p=>(T = "list"/\∃xs,SqL K H p xs)\/(T = "tuple"/\∃o,K.lookup p=some o/\o.cls=.type "tuple"/\o.dict=none)\/
   (T = "dict"/\((∃kvs,H p=some (.dK kvs))\/∃kvs,H p=some (.dT kvs)))\/(T = "set"/\∃S n,H p=some (.set S n))
 |_=>False
def Ea{pins:List (Addr×Obj)}{σ:St}{H:Hp}{s:Shared}{T:String}{x:V}{v:Value}(I:Inv X pins σ H s)(r:RelV x v)(ty:tyV X.K T x H) :
  s.TypeIs v T/\∀a,v=.ref a->∃ob,s.heap.get? a=some ob/\ob.dict=none:=by
 cases x with
 |str z=>
  obtain⟨t,rfl⟩:=r;cases (show T = "str" from ty)
  exact⟨typeIs_str s z t,fun _ e=>nomatch e⟩
 |int i=>
  obtain⟨t,rfl⟩:=r;cases (show T = "int" from ty)
  exact⟨typeIs_int s i t,fun _ e=>nomatch e⟩
 |ref p=>
  cases r
  rcases ty with⟨rfl,xs,hq⟩|⟨rfl,o,hk,hc,hd⟩|⟨rfl,hk⟩|⟨rfl,S,n,hk⟩
  ·obtain⟨its,_,pl,_⟩:=I.list hq;refine⟨pl.isList.typeIs,fun a e=>?_⟩;cases e
   obtain⟨o,n,e,c,hd,_⟩:=pl;exact⟨o,e,hd⟩
  ·refine⟨⟨o,I.kIn p o hk,hc⟩,fun a e=>?_⟩;cases e
   exact⟨o,I.kIn _ o hk,hd⟩
  ·have z:∃o,s.heap.get? p=some o/\o.ExactDict:=by
    rcases hk with⟨kvs,hk⟩|⟨kvs,hk⟩
    ·obtain⟨_,_,_,_,o,_,_,e,ex,_⟩:=I.hok p _ hk;exact⟨o,e,ex⟩
    ·obtain⟨_,_,_,_,o,_,_,e,ex,_⟩:=I.hok p _ hk;exact⟨o,e,ex⟩
   obtain⟨o,e,ex⟩:=z;refine⟨⟨o,e,ex.1⟩,fun a e2=>?_⟩;cases e2
   exact⟨o,e,ex.2.1⟩
  ·obtain⟨o,_,_,_,e,ex,_⟩:=I.hok p _ hk;refine⟨⟨o,e,ex.1⟩,fun a e2=>?_⟩;cases e2
   exact⟨o,e,ex.2.1⟩
 |_=>exact False.elim ty
def tBM0(K:Za)(T:String)(r:V->List V->Hp->VK->Prop)(to:TE):TE:=fun σ H Q=>to σ H fun x H1=>tyV K T x H1/\r x [] H1 Q
def tBM(K:Za)(T:String)(r:V->List V->Hp->VK->Prop)(to:TE)(t:TA):TE:=fun σ H Q=>to σ H fun x H1=>tyV K T x H1/\t σ H1 fun xs H2=>r x xs H2 Q
variable {o e:Expr}{es:List Expr}{to:TE}{t:TA}{name:Str}{apos cpos:Pos}{T id:String}{r:V->List V->Hp->VK->Prop}
def RI(pa:PlainAttrs T)(slot:Slot T name id)(hty:typeOf (.builtin id)=pure (.type "method_descriptor"))(hm:MtR X id r)(ho:PE X o to)(hbase:attributeBase o name X.env (eval o X.env)=eval o X.env:=by rfl)(hline:(apos.endLine==cpos.line)=true:=by rfl):PE X (.Call (.Attribute o name apos) [] [] cpos) (tBM0 X.K T r to):=by
 intro pins s σ H Q I h;refine wpAny_Call_method0_late hbase hline (thn (ho pins s σ H _ I h) fun v s1 ⟨x,H1,I1,r1,ty,q1⟩=>?_);obtain⟨h1,h2⟩:=Ea I1 r1 ty;exact⟨T,id,pa,slot,hty,h1,h2,Calls.callWith_builtin rfl (PySem.evalArgs_none (hm pins s1 σ H1 x [] v [] Q I1 r1 .nil q1))⟩
def Uw(pa:PlainAttrs T)(slot:Slot T name id)(hty:typeOf (.builtin id)=pure (.type "method_descriptor"))(hm:MtR X id r)(ho:PE X o to)(ha:PA X (e::es) t)(hbase:attributeBase o name X.env (eval o X.env)=eval o X.env:=by rfl)
  (hfew:((backTo cpos (starEach (e::es) X.env)).all (fun x=>!x.1)&&(backToKw cpos (keywordEach [] X.env)).all (fun x=>x.1.isSome)
   && decide ((e::es).length+([]:List Keyword).length+(if ([]:List Keyword).isEmpty then 0 else 1)<30))=true:=by rfl)
  (hline:(apos.endLine==cpos.line)=true:=by rfl) (hs:starEach (e::es) X.env=(false,eval e X.env)::starEach es X.env:=by rfl) (hplain:(backTo cpos (starEach es X.env)).any (·.1)=false:=by rfl) :
  PE X (.Call (.Attribute o name apos) (e::es) [] cpos) (tBM X.K T r to t):=by
 intro pins s σ H Q I h;refine wpAny_Call_method_late hbase hfew hline rfl (thn (ho pins s σ H _ I h) fun v s1 ⟨x,H1,I1,r1,ty,q1⟩=>?_);obtain⟨h1,h2⟩:=Ea I1 r1 ty;refine⟨T,id,pa,slot,hty,h1,h2,?_⟩;have hA:=ha cpos pins s1 σ H1 _ I1 q1;rw[hs]at hA ⊢;refine Calls.callWith_builtin (by show(false || (backTo cpos (starEach es X.env)).any (·.1))=false;rw[hplain]<;>rfl) (Calls.evalArgs_plain ?_);exact thn hA fun us s2 ⟨vs,H2,I2,r2,q2⟩=>hm pins s2 σ H2 x vs v us Q I2 r1 r2 q2
end
def MtM(X:Cx)(id:String)(r:V->List V->Hp->VK->Prop):Prop:=
 ∀(pins:List (Addr×Obj)) (s:Shared) (σ:St) (H:Hp) (x:V) (xs:List V) (v:Value) (us:List Value) (Q:VK),Inv X pins σ H s->RelV x v->Vals xs us->r x xs H Q->
  wpAny (model X.prog X.w) X.A (call (.builtin id) (v::us)) (EP X pins σ Q) X.xe s
def Vals.one:∀{x:V}{us:List Value},Vals [x] us->∃u,us=[u]/\RelV x u
 |_,_,.cons r .nil=>⟨_,rfl,r⟩
def Vals.zero:∀{us:List Value},Vals [] us->us=[]
 |_,.nil=>rfl
def Vals.eraseIdx:∀{xs:List V}{us:List Value} (i:Nat),Vals xs us->Vals (xs.eraseIdx i) (us.eraseIdx i)
 |_,_,_,.nil=>.nil
 |_,_,0,.cons _ t=>t
 |_,_,i+1,.cons r t=>.cons r (Vals.eraseIdx i t)
section
variable {X:Cx}{pins:List (Addr×Obj)}{σ:St}{H:Hp}{s:Shared}{l b:Addr}{xs ys zs:List V}
def Inv.lset {its its':List Value}{n:Nat}{f:Array Value->Array Value}{t':Nat} (I:Inv X pins σ H s) (hH:H l=some (.lst xs))
  (e:s.heap.get? l=some {cls:=.type "list",data:=.seq its.toArray n}) (hf:f its.toArray=its'.toArray) (hv:Vals ys its') (hz:ys.length<=sizeLine) :
  Inv X pins σ (upd H l (.lst ys)) {s with heap:=s.heap.update l (Obj.mapSeq f),toks:=t'}:=by
 have q:=PySem.IsL.update e f;rw[hf]at q;refine I.write (x:=l) (e:=l) (by rw[hH];exact trivial) (.inl rfl) (fun b' u hb hu=>(Wf s.heap (Obj.mapSeq f) (Ne.symm hb)).trans hu) ⟨_,q⟩ ?_;exact⟨hz,its',_,hv,q⟩
def Inv.lnew {its:List Value}{t':Nat} (I:Inv X pins σ H s) (hv:Vals ys its) (hz:ys.length<=sizeLine) :
  Inv X pins σ (upd H s.heap.objs.size (.lst ys)) {s with heap:=s.heap.push {cls:=.type "list",data:=.seq its.toArray},toks:=t'}:=
 I.laid (fun _ _ q=>Yc _ q) (Yi _) ⟨hz,its,0,hv,Ym _ rfl⟩
def Inv.fresh (I:Inv X pins σ H s):H s.heap.objs.size=none:=I.hok.fresh (Yi _)
def Inv.lstM (I:Inv X pins σ H s) (hH:H l=some (.lst xs)):xs.length<=sizeLine/\∃(its:List Value) (n:Nat),Vals xs its/\xs.length=its.length/\s.heap.get? l=some {cls:=.type "list",data:=.seq its.toArray n}:=by
 obtain⟨z,its,n,r,e⟩:=I.hok l _ hH;exact⟨z,its,n,r,r.length,e⟩
def LR{n:Nat}(h:n<=sizeLine):Builtin.List.listTooLong n=false:=by
 unfold Builtin.List.listTooLong;exact Yv (by omega)
end
section
variable {X:Cx}
def B5:V->List V->Hp->VK->Prop:=fun x vs H Q=>∃l xs y,x=.ref l/\vs=[y]/\H l=some (.lst xs)/\xs.length<sizeLine/\Q .non (upd H l (.lst (xs++[y])))
def UI:MtM X "list.append" B5:=by
 intro pins s σ H x vs v us Q I rx rv h;obtain⟨l,xs,y,rfl,rfl,hH,hz,q⟩:=h;cases rx
 obtain⟨u,rfl,ru⟩:=rv.one;obtain⟨z,its,n,r,hl,e⟩:=I.lstM hH;refine call_meets F.slot_list_append ⟨_,e,rfl⟩ F.entry_list_append (F.args_list_append_2 _ _) (PySem.list_append l its.toArray n u (by rw[Yp];omega)) ⟨e,?_⟩;refine⟨.non,_,I.lset (its':=its++[u]) hH e (by simp) (r.append (.cons ru .nil)) ?_,rfl,q⟩;rw[Yn,YZ];omega
def Ab:V->List V->Hp->VK->Prop:=fun x vs H Q=>∃l b xs zs,x=.ref l/\vs=[.ref b]/\H l=some (.lst xs)/\H b=some (.lst zs)/\xs.length+zs.length<=sizeLine/\Q .non (upd H l (.lst (xs++zs)))
def Hh:MtM X "list.extend" Ab:=by
 intro pins s σ H x vs v us Q I rx rv h;obtain⟨l,b,xs,zs,rfl,rfl,hH,hB,hz,q⟩:=h;cases rx
 obtain⟨u,rfl,ru⟩:=rv.one;cases ru
 obtain⟨z,its,n,r,hl,e⟩:=I.lstM hH;obtain⟨z2,its2,n2,r2,hl2,e2⟩:=I.lstM hB;have hsz:its.toArray.size+its2.toArray.size<=sizeLine:=by rw[Yp,Yp];omega
 have hlong:¬(!its.toArray.isEmpty&&Builtin.List.listTooLong (its.toArray.size+its2.toArray.size))=true:=by
  rw[LR hsz,Vc];exact Yw
 refine call_meets F.slot_list_extend ⟨_,e,rfl⟩ F.entry_list_extend (F.args_list_extend_2 _ _)
  (AutoSeq1.list_extend_list_list_0 l its.toArray n b its2.toArray n2 hlong (by rw[Yp];omega) (by omega)) ⟨e,e2,?_⟩
 refine⟨.non,_,I.lset (its':=its++its2) hH e (by simp) (r.append r2) ?_,rfl,q⟩;rw[Yn];omega
def rCat:R2:=fun x y H Q=>∃l b xs zs,x=.ref l/\y=.ref b/\H l=some (.lst xs)/\H b=some (.lst zs)/\xs.length+zs.length<=sizeLine/\∀p,H p=none->Q (.ref p) (upd H p (.lst (xs++zs)))
def XO:OpR X (binaryOp .Add) rCat:=by
 intro pins s σ H x y v u Q I rx ry h;obtain⟨l,b,xs,zs,rfl,rfl,hH,hB,hz,q⟩:=h;cases rx
 cases ry
 obtain⟨z,its,n,r,hl,e⟩:=I.lstM hH;obtain⟨z2,its2,n2,r2,hl2,e2⟩:=I.lstM hB;refine PySem.P.add_list e e2 ?_ (by rw[Yp,Yp];omega);have ea:its.toArray++its2.toArray=(its++its2).toArray:=by simp
 rw[ea];exact⟨.ref _,_,I.lnew (t':=s.toks) (r.append r2) (by rw[Yn];omega),rfl,q _ I.fresh⟩
end
end L2
namespace Att
open PySem PySem.W PySem.Calls PyProof.Rows
def Zag{P:Params}{h:Heap}:∀(ns:List Int) (vs:List Value),WellAll P h vs (ns.map WData.int)->IntsAre vs ns:=by
 intro ns
 induction ns with
 |nil=>
  intro vs w;rw[QT]at w;cases w
  exact .nil
 |cons n ns ih=>
  intro vs w;rw[Yq]at w;cases w with
  |cons a b=>
   cases a
   exact .cons _ _ (ih _ b)
def Zao{l:OpenLaw}{n:Nat}(hn:l.most=some n){P:Params}{h:Heap}{args:List WData}{vals:List Value}(hpre:l.row.toRowW.claim.pre args=true)(hwl:WellAll P h vals args) :
  ∃a vs ns,vals=[Value.ref a]/\args=[WData.list (ns.map WData.int)]/\h.get? a=some {cls:=.type "list",data:=.seq vs.toArray}/\IntsAre vs ns/\ns.length<=n:=by
 have hsh:WShape.hasAll [] args [.list .int]=true:=(pre_splitW hpre).1;have hc:l.pre.holds [] {args:=args}=true:=(pre_splitW hpre).2;obtain⟨d,r,rfl,h1,h2⟩:=hasAllW_cons hsh;obtain rfl:=hasAllW_nil h2;obtain⟨xs,rfl,h3⟩:=hasW_list h1;obtain⟨ns,rfl⟩:=items_int h3
 have hlen:ns.length<=n:=by
  unfold OpenLaw.pre at hc
  have h4:(WTm.not (.lt (.lit (.int (n:Int))) (.len (.arg 0)))).holds [] {args:=[.list (ns.map .int)]}=true:=by
   have h4:=(holds_andW hc).1;rw[hn]at h4;exact h4
  have h5:=condW_of h4 (w_not (w_lt w_lit (w_len_list (w_arg rfl))));rw[Ya]at h5;refine Nat.le_of_not_lt fun q=>?_;have q':(n:Int)<((ns.length:Nat):Int):=by omega
  first
   |(rw[Yh q']at h5;exact absurd h5 (by decide))
   |(simp at h5;omega)
 cases hwl with
 |cons w1 w2=>
  cases w2
  cases w1 with
  |list ho hall=>exact⟨_,_,ns,rfl,rfl,ho,Zag ns _ hall,hlen⟩
def Rm(l:OpenLaw)(args:List WData):l.row.toRowW.claim.post args (.bool true) args=true:=
 postW_of (r:=l.row.toRowW) (X:=(true==true))
  (show WShape.has [] (.bool true) .bool=true by first|rfl|decide|simp[WShape.has,WShape.arms,WShape.armsAll])
  (show(WTm.eq .res (.lit (.bool true))).value [] {args:=args,res:=some (.bool true),after:=args}=some (.bool (true==true))from w_eq_bool (w_res rfl) w_lit) rfl
def HS{l:OpenLaw}{n:Nat}{q:Program}{loose:List Str}{XP:(Str->Option Value)->Heap->Prop}{YP:World->Heap->Prop}{d:DefRec}(hn:l.most=some n)(hdf:d.params.defaults=[])
  (call:∀(w:World) (s₀ s₁:Shared) (mg mb:Str->Option Value) (fa:Addr) (o:Obj) (pm cd doc:Value) (a:Addr) (vs:List Value) (ns:List Int),
   Ground q loose [] XP w s₀ mg mb s₁.heap->YP w s₁.heap->
   s₁.heap.get? fa=some o->o.data=.func (docDef d.name d.params d.body d.scope pm cd doc)->s₁.heap.CodeRec cd d.name->mg d.name=some (.ref fa)->
   s₁.heap.get? a=some {cls:=.type "list",data:=.seq vs.toArray}->IntsAre vs ns->ns.length<=n->s₁.gens=#[]->
   codeAny (model l.prog w) callerA (.call (.ref fa) ⟨[.ref a],[]⟩) (fun r s'=>r=.ok (.ret (.bool true))/\OldK s₁.heap s'.heap/\s'.os=s₁.os/\AllBare s'.gens) s₁) :
  WalkO q loose XP YP l.row.toRowW d [] (fun f vs=>PySem.call f vs):=by
 intro w s₀ s₁ mg mb G Y fa o pm cd doc dV kV ho hd hcd hD hmg hg args vals as hpre hlay hrd hwl hlo;obtain rfl:dV=.none:=Dflts.none hD hdf;obtain rfl:kV=.none:=Dflts.noKw hD;obtain⟨a,vs,ns,rfl,rfl,hobj,hints,hlen⟩:=Zao hn hpre hwl;refine enter_call (Ql (call w s₀ s₁ mg mb fa o pm cd doc a vs ns G Y ho (fd_plain hd) hcd hmg hobj hints hlen hg) fun r s' hq=>?_);obtain⟨rfl,h2,h3,h4⟩:=hq;exact⟨.inl ⟨.bool true,.bool true,[],rfl,fun _=>rfl,.bool true,Rm l _,fun _=>⟨List.Pairwise.nil,fun _ hm=>(nomatch hm)⟩⟩,h2,h3,h4⟩
end Att
namespace L2
open PySem PySem.Spec PyProof.Rows
def TH:∀{vs:List Value}{ns:List Int},IntsAre vs ns->Vals (ns.map V.int) vs
 |_,_,.nil=>.nil
 |_,_,.cons n t h=>.cons ⟨t,rfl⟩ (TH h)
def Only(H:Hp):Prop:=∀b,H b=none\/∃o xs,H b=some (.frz o (.lst xs))
def inClass(s:Stmt)(j:Nat):Stmt:=match s with
 | .ClassDef _ _ _ body _ _ _ _ _ _ _=>body.getD j (.Pass ⟨0,0,0,0⟩)
 |_=>.Pass ⟨0,0,0,0⟩
def UH(s:Stmt):Arguments:=match s with
 | .FunctionDef _ a _ _ _ _ _ _ _ _=>a
 |_=>{posonlyargs:=[],args:=[],vararg:=none,kwonlyargs:=[],kw_defaults:=[],kwarg:=none,defaults:=[]}
def JO(s:Stmt):List Stmt:=match s with
 | .FunctionDef _ _ b _ _ _ _ _ _ _=>b
 |_=>[]
def Jn(s:Stmt):Scope:=match s with
 | .FunctionDef _ _ _ _ _ _ sc _ _ _=>sc
 |_=>{kind:=.function,names:=[],isGenerator:=false,isCoroutine:=false}
abbrev CX0:CXT:=fun _ _ _ _ _ _=>False
abbrev E0:XK:=fun _ _ _=>False
def Um{X:Cx}:UB CX0 X E0:=fun _ _ _ _ _ _ _ h=>h.elim
structure Fun (K:Za) (x qual:Str) (st:Stmt) (f:Addr) (fd:FuncData):Prop where
 ex:∃(oc:Value) (od:Option Addr) (kV doc pm:Value) (an:Option Addr) (cdv ct:Value) (osl:Array (Option Value)),
  fd=PySem.W.fnOf x qual (UH st) (JO st) (Jn st) .none kV doc pm an cdv ct/\K.lookup f=some ⟨oc,od,.func fd,osl⟩/\PySem.W.codeIn K cdv qual=true
 kp:PySem.W.keepIn K (.ref f)=true
section
variable {P:Program}{w:World}{K:Za}{mg:Str->Option Value}{base:Heap}
def Fun.ok {x qual:Str}{st:Stmt}{f:Addr}{fd:FuncData}{N ps:List Str}{k:Nat}{sp:Sp} (F:Fun K x qual st f fd) (S:FnScope N ps (Jn st)) (len:∀vs H Q E,sp vs H Q E->vs.length=ps.length)
  (hbody:∀(cdv:Value) (A:Around) (outer:List Env) (s:Shared) (H:Hp) (vs:List V) (Q:VK) (E:XK),Room k (A.deeper (envOfC qual (Jn st) s.heap.objs.size f cdv))->sp vs H Q E->
   ∃t,PSs (cxOf CX0 P w K mg base N qual (Jn st) f cdv A outer s H E).nox (JO st) t/\t {nx:=fun _ H'=>Q .non H',rt:=Q} (start N vs) H):FnOk P w K mg base CX0 (k+1) f fd ps sp:=by
 obtain⟨oc,od,kV,doc,pm,an,cdv,ct,osl,rfl,lk,hcd⟩:=F.ex;refine Ni lk hcd S len fun A outer s H vs Q E hr hsp=>?_;obtain⟨t,h,q⟩:=hbody cdv A outer s H vs Q E hr hsp;exact⟨t,h.nox,q⟩
def Fun.binds {x qual:Str}{st:Stmt}{f:Addr}{fd:FuncData}{ps:List Str} (F:Fun K x qual st f fd)
  (h:∀(kV doc pm:Value) (an:Option Addr) (cdv ct:Value) (us:List Value),us.length=ps.length->bindArgs (PySem.W.fnOf x qual (UH st) (JO st) (Jn st) .none kV doc pm an cdv ct) ⟨us,[]⟩=pure (ps.zip us)):Binds K fd ps []:=by
 obtain⟨oc,od,kV,doc,pm,an,cdv,ct,osl,rfl,lk,hcd⟩:=F.ex;exact .all (h kV doc pm an cdv ct)
def N5{x qual:Str}{st:Stmt}{f:Addr}{oc:Value}{od an:Option Addr}{osl:Array (Option Value)}{kV doc pm cdv ct:Value}(l:K.lookup f=some ⟨oc,od,.func (PySem.W.fnOf x qual (UH st) (JO st) (Jn st) .none kV doc pm an cdv ct),osl⟩)(c:PySem.W.codeIn K cdv qual=true)(k:PySem.W.keepIn K (.ref f)=true):Fun K x qual st f (PySem.W.fnOf x qual (UH st) (JO st) (Jn st) .none kV doc pm an cdv ct):=⟨⟨oc,od,kV,doc,pm,an,cdv,ct,osl,rfl,l,c⟩,k⟩
end
def JP{A:Around}{k:Nat}(hr:Room k A):A.units+1<cLine:=Vg (Nat.add_le_add_left (by decide:1<=64) _) hr.units
def CH{n:Nat}(h:n<=1000):n<sizeLine:=Vg h (by decide)
section
variable {X:Cx}
def pv(i:Nat){x:Str}{pos:Pos}(hN:X.N[i]?=some x:=by rfl)(hv:Vis X.env.scope x:=by first|exact Or.inl rfl|exact Or.inr (Or.inl rfl)|exact Or.inr (Or.inr rfl))(hd:(x==("__debug__" : Str))=false:=by decide)(hcd:(x==("__classdict__" : Str))=false:=by decide):PE X (.Name x pos) (tVar i):=LY hN hv hd hcd
end
def iteF{A B:Prop}(h:B):if false=true then A else B:=by
 rw[Ye Yw];exact h
def iteT{A B:Prop}(h:A):if true=true then A else B:=by
 rw[Yg rfl];exact h
def ite2{c A B:Prop}[Decidable c](h1:c->A)(h2:¬c->B):if c then A else B:=by
 by_cases h:c
 ·rw[Yg h];exact h1 h
 ·rw[Ye h];exact h2 h
def PU{c A B:Prop}[Decidable c](hc:c)(h:B):if (!decide c)=true then A else B:=by
 rw[Yh hc];exact iteF h
def Same(H H':Hp):Prop:=∀b o,H b=some o->H' b=some o
def Same.refl (H:Hp):Same H H:=fun _ _ h=>h
def Same.trans {H H1 H2:Hp} (a:Same H H1) (b:Same H1 H2):Same H H2:=fun c o h=>b c o (a c o h)
def Same.free {H H':Hp} (e:Same H H') {l:Addr} (h:H' l=Option.none):H l=Option.none:=by
 cases q:H l with
 |none=>rfl
 |some o=>
  rw[e l o q]at h;cases h
def Same.seq {K:Za}{H H':Hp}{a:Addr}{xs:List V} (e:Same H H') (h:SqL K H a xs):SqL K H' a xs:=by
 rcases h with(h|⟨o,h⟩)|h
 ·exact .inl (.inl (e _ _ h))
 ·exact .inl (.inr ⟨o,e _ _ h⟩)
 ·exact .inr h
end L2
set_option maxHeartbeats 4000000
namespace L2
open PySem PySem.Spec PyProof.Rows
section
variable {κ:Type} [DecidableEq κ]
def valV(kvs:List (κ×V))(k:κ):Option V:=(kvs.find? fun kv=>decide (kv.1=k)).map (·.2)
def putK(kvs:List (κ×V))(k:κ)(v:V):List (κ×V):=
 if (kvs.any fun kv=>decide (kv.1=k))=true then kvs.map (fun kv=>if kv.1=k then(kv.1,v)else kv)else kvs++[(k,v)]
def UL{p:κ×V}{r:List (κ×V)}{k:κ}(e:p.1=k):valV (p::r) k=some p.2:=by simp[valV,Qb,e]
def UD{p:κ×V}{r:List (κ×V)}{k:κ}(e:¬p.1=k):valV (p::r) k=valV r k:=by simp[valV,Qb,e]
def KD(k:κ):∀kvs:List (κ×V),(kvs.any fun kv=>decide (kv.1=k))=(valV kvs k).isSome
 |[]=>rfl
 |p::r=>by
  rw[WZ];by_cases e:p.1=k
  ·simp only[UL e,Yh e,Bool.true_or,Option.isSome_some]
  ·rw[UD e,Yv e,Bool.false_or];exact KD k r
def DR(k j:κ)(y:V):∀kvs:List (κ×V),valV (kvs.map fun kv=>if kv.1=k then(kv.1,y)else kv) j=(valV kvs j).map fun x=>if j=k then y else x
 |[]=>rfl
 |p::r=>by
  have ih:=DR k j y r;rw[Yq];by_cases h:p.1=k
  ·rw[Yg h];by_cases e:p.1=j
   ·rw[UL (p:=(p.1,y)) e,UL e,QU,Yg (e.symm.trans h)]
   ·rw[UD (p:=(p.1,y)) e,UD e,ih]
  ·rw[Ye h];by_cases e:p.1=j
   ·rw[UL (p:=p) e,UL e,QU,Ye (fun z=>h (e.trans z))]
   ·rw[UD (p:=p) e,UD e,ih]
def De(k j:κ)(y:V):∀kvs:List (κ×V),valV kvs k=none->valV (kvs++[(k,y)]) j=if j=k then some y else valV kvs j
 |[],_=>by
  by_cases e:k=j
  ·rw[Yg e.symm];exact UL (p:=(k,y)) e
  ·rw[Ye (fun z=>e z.symm)];exact UD (p:=(k,y)) e
 |p::r,hn=>by
  rw[Wr];have hk:¬p.1=k:=fun z=>by rw[UL z]at hn;cases hn
  rw[UD hk]at hn;have ih:=De k j y r hn;by_cases e:p.1=j
  ·rw[UL e,UL e,Ye (fun z=>hk (e.trans z))]
  ·rw[UD e,UD e,ih]
def TU(kvs:List (κ×V))(k j:κ)(y:V):valV (putK kvs k y) j=if j=k then some y else valV kvs j:=by
 unfold putK;by_cases a:(kvs.any fun kv=>decide (kv.1=k))=true
 ·rw[Yg a,DR];rw[KD]at a;by_cases e:j=k
  ·obtain⟨x,hx⟩:=Option.isSome_iff_exists.mp a;rw[Yg e,e,hx,QU,Yg rfl]
  ·rw[Ye e];cases valV kvs j with
   |none=>rfl
   |some x=>rw[QU,Ye e]
 ·rw[Ye a];refine De k j y kvs ?_;rw[KD]at a;cases q:valV kvs k with
  |none=>rfl
  |some x=>rw[q]at a;exact(a rfl).elim
def T4(kvs:List (κ×V))(k:κ)(v:V):(putK kvs k v).length<=kvs.length+1:=by
 unfold putK;split
 ·rw[Ya];omega
 ·rw[Yn,Y3,List.length_nil];omega
def RK{kvs:List (κ×V)}{k:κ}(v:V)(h:valV kvs k=none):putK kvs k v=kvs++[(k,v)]:=by
 unfold putK;rw[KD,h];exact Ye (by decide)
def RelO.isSome_eq {o:Option V}{u:Option Value} (r:RelO o u):o.isSome=u.isSome:=by
 cases o with
 |none=>cases u with
  |none=>rfl
  |some _=>exact(show False from r).elim
 |some _=>cases u with
  |none=>exact(show False from r).elim
  |some _=>rfl
def KV.val {kvs:List (κ×V)}{vs:List (κ×Value)} (r:KV kvs vs) (k:κ):RelO (valV kvs k) (valueAt vs k):=by
 unfold KV at r
 induction r with
 |nil=>exact True.intro
 | @cons p q ps qs h t ih=>
  obtain⟨h1,h2⟩:=h;by_cases e:p.1=k
  ·have e':q.1=k:=h1.symm.trans e;have b:valueAt (q::qs) k=some q.2:=by simp[valueAt,Qb,e']
   rw[UL e,b];exact h2
  ·have e':¬q.1=k:=fun z=>e (h1.trans z);have b:valueAt (q::qs) k=valueAt qs k:=by simp[valueAt,Qb,e']
   rw[UD e,b];exact ih
def KV.any {kvs:List (κ×V)}{vs:List (κ×Value)} (r:KV kvs vs) (k:κ):(kvs.any fun kv=>decide (kv.1=k))=vs.any fun kv=>decide (kv.1=k):=by
 unfold KV at r
 induction r with
 |nil=>rfl
 |cons h t ih=>rw[WZ,WZ,ih,h.1]
def KV.repl {kvs:List (κ×V)}{vs:List (κ×Value)} (r:KV kvs vs) (k:κ) {y:V}{u:Value} (ry:RelV y u) :
  KV (kvs.map fun kv=>if kv.1=k then(kv.1,y)else kv) (vs.map fun kv=>if kv.1=k then(kv.1,u)else kv):=by
 unfold KV at r ⊢
 induction r with
 |nil=>exact .nil
 | @cons p q ps qs h t ih=>
  rw[Yq,Yq];refine .cons ?_ ih;obtain⟨h1,h2⟩:=h;by_cases e:p.1=k
  ·rw[Yg e,Yg (h1.symm.trans e)];exact⟨h1,ry⟩
  ·rw[Ye e,Ye (fun z=>e (h1.trans z))];exact⟨h1,h2⟩
def KV.put {kvs:List (κ×V)}{vs:List (κ×Value)} (r:KV kvs vs) (k:κ) {y:V}{u:Value} (ry:RelV y u):KV (putK kvs k y) (stored vs k u):=by
 unfold putK stored;rw[r.any k];by_cases e:(vs.any fun kv=>decide (kv.1=k))=true
 ·rw[Yg e,Yg e];exact r.repl k ry
 ·rw[Ye e,Ye e];exact Paired.snoc r ⟨rfl,ry⟩
def KV.length {kvs:List (κ×V)}{vs:List (κ×Value)} (r:KV kvs vs):kvs.length=vs.length:=Paired.length r
end
def TY{P:Program}{w:World}{k:Key}{u:Value}(r:RelV (kV k) u):(Ut P w).is k u=true:=by
 cases k with
 |inl i=>obtain⟨t,e⟩:=(show ∃t,u=Value.int i t from r);subst e;exact Gq P w i t
 |inr x=>obtain⟨t,e⟩:=(show ∃t,u=Value.str x t from r);subst e;exact ML P w x t
def DL{P:Program}{w:World}:∀{ks:List Key}{us:List Value},Vals (ks.map kV) us->ItemsAre (Ut P w) ks us
 |[],_,r=>by rw[QT]at r;cases r;exact .nil
 |k::ks,_,r=>by
  rw[Yq]at r;cases r with
  |cons h t=>exact .cons (TY h) (DL t)
abbrev KT(H:Hp):List (List Key×V)->List (List Key×Addr×Value)->Prop:=Paired fun p q=>p.1=q.1/\H q.2.1=some (.tup (p.1.map kV))/\RelV p.2 q.2.2
def KT.val {H:Hp}{kvs:List (List Key×V)}{xs:List (List Key×Addr×Value)} (r:KT H kvs xs) (k:List Key):RelO (valV kvs k) ((atKey xs k).map (·.2)):=by
 induction r with
 |nil=>exact True.intro
 | @cons p q ps qs h t ih=>
  obtain⟨h1,_,h2⟩:=h;by_cases e:p.1=k
  ·have e':q.1=k:=h1.symm.trans e;have b:atKey (q::qs) k=some q.2:=by simp[atKey,Qb,e']
   rw[UL e,b];exact h2
  ·have e':¬q.1=k:=fun z=>e (h1.trans z);have b:atKey (q::qs) k=atKey qs k:=by simp[atKey,Qb,e']
   rw[UD e,b];exact ih
def KT.repl {H:Hp}{kvs:List (List Key×V)}{xs:List (List Key×Addr×Value)} (r:KT H kvs xs) (k:List Key) {y:V}{u:Value} (ry:RelV y u) :
  KT H (kvs.map fun kv=>if kv.1=k then(kv.1,y)else kv) (xs.map (putAt k u)):=by
 induction r with
 |nil=>exact .nil
 | @cons p q ps qs h t ih=>
  rw[Yq,Yq];refine .cons ?_ ih;obtain⟨h1,h2,h3⟩:=h;unfold putAt;by_cases e:p.1=k
  ·rw[Yg e,Yg (h1.symm.trans e)];exact⟨h1,h2,ry⟩
  ·rw[Ye e,Ye (fun z=>e (h1.trans z))];exact⟨h1,h2,h3⟩
def KT.put {H:Hp}{kvs:List (List Key×V)}{xs:List (List Key×Addr×Value)} (r:KT H kvs xs) (k:List Key) {b:Addr}{y:V}{u:Value} (hb:H b=some (.tup (k.map kV))) (ry:RelV y u) :
  KT H (putK kvs k y) (storedH xs k b u):=by
 have e:(kvs.any fun kv=>decide (kv.1=k))=(atKey xs k).isSome:=by
  rw[KD,(r.val k).isSome_eq,Option.isSome_map]
 unfold putK storedH;rw[e];by_cases q:(atKey xs k).isSome=true
 ·rw[Yg q,Yg q];exact r.repl k ry
 ·rw[Ye q,Ye q];exact Paired.snoc r ⟨rfl,hb,ry⟩
def KT.keeps {H H':Hp}{kvs:List (List Key×V)}{xs:List (List Key×Addr×Value)} (r:KT H kvs xs) (ht:∀b ys,H b=some (.tup ys)->H' b=some (.tup ys)):KT H' kvs xs:=
 Paired.mapP r fun _ _ z=>⟨z.1,ht _ _ z.2.1,z.2.2⟩
section
variable {P:Program}{w:World}{H:Hp}{h:Heap}{a:Addr}
def DN{u:HO}(ok:HOk P w H h)(e:Rd H a u):ObjOk P w H h a u:=e.ok ok
def TB{kvs:List (Key×V)}(ok:HOk P w H h)(e:Rd H a (.dK kvs)):kvs.length<=sizeLine/\(a==sysModules)=false/\∃vs,KV kvs vs/\h.DictOf (Ut P w) a vs:=
 show ObjOk P w H h a (.dK kvs)from DN ok e
def Ms{kvs:List (Key×V)}(ok:HOk P w H h)(e:H a=some (.dK kvs)):kvs.length<=sizeLine/\(a==sysModules)=false/\∃vs,KV kvs vs/\h.DictOf (Ut P w) a vs:=TB ok (.inl e)
def KH{ks:List Key}(ok:HOk P w H h)(e:H a=some (.tup (ks.map kV))):(tupleKind (Ut P w)).is h ks a:=by
 obtain⟨_,its,r,o,h1,h2,n,h3⟩:=(show ObjOk P w H h a (.tup (ks.map kV))from ok a _ e)
 exact⟨o,its.toArray,n,h1,h2,h3,by simpa using DL r⟩
def PH{kvs:List (List Key×V)}(ok:HOk P w H h)(e:Rd H a (.dT kvs)):kvs.length<=sizeLine/\(a==sysModules)=false/\
  ∃xs,KT H kvs xs/\h.DictOfH (tupleKind (Ut P w)) a xs:=by
 obtain⟨z,y,xs,r,o,es,ep,h1,h2,h3,h4,h5⟩:=(show ObjOk P w H h a (.dT kvs)from DN ok e)
 refine⟨z,y,xs,r,o,es,ep,h1,h2,h3,h4,fun x hx=>?_,h5⟩
 have all:∀{l:List (List Key×V)} {m:List (List Key×Addr×Value)},KT H l m->∀x∈m,(tupleKind (Ut P w)).is h x.1 x.2.1:=by
  intro l m q
  induction q with
  |nil=>intro x hx;exact nomatch hx
  | @cons p q ps qs hq t ih=>
   intro x hx;rcases Yo.mp hx with e|hx
   ·subst e;exact KH ok (by rw[←hq.1];exact hq.2.1)
   ·exact ih x hx
 exact all r x hx
def PV{kvs:List (List Key×V)}(ok:HOk P w H h)(e:H a=some (.dT kvs)):kvs.length<=sizeLine/\(a==sysModules)=false/\
  ∃xs,KT H kvs xs/\h.DictOfH (tupleKind (Ut P w)) a xs:=PH ok (.inl e)
end
def DGet(H:Hp)(a:Addr)(y:V)(r:Option V):Prop:=
 (∃kvs k,Rd H a (.dK kvs)/\y=kV k/\r=valV kvs k)\/∃kvs k b,Rd H a (.dT kvs)/\y=.ref b/\H b=some (.tup (k.map kV))/\r=valV kvs k
def DPut(H:Hp)(a:Addr)(y v:V)(H':Hp):Prop:=
 (∃kvs k,H a=some (.dK kvs)/\y=kV k/\kvs.length<sizeLine/\H'=upd H a (.dK (putK kvs k v)))\/
 ∃kvs k b,H a=some (.dT kvs)/\y=.ref b/\H b=some (.tup (k.map kV))/\kvs.length<sizeLine/\H'=upd H a (.dT (putK kvs k v))
def DGet.k {H:Hp}{a:Addr}{kvs:List (Key×V)}{k:Key} (e:H a=some (.dK kvs)):DGet H a (kV k) (valV kvs k):=.inl ⟨kvs,k,.inl e,rfl,rfl⟩
def DGet.t {H:Hp}{a b:Addr}{kvs:List (List Key×V)}{k:List Key} (e:H a=some (.dT kvs)) (eb:H b=some (.tup (k.map kV))):DGet H a (.ref b) (valV kvs k):=.inr ⟨kvs,k,b,.inl e,rfl,eb,rfl⟩
def DPut.k {H:Hp}{a:Addr}{kvs:List (Key×V)}{k:Key}{v:V} (e:H a=some (.dK kvs)) (hl:kvs.length<sizeLine):DPut H a (kV k) v (upd H a (.dK (putK kvs k v))):=.inl ⟨kvs,k,e,rfl,hl,rfl⟩
def DPut.t {H:Hp}{a b:Addr}{kvs:List (List Key×V)}{k:List Key}{v:V} (e:H a=some (.dT kvs)) (eb:H b=some (.tup (k.map kV))) (hl:kvs.length<sizeLine) :
  DPut H a (.ref b) v (upd H a (.dT (putK kvs k v))):=.inr ⟨kvs,k,b,e,rfl,eb,hl,rfl⟩
section
variable {X:Cx}{pins:List (Addr×Obj)}{σ:St}{H:Hp}{s:Shared}{a:Addr}{y v:V}{u r:Value}{o:Option V}{A:Around}{E:Value->Shared->Prop}
def Inv.big (I:Inv X pins σ H s):sysModules<s.heap.objs.size:=by
 have h:mainGlobals<s.heap.objs.size:=(I.mod.glob.keeps I.bk).lt;exact WU (by decide) h
def Mx{Q:Value->Shared->Prop}(hu:A.units+1<cLine)(I:Inv X pins σ H s)(g:DGet H a y (some v))(ry:RelV y u)(h:∀w' s',Inv X pins σ H s'->RelV v w'->Q w' s') :
  wpAny (model X.prog X.w) A (getItem (.ref a) u) Q E s:=by
 rcases g with⟨kvs,k,e,ey,l⟩|⟨kvs,k,b,e,ey,eb,l⟩
 ·subst ey;obtain⟨z,hd,vs,rel,dd⟩:=TB I.hok e;obtain⟨w',hw,rw'⟩:=RelO.some_of (v:=v) (o:=valueAt vs k) (by rw[l];exact rel.val k);exact wpAny_getItem_of (TY ry) dd.mapOf hw (h w' _ (I.tok _) rw')
 ·subst ey;cases (show u=Value.ref b from ry)
  obtain⟨z,hd,xs,rel,dd⟩:=PH I.hok e;obtain⟨w',hw,rw'⟩:=RelO.some_of (v:=v) (o:=(atKey xs k).map (·.2)) (by rw[l];exact rel.val k);obtain⟨p,hp,hp2⟩:=Option.map_eq_some_iff.mp hw;refine wpAny_getItem_heap (tupleKind_room_in1 hu) (KH I.hok eb) dd hp ?_;rw[hp2];exact h w' _ (I.tok _) rw'
def Zaq{Q:Value->Shared->Prop}(hu:A.units+1<cLine)(I:Inv X pins σ H s)(g:DGet H a y o)(ry:RelV y u)(h:∀s',Inv X pins σ H s'->Q (.bool (!o.isSome)) s') :
  wpAny (model X.prog X.w) A (compareOp .NotIn u (.ref a)) Q E s:=by
 rcases g with⟨kvs,k,e,ey,l⟩|⟨kvs,k,b,e,ey,eb,l⟩
 ·subst ey;obtain⟨z,hd,vs,rel,dd⟩:=TB I.hok e;refine wpAny_notIn_of (TY ry) hd dd.mapOf ?_;rw[←(rel.val k).isSome_eq,←l];exact h _ (I.tok _)
 ·subst ey;cases (show u=Value.ref b from ry)
  obtain⟨z,hd,xs,rel,dd⟩:=PH I.hok e;refine wpAny_notIn_heap (tupleKind_room_in1 hu) (KH I.hok eb) hd dd ?_;have q:=(rel.val k).isSome_eq;rw[Option.isSome_map]at q;rw[←q,←l];exact h _ (I.tok _)
def SH{h':Heap}{t':Nat}{ob:HO}(I:Inv X pins σ H s)(mu:Mut (H a))(hs:Heap.SameBut a s.heap h')(he:∃q,h'.get? a=some q)(new:ObjOk X.prog X.w (upd H a ob) h' a ob) :
  Inv X pins σ (upd H a ob) {s with heap:=h',toks:=t'}:=
 I.write (x:=a) (e:=a) mu (.inl rfl) (fun b q hb z=>(hs.2 b hb).trans z) he new
def M4{P:Program}{w:World}{H':Hp}{h':Heap}{kvs:List (Key×V)}{vs:List (Key×Value)}(z:kvs.length<=sizeLine)(hd:(a==sysModules)=false)(rel:KV kvs vs)(dd:h'.DictOf (Ut P w) a vs) :
  ObjOk P w H' h' a (.dK kvs):=⟨z,hd,vs,rel,dd⟩
def Hx{H':Hp}{Q:Unit->Shared->Prop}(hu:A.units+1<cLine)(I:Inv X pins σ H s)(g:DPut H a y v H')(ry:RelV y u)(rv:RelV v r)(h:∀s',Inv X pins σ H' s'->Q () s') :
  wpAny (model X.prog X.w) A (setItem (.ref a) u r) Q E s:=by
 rcases g with⟨kvs,k,e,ey,l,eH⟩|⟨kvs,k,b,e,ey,eb,l,eH⟩
 ·subst ey eH;obtain⟨z,hd,vs,rel,dd⟩:=Ms I.hok e;have hz:vs.length<=sizeLine:=by rw[←rel.length];exact z
  have hl:(putK kvs k v).length<=sizeLine:=by have:=T4 kvs k v;omega
  refine wpAny_setItem_pairs (hsz:=hz) (TY ry) dd fun h' dd' hs=>h _ ?_;have he:∃q,h'.get? a=some q:=let ⟨q,_,_,hq,_⟩:=dd';⟨q,hq⟩;exact SH I (by rw[e];exact True.intro) hs he (M4 hl hd (rel.put k rv) dd')
 ·subst ey eH;cases (show u=Value.ref b from ry)
  obtain⟨z,hd,xs,rel,dd⟩:=PV I.hok e;have hz:xs.length<=sizeLine:=by rw[←Paired.length rel];exact z
  have hl:(putK kvs k v).length<=sizeLine:=by have:=T4 kvs k v;omega
  refine wpAny_setItem_heap (hsz:=hz) (tupleKind_room_in1 hu) (KH I.hok eb) dd fun h' dd' hs=>h _ ?_;obtain⟨q,es,ep,hq,h2,h3,h4,_,h5⟩:=dd';refine SH I (by rw[e];exact True.intro) hs ⟨q,hq⟩ ⟨hl,hd,_,(rel.put k eb rv).keeps fun c ys ec=>?_,q,es,ep,hq,h2,h3,h4,h5⟩;rw[Jv (Dg ec e (fun z=>nomatch z))];exact ec
end
def NoSl(i:Expr):Prop:=∀ov iv,subscripted i false ov iv=operate [ov,iv] (getItem ov iv)
def Mu{prog:Program}{w:World}{A:Around}{E:Value->Shared->Prop}{s:Shared}{env:Env}{value slice:Expr}{pos:Pos}{T id:String}{Q:Value->Shared->Prop}(hl:typeLookup (.type T) "__getitem__"=pure (some (.builtin id)))(hs:NoSl slice)(h:wpAny (model prog w) A (eval value env) (fun o s₁=>wpAny (model prog w) A (eval slice env) (fun i s₂=>s₂.TypeIs o T/\wpAny (model prog w) A (getItem o i) Q E s₂) E s₁) E s) :
  wpAny (model prog w) A (eval (.Subscript value slice pos) env) Q E s:=by
 refine Subscript_ (YU h (fun o s₁ h₁=>YU h₁ (fun i s₂ h₂=>?_) fun _ _ x=>x) fun _ _ x=>x);obtain⟨hT,h₂⟩:=h₂;unfold subscriptTail;refine ZY ?_;rw[getitemInPython_of_ne hT.not_modules];refine ZY (wpAny_specialOf hT hl ?_)
 have fin:wpAny (model prog w) A (subscripted slice false o i) (fun r s₃=>wpAny (model prog w) A (letTemporaryGo value o r >>= fun _=>pure r) Q E s₃) E s₂:=by
  rw[hs o i];exact wpAny_operating (YU h₂ (fun r s₃ h₃=>ZY (wpAny_letTemporaryGo (Yb h₃))) fun _ _ x=>x)
 first
  |exact Yb (ZY fin)
  |exact ZY (Yb (ZY fin))
  |exact ZY fin
def Zas{X:Cx}{pins:List (Addr×Obj)}{σ:St}{H:Hp}{s:Shared}{a:Addr}{y:V}{o:Option V}(I:Inv X pins σ H s)(g:DGet H a y o):s.TypeIs (.ref a) "dict":=by
 rcases g with⟨kvs,k,e,_,_⟩|⟨kvs,k,b,e,_,_,_⟩
 ·obtain⟨_,_,vs,_,dd⟩:=TB I.hok e;exact dd.typeIs
 ·obtain⟨_,_,xs,_,dd⟩:=PH I.hok e;exact dd.typeIs
def CC(td ty:TE):TE:=fun σ H Q=>td σ H fun x H1=>ty σ H1 fun y H2=>∃a v,x=.ref a/\DGet H2 a y (some v)/\Q v H2
def BJ(ty td:TE):TE:=fun σ H Q=>ty σ H fun y H1=>td σ H1 fun x H2=>∃a o,x=.ref a/\DGet H2 a y o/\Q (.bl (!o.isSome)) H2
def Fp(td ty tv:TE):TS:=fun D σ H=>tv σ H fun v H1=>td σ H1 fun x H2=>ty σ H2 fun y H3=>∃a H4,x=.ref a/\DPut H3 a y v H4/\D.nx σ H4
section
variable {X:Cx}{o i e value:Expr}{pos pos' tpos:Pos}{td ty tv:TE}
def KA(hu:X.A.units+1<cLine)(ho:PE X o td)(hi:PE X i ty)(hs:NoSl i):PE X (.Subscript o i pos) (CC td ty):=by
 intro pins s σ H Q I h;refine Mu PySem.F.slot_dict_getitem.lookup hs (thn (ho pins s σ H _ I h) fun u s1 ⟨x,H1,I1,rx,q1⟩=>thn (hi pins s1 σ H1 _ I1 q1) fun iv s2 ⟨y,H2,I2,ry,a,v,ex,g,q2⟩=>?_);subst ex;obtain rfl:u=Value.ref a:=rx;exact⟨Zas I2 g,Mx hu I2 g ry fun w' s3 I3 rw'=>⟨v,H2,I3,rw',q2⟩⟩
def GR(hu:X.A.units+1<cLine)(hi:PE X i ty)(ho:PE X o td):PC X .NotIn i o (BJ ty td):=by
 intro pins s σ H Q I h;refine thn (hi pins s σ H _ I h) fun iv s1 ⟨y,H1,I1,ry,q1⟩=>thn (ho pins s1 σ H1 _ I1 q1) fun u s2 ⟨x,H2,I2,rx,a,ov,ex,g,q2⟩=>?_;subst ex;obtain rfl:u=Value.ref a:=rx;exact Zaq hu I2 g ry fun s3 I3=>⟨.bl (!ov.isSome),H2,I3,rfl,q2⟩
def Bi(hu:X.A.units+1<cLine)(ho:PE X o td)(hi:PE X i ty)(hv:PE X value tv)(hs:swapsWith value (some (.Subscript o i pos')) pos.line X.env=pure false) :
  PS X (.Assign [.Subscript o i pos'] value pos) (Fp td ty tv):=by
 intro pins s σ H D I h;refine wpAny_Assign_Subscript (thn (hv pins s σ H _ I h) fun r s1 ⟨v,H1,I1,rv,q1⟩=>thn (ho pins s1 σ H1 _ I1 q1) fun u s2 ⟨x,H2,I2,rx,q2⟩=>thn (hi pins s2 σ H2 _ I2 q2) fun iv s3 ⟨y,H3,I3,ry,a,H4,ex,g,q3⟩=>?_) hs;subst ex;obtain rfl:u=Value.ref a:=rx;exact Hx hu I3 g ry rv fun s4 I4=>⟨σ,H4,I4,q3⟩
end
def E3{P:Program}{w:World}{H:Hp}(h:Heap)(hb:sysModules<h.objs.size):ObjOk P w H (h.push {cls:=.type "dict",data:=.dict #[]}) h.objs.size (.dK []):=
 ⟨Wb _,WB.mpr (Ne.symm (Y6 hb)),[],.nil,Heap.DictOf.new h⟩
def Av{P:Program}{w:World}{H:Hp}(h:Heap)(hb:sysModules<h.objs.size):ObjOk P w H (h.push {cls:=.type "dict",data:=.dict #[]}) h.objs.size (.dT []):=
 ⟨Wb _,WB.mpr (Ne.symm (Y6 hb)),[],.nil,_,#[],0,Ym _ rfl,⟨rfl,rfl,rfl⟩,rfl,rfl,WD⟩
def En:TE:=fun _ H Q=>∀p,H p=none->Q (.ref p) (upd H p (.dK []))
def FC:TE:=fun _ H Q=>∀p,H p=none->Q (.ref p) (upd H p (.dT []))
section
variable {X:Cx}{pos:Pos}
def Gc:PE X (.Dict [] [] pos) En:=fun pins s σ H Q I h=>
 wpAny_Dict_empty ⟨.ref s.heap.objs.size,_,I.laid (a:=s.heap.objs.size) (o:=.dK []) (t':=s.toks) (fun _ _ q=>Yc _ q) (Yi _) (E3 s.heap I.big),rfl,h _ (I.hok.fresh (Yi _))⟩
def MU:PE X (.Dict [] [] pos) FC:=fun pins s σ H Q I h=>
 wpAny_Dict_empty ⟨.ref s.heap.objs.size,_,I.laid (a:=s.heap.objs.size) (o:=.dT []) (t':=s.toks) (fun _ _ q=>Yc _ q) (Yi _) (Av s.heap I.big),rfl,h _ (I.hok.fresh (Yi _))⟩
end
def Ci:List (TE×TE)->St->Hp->(List (V×V)->Hp->Prop)->Prop
 |[],_,H,Q=>Q [] H
 |(tk,tv)::r,σ,H,Q=>tk σ H fun x H1=>tv σ H1 fun y H2=>Ci r σ H2 fun ps H3=>Q ((x,y)::ps) H3
abbrev VV:List (V×V)->List (Value×Value)->Prop:=Paired fun p q=>RelV p.1 q.1/\RelV p.2 q.2
def PPs(X:Cx)(pos:Pos)(keys:List (Option Expr))(values:List Expr)(trs:List (TE×TE)):Prop:=
 ∀(pins:List (Addr×Obj)) (s:Shared) (σ:St) (H:Hp) (Q:List (V×V)->Hp->Prop),Inv X pins σ H s->Ci trs σ H Q->
  wpAny (model X.prog X.w) X.A (evalPairs (pairTrees keys values X.env pos)) (fun vs s'=>∃ps H',Inv X pins σ H' s'/\VV ps vs/\Q ps H') X.xe s
def EZ{X:Cx}{pos:Pos}:PPs X pos [] [] []:=fun pins s σ H Q I h=>pairTrees_nil_walk ⟨[],H,I,.nil,h⟩
def O6{X:Cx}{pos:Pos}{k v:Expr}{ks:List (Option Expr)}{vs:List Expr}{tk tv:TE}{trs:List (TE×TE)}(hk:PE X k tk)(hv:PE X v tv)(hr:PPs X pos ks vs trs) :
  PPs X pos (some k::ks) (v::vs) ((tk,tv)::trs):=fun pins s σ H Q I h=>
 pairTrees_cons_walk (thn (hk pins s σ H _ I h) fun u s1 ⟨x,H1,I1,rx,q1⟩=>thn (hv pins s1 σ H1 _ I1 q1) fun w2 s2 ⟨y,H2,I2,ry,q2⟩=>
  thn (hr pins s2 σ H2 _ I2 q2) fun ws s3 ⟨ps,H3,I3,rel,q3⟩=>⟨(x,y)::ps,H3,I3,.cons ⟨rx,ry⟩ rel,q3⟩)
end L2
set_option genInjectivity false
set_option genSizeOfSpec false
namespace Own
open PySem PySem.Spec PyProof.Rows L2
structure Def (K:Za) (mg:Str->Option Value) (x:Str) (st:Stmt) (ps:List Str):Prop where
 ex:∃f fd,Fun K x x st f fd/\mg x=some (.ref f)/\Binds K fd ps []
structure Callee (P:Program) (w:World) (K:Za) (mg:Str->Option Value) (base:Heap) (CX:CXT) (k:Nat) (x:Str) (ps:List Str) (sp:Sp):Prop where
 ex:∃f fd,FnOk P w K mg base CX k f fd ps sp/\mg x=some (.ref f)/\PySem.W.keepIn K (.ref f)=true/\(∃o:Obj,K.lookup f=some o/\o.data=.func fd)/\Binds K fd ps []
section
variable {P:Program}{w:World}{K:Za}{mg:Str->Option Value}{base:Heap}
def Def.ok {x:Str}{st:Stmt}{N ps:List Str}{k:Nat}{sp:Sp} (D:Def K mg x st ps) (S:FnScope N ps (Jn st)) (len:∀vs H Q E,sp vs H Q E->vs.length=ps.length)
  (hbody:∀(f:Addr) (cdv:Value) (A:Around) (outer:List Env) (s:Shared) (H:Hp) (vs:List V) (Q:VK) (E:XK),Room k (A.deeper (envOfC x (Jn st) s.heap.objs.size f cdv))->sp vs H Q E->
   ∃t,PSs (cxOf CX0 P w K mg base N x (Jn st) f cdv A outer s H E).nox (JO st) t/\t {nx:=fun _ H'=>Q .non H',rt:=Q} (start N vs) H):Callee P w K mg base CX0 (k+1) x ps sp:=by
 obtain⟨f,fd,F,hm,hb⟩:=D.ex;refine⟨f,fd,F.ok S len fun cdv A outer s H vs Q E hr h=>hbody f cdv A outer s H vs Q E hr h,hm,F.kp,?_,hb⟩;obtain⟨oc,od,kV,doc,pm,an,cdv,ct,osl,_,lk,_⟩:=F.ex;exact⟨_,lk,rfl⟩
end
section
variable {X:Cx}{CX:CXT}{k:Nat}{ps:List Str}{sp:Sp}{E:XK}{x:Str}{p pos:Pos}{e:Expr}{es:List Expr}{t:TA}
def UQ(C:Callee X.prog X.w X.K X.mg X.base CX k x ps sp)(hr:Room k X.A)(hx:UB CX X E)(ha:PA X (e::es) t)(hg:Gl X x:=by rfl)(hdb:(x==("__debug__" : Str))=false:=by decide)(he:starEach (e::es) X.env=(false,eval e X.env)::starEach es X.env:=by rfl)(hpl:(backTo pos (starEach es X.env)).any (·.1)=false:=by rfl) :
  PE X (.Call (.Name x p) (e::es) [] pos) (Pn sp [] E t):=by
 obtain⟨f,fd,F,hm,hk,_,hb⟩:=C.ex;exact Ly F hr hg hm hk hb .nil hx ha hdb he hpl
def Hw:Ug X (.builtin "isinstance") (fun xs H Q=>∃x n t b,xs=[x,.ty n]/\TyOf X.K H x t/\PySem.W.kitOne X.K t (.type n)=some b/\Q (.bl b) H):=by
 intro pins s σ H xs us Q I rv h;obtain⟨x,n,t,b,rfl,ty,e,q⟩:=h;cases rv with
 |cons r rr=>
  cases rr with
  |cons r' rr'=>
   cases rr'
   obtain rfl:_=Value.type n:=r';exact M8 I r ty e fun tk=>⟨.bl b,H,I.tok tk,rfl,q⟩
def S8:IxR X (fun x y H Q=>rIxL X.K x y H Q\/rIxT X.K x y H Q):=ix_list.or GW
end
def Cj(t u:TS):TS:=fun D σ H=>∃J:L2.St->Hp->Prop,t {D with nx:=J} σ H/\∀σ' H',J σ' H'->u D σ' H'
def Sq{X:Cx}{st:Stmt}{rest:List Stmt}{t u:TS}(h1:PS X st t)(h2:PSs X rest u):PSs X (st::rest) (Cj t u):=by
 intro pins s σ H D I h;obtain⟨J,h,k⟩:=h;refine Qq (thn (h1 pins s σ H {D with nx:=J} I h) fun f s1 q=>?_)
 cases f with
 |next=>
  obtain⟨σ',H',I',q⟩:=q;exact h2 pins s1 σ' H' D I' (k σ' H' q)
 |ret v=>exact q
 |brk=>exact q
 |cont=>exact q
def EA(K:Za)(n:String):PySem.W.kitOne K (.type n) (.type n)=some true:=by
 unfold PySem.W.kitOne;rw[Yg (by simp)]
def Xi{α β:Type}{f:α->β}{xs:List α}{i:Int}{v:α}(h:atI xs i=some v):atI (xs.map f) i=some (f v):=by
 unfold atI at h ⊢;rw[Ya];cases e:ixN xs.length i with
 |none=>rw[e]at h;cases h
 |some j=>
  rw[e]at h;have h':xs[j]?=some v:=h;show(xs.map f)[j]?=some (f v);rw[Yj,h'];rfl
def P7{α:Type}{xs:List α}{i:Int}{v:α}(h0:0<=i)(h:xs[i.toNat]?=some v):atI xs i=some v:=by
 have e:((i.toNat:Nat):Int)=i:=by omega
 have:=Td h
 rwa[e]at this
def JT{H:Hp}{a:Addr}{o:HO}(h:H a=none):Same H (upd H a o):=fun b u e=>by rw[Jv (JN e h)];exact e
def Same.upd {H H':Hp}{a:Addr}{o:HO} (S:Same H H') (h:H a=none):Same H (upd H' a o):=fun b u e=>by rw[Jv (JN e h)];exact S b u e
def Same.new {H H':Hp}{a:Addr}{o:HO} (S:Same H H') (h:H' a=none):Same H (L2.upd H' a o):=Own.Same.upd S (S.free h)
def EF{env:Env}(names:List (Str×NameKind))(hall:∀x∈names,x.2=.free->∃c,env.cells.lookup x.1=some c):∀cs0:List (Str×Addr),(∀x c,cs0.lookup x=some c->env.cells.lookup x=some c)->
  ∃cl:List (Str×Addr),(forIn names cs0 (fun(x:Str×NameKind) (cs:List (Str×Addr))=>if (x.2 == .free)=true then(do let c ←cellOf env x.1;pure (ForInStep.yield ((x.1,c)::cs)))else pure (ForInStep.yield cs)):Sem (List (Str×Addr)))=pure cl/\
   (∀x c,cl.lookup x=some c->env.cells.lookup x=some c)/\(∀x,(∃c,cs0.lookup x=some c)->∃c,cl.lookup x=some c)/\∀x∈names,x.2=.free->∃c,cl.lookup x.1=some c:=by
 induction names with
 |nil=>
  intro cs0 h0;exact⟨cs0,rfl,h0,fun _ h=>h,fun x hx=>by cases hx⟩
 |cons y r ih=>
  intro cs0 h0;have ih':=ih fun x hx=>hall x (Yu _ hx);obtain⟨n,k⟩:=y;by_cases hk:k=.free
  ·subst hk;obtain⟨c,hc⟩:=hall (n,.free) Yy rfl
   have h1:∀x d,List.lookup x ((n,c)::cs0)=some d->env.cells.lookup x=some d:=fun x d e=>by
    rw[Wg]at e;by_cases hx:x=n
    ·subst hx;simp at e;subst e;exact hc
    ·have:(x==n)=false:=by simpa using hx
     rw[this]at e;exact h0 x d e
   obtain⟨cl,e,p1,p2,p3⟩:=ih' ((n,c)::cs0) h1;refine⟨cl,?_,p1,fun x hx=>p2 x ?_,fun x hx hf=>?_⟩
   ·rw[QV];show((if (NameKind.free==NameKind.free)=true then(do let c ←cellOf env n;pure (ForInStep.yield ((n,c)::cs0)))else pure (ForInStep.yield cs0)) >>= _)=_
    rw[Yg (show(NameKind.free==NameKind.free)=true by decide)];have ec:cellOf env n=pure c:=by unfold cellOf;rw[hc]
    rw[ec];exact e
   ·rw[Wg];cases (x==n)
    ·exact hx
    ·exact⟨c,rfl⟩
   ·rcases Yo.mp hx with rfl|hx
    ·exact p2 n ⟨c,by simp[Wg]⟩
    ·exact p3 x hx hf
  ·obtain⟨cl,e,p1,p2,p3⟩:=ih' cs0 h0;refine⟨cl,?_,p1,p2,fun x hx hf=>?_⟩
   ·rw[QV];have hb:(k==NameKind.free)=false:=by simpa using hk
    show((if (k==NameKind.free)=true then(do let c ←cellOf env n;pure (ForInStep.yield ((n,c)::cs0)))else pure (ForInStep.yield cs0)) >>= _)=_
    rw[Ye (by rw[hb];decide)];exact e
   ·rcases Yo.mp hx with rfl|hx
    ·exact absurd hf hk
    ·exact p3 x hx hf
def BI{env:Env}{sc:Scope}(hall:∀x∈sc.names,x.2=.free->∃c,env.cells.lookup x.1=some c) :
  ∃cl:List (Str×Addr),closureFor sc env=pure cl/\(∀x c,cl.lookup x=some c->env.cells.lookup x=some c)/\∀x∈sc.names,x.2=.free->∃c,cl.lookup x.1=some c:=by
 obtain⟨cl,e,p1,_,p3⟩:=EF sc.names hall [] (fun x c h=>by cases h);refine⟨cl,?_,p1,p3⟩;unfold closureFor;show((forIn sc.names ([]:List (Str×Addr)) (fun(x:Str×NameKind) (cs:List (Str×Addr))=>if (x.2 == .free)=true then(do let c ←cellOf env x.1;pure (ForInStep.yield ((x.1,c)::cs)))else pure (ForInStep.yield cs)):Sem (List (Str×Addr))) >>= fun cs=>pure cs)=pure cl
 rw[e];rfl
def Uc(X:Cx)(N':List Str)(sc:Scope)(cl:List (Str×Addr))(C:Addr)(s₃:Shared)(H₃:Hp)(ex:List Addr):Cx:=
 {X with N:=N',s₀:=s₃,H₀:=H₃,env:=compEnvC sc cl C X.env,outer:=X.stack,ex:=ex,fn:=fun _=>false,pn:=[],xe:=fun _ _=>False}
structure CompOk (X:Cx) (N':List Str) (φ:List (Option Nat)) (sc:Scope):Prop where
 kind:sc.kind=.function
 okind:X.env.scope.kind=.function
 nocell:∀y∈sc.names,y.2≠.cell
 names:∀y∈sc.names,y.2=.local->sc.names.lookup y.1=some .local
 frees:∀y∈sc.names,y.2=.free->X.env.scope.names.lookup y.1=some .cell
 len:φ.length=N'.length
 pick:∀(i:Nat) (x:Str) (j:Nat),N'[i]?=some x->φ[i]?=some (some j)->X.N[j]?=some x/\sc.names.lookup x=some .free
def atStart(φ:List (Option Nat))(σ:L2.St):L2.St:=φ.map fun o=>o.bind fun j=>(σ[j]?).join
def Sub(σ σ':L2.St):Prop:=σ'.length=σ.length/\∀(i:Nat) (v:V),σ[i]?=some (some v)->σ'[i]?=some (some v)
def Sub.refl {σ:L2.St}:Sub σ σ:=⟨rfl,fun _ _ h=>h⟩
def Sub.skip {σ σ':L2.St}{x:Option V} (h:Sub σ σ'):Sub (none::σ) (x::σ'):=by
 refine⟨by simp[h.1],fun i v e=>?_⟩;cases i with
 |zero=>simp at e
 |succ i=>simp at e ⊢;exact h.2 i v e
def Em{env:Env}(hk:env.scope.kind=.function):∀{names:List (Str×NameKind)}{x:Str},names.lookup x=some .free->env.scope.names.lookup x=some .cell->
  (names.map fun(n,k)=>if (k==NameKind.free&&env.scope.kind == .function&&env.kindOf n==some .cell)then(n,NameKind.cell)else(n,k)).lookup x=some .cell
 |[],_,h,_=>by simp at h
 |(n,k)::r,x,h,hc=>by
  have ih:=@Em env hk r x;show List.lookup x ((if (k==NameKind.free&&env.scope.kind == .function&&env.kindOf n==some .cell)=true then(n,NameKind.cell)else(n,k))::_)=_;cases hx:x==n with
  |true=>
   simp only[Wg,hx]at h;cases h
   have e:x=n:=by simpa using hx
   subst e;have hkk:env.kindOf x=some .cell:=hc;rw[hk,hkk];simp[Wg]
  |false=>
   simp only[Wg,hx]at h;by_cases hcc:(k==NameKind.free&&env.scope.kind == .function&&env.kindOf n==some .cell)=true
   ·rw[Yg hcc];simp only[Wg,hx];exact ih h hc
   ·rw[Ye hcc];simp only[Wg,hx];exact ih h hc
def B4{env:Env}:∀{names:List (Str×NameKind)}{x:Str}{q:NameKind},
  (names.map fun(n,k)=>if (k==NameKind.free&&env.scope.kind == .function&&env.kindOf n==some .cell)then(n,NameKind.cell)else(n,k)).lookup x=some q->∃k,(x,k)∈names/\(q=k\/k=.free)
 |[],_,_,h=>by simp at h
 |(n,k)::r,x,q,h=>by
  have ih:=@B4 env r x q;have h':List.lookup x ((if (k==NameKind.free&&env.scope.kind == .function&&env.kindOf n==some .cell)=true then(n,NameKind.cell)else(n,k))::(r.map fun(n,k)=>if (k==NameKind.free&&env.scope.kind == .function&&env.kindOf n==some .cell)then(n,NameKind.cell)else(n,k)))=some q:=h;cases hx:x==n with
  |true=>
   have e:x=n:=by simpa using hx
   subst e;by_cases hcc:(k==NameKind.free&&env.scope.kind == .function&&env.kindOf x==some .cell)=true
   ·refine⟨k,Yy,.inr ?_⟩
    have:=(YA _ _▸(YA _ _▸hcc).1).1
    simpa using this
   ·rw[Ye hcc]at h';simp[Wg]at h';exact⟨k,Yy,.inl h'.symm⟩
  |false=>
   have h2:List.lookup x (r.map fun(n,k)=>if (k==NameKind.free&&env.scope.kind == .function&&env.kindOf n==some .cell)then(n,NameKind.cell)else(n,k))=some q:=by
    by_cases hcc:(k==NameKind.free&&env.scope.kind == .function&&env.kindOf n==some .cell)=true
    ·rw[Yg hcc]at h';simp only[Wg,hx]at h';exact h'
    ·rw[Ye hcc]at h';simp only[Wg,hx]at h';exact h'
   obtain⟨k',hm,hq⟩:=ih h2;exact⟨k',Yu _ hm,hq⟩
def O9{prog:Program}{w:World}{A:Around}{R:Result->Shared->Prop}{s:Shared}{elt target iter:Expr}{ifs:List Expr}{scope:Scope}{pos:Pos}{it acc:Value}{env:Env}(I:Nat->Shared->Prop)
  (turn:∀n s,I n s->wpAny (model prog w) A (pyNext it) (fun r s₁=>match r with
   |none=>R (.ok .next) s₁
   |some v=>wpAny (model prog w) A (letOwnedTupleGo target it v) (fun _ s₁'=>wpAny (model prog w) A (assign target env v) (fun _ s₂=>
     wpAny (model prog w) A (forIn ifs true fun c r=>if r=true then do let ok ←isTrue c env (eval c env);pure (ForInStep.yield ok)else pure (ForInStep.yield r)) (fun ok s₃=>
      if ok=true then wpAny (model prog w) A (eval elt env) (fun x s₄=>
       wpAny (model prog w) A (call (.builtin "list.append") [acc,x]) (fun _ s₅=>∃m,m<n/\I m s₅) (fun _ _=>False) s₄) (fun _ _=>False) s₃
      else ∃m,m<n/\I m s₃) (fun _ _=>False) s₂) (fun _ _=>False) s₁') (fun _ _=>False) s₁) (fun _ _=>False) s)
  (n:Nat) (h:I n s) :
  codeAny (model prog w) A (.compLoop (.ListComp elt [⟨target,iter,ifs,0⟩] scope pos) 0 it acc env) R s:=by
 refine codeAny_loop rfl I (fun n s hI=>?_) n h;show wpAny _ A ((compTurn (.ListComp elt [⟨target,iter,ifs,0⟩] scope pos) 0 it acc env).onRaise (fun x=>do noteFrame x env;theTreesLotGoes x)) _ _ s
 refine wpAny_noted ?_;rw[compTurn_list];refine ZY (wpAny_standAt (ZY (YU (turn n s hI) (fun r s₁ h₁=>?_) fun _ _ h'=>h'.elim)));cases r with
 |none=>exact Yb h₁
 |some v=>
  refine ZY (YU h₁ (fun _ s₁' h₁'=>?_) fun _ _ h'=>h'.elim);refine ZY (YU h₁' (fun _ s₂ h₂=>ZY (YU h₂ (fun ok s₃ h₃=>?_) fun _ _ h'=>h'.elim)) fun _ _ h'=>h'.elim);cases ok with
  |false=>exact Yb ⟨rfl,h₃⟩
  |true=>
   exact ZY (ZY (YU h₃ (fun x s₄ h₄=>ZY (YU h₄ (fun _ s₅ h₅=>Yb (Yb ⟨rfl,h₅⟩)) fun _ _ h'=>h'.elim)) fun _ _ h'=>h'.elim))
def PIfs(X:Cx)(ifs:List Expr)(t:TT):Prop:=
 ∀(pins:List (Addr×Obj)) (s:Shared) (σ:L2.St) (H:Hp) (Q:Bool->Hp->Prop),Inv X pins σ H s->t σ H Q->
  wpAny (model X.prog X.w) X.A (forIn ifs true fun c r=>if r=true then do let ok ←isTrue c X.env (eval c X.env);pure (ForInStep.yield ok)else pure (ForInStep.yield r)) (TP X pins σ Q) X.xe s
def CN:TT:=fun _ H Q=>Q true H
def UO{X:Cx}:PIfs X [] CN:=fun _ _ _ H _ I h=>Yb ⟨H,I,h⟩
def Xe{X:Cx}{c:Expr}{t:TT}(hc:PT X c t):PIfs X [c] t:=by
 intro pins s σ H Q I h;rw[QV];refine ZY ?_;rw[Yg rfl];exact ZY (thn (hc pins s σ H Q I h) fun b s1 q=>Yb (Yb q))
def Tf(φ:List (Option Nat))(wi:TI)(g:TG)(tc:TT)(te:TE):TE:=fun σ H Q=>wi σ H fun J H1=>∀D,H1 D=none->∃W:Nat->Nat->List V->Hp->Prop,(∃m,W 0 m [] (upd H1 D (.lst [])))/\
 ∀i m ys H2,W i m ys H2->(J.stop i H2/\Q (.ref D) H2)\/(J.go i H2/\∀x H3,J.yld i H2 x H3->g x (atStart φ σ) H3 fun σ2 H4=>Sub (atStart φ σ) σ2/\tc σ2 H4 fun b H5=>
  if b=true then te σ2 H5 fun y H6=>H6 D=some (.lst ys)/\ys.length<sizeLine/\∃m',m'<m/\W (i+1) m' (ys++[y]) (upd H6 D (.lst (ys++[y])))else ∃m',m'<m/\W (i+1) m' ys H5)
def Inv.weak {X:Cx}{pins:List (Addr×Obj)}{σ σ':L2.St}{H:Hp}{s:Shared} (I:Inv X pins σ' H s) (S:Sub σ σ'):Inv X pins σ H s:=
 ⟨I.ok,I.os,I.bare,I.base,let ⟨m,hn,hl⟩:=I.loc;⟨m,hn,fun i x v h1 h2 h3=>hl i x v h1 (S.2 i v h2) h3⟩,I.cell,I.free,I.freeC,I.pin,I.hok,by rw[←S.1];exact I.len⟩
def Sl{φ:List (Option Nat)}{σ:L2.St}{i:Nat}{v:V}(h:(atStart φ σ)[i]?=some (some v)):∃j,φ[i]?=some (some j)/\σ[j]?=some (some v):=by
 unfold atStart at h;rw[Yj]at h;cases e:φ[i]? with
 |none=>rw[e]at h;cases h
 |some o=>
  rw[e]at h;cases o with
  |none=>simp at h
  |some j=>
   refine⟨j,rfl,?_⟩;simp at h;cases e2:σ[j]? with
   |none=>rw[e2]at h;simp at h
   |some w=>rw[e2]at h;simp at h;rw[h]
def CompEnd(X:Cx)(pins:List (Addr×Obj))(σ:L2.St)(Q:VK)(use:Option (Value->Sem Unit))(QQ:Value->Shared->Prop):Prop:=
 ∀(D C:Addr) (H5:Hp) (s6:Shared),Q (.ref D) H5->Inv X pins σ H5 s6->(∃m,s6.heap.Ns C m)->H5 C=none->C≠X.env.locals->X.s₀.heap.objs.size<=C->(∀x c,X.env.cells.lookup x=some c->c≠C)->(∀p∈X.pn++pins,p.1≠C)->C∉X.fs->
  compPost (model X.prog X.w) X.A X.xe use QQ (.ref D) C (.ok .next) s6
def Cf{X:Cx}{N':List Str}{φ:List (Option Nat)}{sc:Scope}{elt iter tg:Expr}{ifs:List Expr}{pos pos':Pos}{wi:TI}{g:TG}{tc:TT}{te:TE}{use:Option (Value->Sem Unit)}{QQ:Value->Shared->Prop}(hcalm:X.calm=true)(S:CompOk X N' φ sc)(hi:PI X tg iter wi)(hin:∀cl C s₃ H₃ ex,PG (Uc X N' sc cl C s₃ H₃ ex) tg g/\PIfs (Uc X N' sc cl C s₃ H₃ ex) ifs tc/\PE (Uc X N' sc cl C s₃ H₃ ex) elt te)(hs:∀x,foldedSetIterable iter X.env x=pure x){pins:List (Addr×Obj)}{s:Shared}{σ:L2.St}{H:Hp}{Q:VK}(I:Inv X pins σ H s)(h:Tf φ wi g tc te σ H Q)(fin:CompEnd X pins σ Q use QQ) :
  wpAny (model X.prog X.w) X.A (comprehension (.ListComp elt [⟨tg,iter,ifs,0⟩] sc pos) sc X.env pos' (newList []) false (eval iter X.env) use) QQ X.xe s:=by
 obtain⟨cl,hcl,p1,p3⟩:=BI (env:=X.env) (sc:=sc) fun x hx hf=>I.ok.has x.1 (.inl (S.frees x hx hf));refine wpAny_comprehension_free (use:=use) rfl hs hcl S.kind S.names ?_;refine thn (hi pins s σ H _ I h) fun v s1 h1=>thn h1 fun itv s2 h2=>?_;obtain⟨it,fp,tn,J,H2,e,I2,T,st2,f2,hR⟩:=h2;subst e;refine YT ?_;have hf:H2 s2.heap.objs.size=none:=I2.hok.fresh (Yi _);obtain⟨W,⟨m0,w0⟩,turn⟩:=hR s2.heap.objs.size hf;generalize eD:s2.heap.objs.size=D at *
 have I3:Inv X pins σ (upd H2 D (.lst [])) {s2 with heap:=s2.heap.push {cls:=.type "list",dict:=none,data:=.seq ([]:List Value).toArray}}:=
  I2.laid (t':=s2.toks) (fun b u e=>Yc _ e) (Wx eD) ⟨Wb _,[],0,.nil,by rw[←eD];exact Ym _ rfl⟩
 have st3:tn 0 (s2.heap.push {cls:=.type "list",dict:=none,data:=.seq ([]:List Value).toArray}):=T.keep _ _ _ st2 fun b _ o e=>Yc _ e
 have hfpD:∀b∈fp,b≠D:=fun b hb z=>by
  obtain⟨o,ho,_⟩:=T.obj _ _ st2 b hb
  have:=Yk ho
  rw[z,←eD]at this;exact Ws _ this
 have f3:∀b∈fp,FpOk X pins (upd H2 D (.lst [])) b:=fun b hb=>⟨by rw[Jv (hfpD b hb)];exact(f2 b hb).1,(f2 b hb).2⟩;generalize es3:({s2 with heap:=s2.heap.push {cls:=.type "list",dict:=none,data:=.seq ([]:List Value).toArray}}:Shared)=s3 at *
 have st3':tn 0 s3.heap:=by rw[←es3];exact st3
 generalize eH3:upd H2 D (.lst [])=H3 at *;refine wpAny_newFunctionEnv S.nocell (by intro y hy;simp at hy) (fun h₁ hns₁ hsb₁=>?_) S.kind;have hh3:s3.heap=s2.heap.push {cls:=.type "list",dict:=none,data:=.seq ([]:List Value).toArray}:=by rw[←es3]
 rw[hh3]at hns₁ hsb₁;rw[←hh3]at hns₁ hsb₁;have old:∀b o,s3.heap.get? b=some o->h₁.get? b=some o:=fun b o e=>hsb₁.extBut b o (Y6 (Yk e)) (Yc _ e)
 have hC0:s3.heap.get? s3.heap.objs.size=none:=by
  cases e:s3.heap.get? s3.heap.objs.size with
  |none=>rfl
  |some o=>exact absurd (Yk e) (Ws _)
 generalize eC:s3.heap.objs.size=C at *;have hH3C:H3 C=none:=I3.hok.fresh (Wx eC)
 have OK:(Uc X N' sc cl C s3 H3 fp).Ok:=by
  refine⟨I.ok.mod,?_,I.ok.glob,I.ok.blt,Wx eC,fun x y c h1 h2=>I.ok.inj x y c (p1 x c h1) (p1 y c h2),?_,(fun x c hx=>by cases hx),I.ok.hd,I.ok.frames,.inl rfl,?_,I3.bs,Yx I.ok.bsz I3.sz,?_,?_,I3.stack,I3.stkFree⟩
  ·exact S.kind
  ·intro x hx;have hx':(∃k,(x,k)∈sc.names/\(NameKind.cell=k\/k=.free))\/∃k,(x,k)∈sc.names/\(NameKind.free=k\/k=.free):=hx.imp B4 B4
   have hfr:(x,NameKind.free)∈sc.names:=by
    rcases hx' with⟨k,hm,rfl|rfl⟩|⟨k,hm,rfl|rfl⟩
    ·exact absurd rfl (S.nocell _ hm)
    ·exact hm
    ·exact hm
    ·exact hm
   exact p3 _ hfr rfl
  ·intro b hb;refine⟨fun z=>?_,fun x c hx=>(f3 b hb).2.2.2.2.1 x c (p1 x c hx)⟩;obtain⟨o,ho,_⟩:=T.obj _ _ st3' b hb;have z':b=C:=z;rw[z',hC0]at ho;cases ho
  ·intro b o hb hx;obtain⟨_,_,_,q,_,_⟩:=f3 b hx;rcases q with q|q
   ·exact I.ok.noex b o hb q
   ·have:=YB (Yk hb) (Yx I.ok.bsz q)
    exact Ws _ this
  ·intro b hb hz;rcases Yo.mp (I.stkSub b hz)with q|q
   ·exact(f3 b hb).2.1 q
   ·exact(f3 b hb).2.2.1 q
 have hlen0:(atStart φ σ).length=N'.length:=by unfold atStart;rw[Ya];exact S.len
 have I4:Inv (Uc X N' sc cl C s3 H3 fp) [] (atStart φ σ) H3 {s3 with heap:=h₁,toks:=s3.toks+([]:List (Str×Value)).length}:=by
  refine⟨OK,rfl,I3.bare,Un.kept old,⟨_,hns₁,fun i x v h1 h2 h3=>?_⟩,fun x c hx=>?_,hH3C,fun x c hx=>I3.freeC x c (p1 x c hx),fun p hp=>?_,I3.hok.kept old,hlen0⟩
  ·obtain⟨j,hj,hv⟩:=Sl h2;obtain⟨hN,hfr⟩:=S.pick i x j h1 hj;obtain⟨m,_,hl⟩:=I3.loc;have hm:(x,NameKind.free)∈sc.names:=YY hfr;have hcell:=S.frees _ hm rfl;obtain⟨u,ru,lk⟩:=hl j x v hN hv (.inr (.inl hcell));refine⟨u,ru,.inr ⟨.inl (Em S.okind hfr hcell),?_⟩⟩;obtain⟨c,hc⟩:=p3 _ hm rfl;rcases lk with⟨hk,_⟩|⟨_,c',hc',hcl'⟩
   ·have hk':X.env.scope.names.lookup x=some .local:=hk;rw[hcell]at hk';cases hk'
   ·have e:=p1 _ _ hc;rw[hc']at e;cases e
    obtain⟨o,ho,hd⟩:=hcl';exact⟨_,hc,o,old _ o ho,hd⟩
  ·obtain⟨v,hv⟩:=I3.cell x c (p1 x c hx);obtain⟨o,ho,hd⟩:=hv;exact⟨v,o,old _ o ho,hd⟩
  ·exact absurd hp (by simp[Uc])
 have st4:tn 0 h₁:=T.keep _ _ _ st3' fun b _ o e=>old b o e
 have stat:∀{H':Hp},(∀b∈fp,H' b=none)->∀b∈fp,FpOk (Uc X N' sc cl C s3 H3 fp) [] H' b:=fun hn b hb=>
  ⟨hn b hb,(OK.exf b hb).1,OK.exfs b hb,.inl hb,(OK.exf b hb).2,fun p hp=>absurd hp (by simp[Uc])⟩
 obtain⟨hPG,hPI,hPE⟩:=hin cl C s3 H3 fp
 have loop:codeAny (model X.prog X.w) X.A (.compLoop (.ListComp elt [⟨tg,iter,ifs,0⟩] sc pos) 0 (.ref it) (.ref D) (compEnvC sc cl C X.env)) (compPost (model X.prog X.w) X.A X.xe use QQ (.ref D) C) {s3 with heap:=h₁,toks:=s3.toks+([]:List (Str×Value)).length}:=by
  refine O9 (fun n s'=>∃i ys σ' H',Inv (Uc X N' sc cl C s3 H3 fp) [] σ' H' s'/\Sub (atStart φ σ) σ'/\tn i s'.heap/\(∀b∈fp,H' b=none)/\W i n ys H') ?_ m0 ⟨0,[],_,_,I4,Sub.refl,st4,fun b hb=>(f3 b hb).1,w0⟩;rintro n s5 ⟨i,ys,σ5,H5,I5,sub5,st5,fr5,w5⟩;have I5':=Own.Inv.weak I5 sub5;rcases turn i n ys H5 w5 with⟨stop,qn⟩|⟨go,step⟩
  ·refine thn (T.done (Uc X N' sc cl C s3 H3 fp) rfl rfl rfl hcalm i [] s5 _ H5 _ I5' (stat fr5) st5 stop) fun r s6 ⟨hr,I6⟩=>?_;subst hr;obtain⟨m,hn,_⟩:=I6.loc;obtain⟨hh,gg,dd,tt,oo⟩:=s6;obtain rfl:oo=s3.os:=I6.os;have R:Inv X pins σ H5 {s3 with heap:=hh,gens:=gg,drawn:=dd,toks:=tt}:=I3.call (ch:=fp) (h':=hh) (g':=gg) (d':=dd) (t':=tt) I6.base I6.hok I6.bare fun b hb=>⟨(f3 b hb).2.2.2.1,(f3 b hb).2.1,(f3 b hb).2.2.2.2.1,(f3 b hb).2.2.2.2.2⟩
   have hC3:s3.heap.objs.size<=C:=Wx eC;obtain⟨q0,q1,q2,q3,q4,q5⟩:=I3.fpOk (b:=C) (H':=H3) hC3 hH3C;refine fin D C H5 _ qn R ⟨m,hn⟩ I6.free q1 (Yx I3.sz hC3) q4 q5 q2
  ·refine thn (T.item (Uc X N' sc cl C s3 H3 fp) rfl rfl rfl hcalm i [] s5 _ H5 _ I5' (stat fr5) st5 go) fun r s6 ⟨u,hr,h6⟩=>?_;subst hr;refine thn h6 fun _ s7 ⟨x,H7,I7,r7,y7,st7,fr7⟩=>?_;have I7':=I7.pinned (stat fr7) (T.obj _ _ st7);refine thn (hPG _ s7 _ H7 x u _ I7' r7 (step x H7 y7)) fun _ s8 ⟨σ8,H8,I8,sub8,q8⟩=>?_;refine thn (hPI _ s8 σ8 H8 _ I8 q8) fun ok s9 ⟨H9,I9,q9⟩=>?_
   have again:∀{s10:Shared} {H10:Hp} {ys':List V} {m':Nat},Inv (Uc X N' sc cl C s3 H3 fp) ([]++KM fp s7.heap) σ8 H10 s10->W (i+1) m' ys' H10->∃i ys σ' H',Inv (Uc X N' sc cl C s3 H3 fp) [] σ' H' s10/\Sub (atStart φ σ) σ'/\tn i s10.heap/\(∀b∈fp,H' b=none)/\W i m' ys H':=fun {s10 H10 ys' m'} J10 w10=>by
    refine⟨i+1,ys',σ8,H10,J10.unpinned,sub8,T.keep _ _ _ st7 fun b hb o e=>(J10.pin (b,o) (Y0 _ (Y0 _ (Tc hb e)))).1,fun b hb=>?_,w10⟩;obtain⟨o,e,d⟩:=T.obj _ _ st7 b hb;exact(J10.pin (b,o) (Y0 _ (Y0 _ (Tc hb e)))).2.1
   cases ok with
   |false=>
    obtain⟨m',hm,w'⟩:=q9;exact⟨m',hm,again I9 w'⟩
   |true=>
    refine thn (hPE _ s9 σ8 H9 _ I9 q9) fun xv s10 ⟨y,H10,I10,r10,hD,hl,m',hm,w'⟩=>?_;refine thn (UI _ s10 σ8 H10 (.ref D) [y] (.ref D) [xv] (fun _ H11=>H11=upd H10 D (.lst (ys++[y]))) I10 rfl (.cons r10 .nil) ⟨D,ys,y,rfl,rfl,hD,hl,rfl⟩) fun _ s11 ⟨_,H11,I11,_,e11⟩=>?_;subst e11;exact⟨m',hm,again I11 w'⟩
 refine codeAny_compStart_list loop (T.self _ 0 _ _ _ st4 loop)
def Us{X:Cx}{N':List Str}{φ:List (Option Nat)}{sc:Scope}{elt iter tg:Expr}{ifs:List Expr}{pos:Pos}{wi:TI}{g:TG}{tc:TT}{te:TE}(hcalm:X.calm=true)(S:CompOk X N' φ sc)(hi:PI X tg iter wi)(hin:∀cl C s₃ H₃ ex,PG (Uc X N' sc cl C s₃ H₃ ex) tg g/\PIfs (Uc X N' sc cl C s₃ H₃ ex) ifs tc/\PE (Uc X N' sc cl C s₃ H₃ ex) elt te)(hs:∀x,foldedSetIterable iter X.env x=pure x:=by intro _;rfl):PE X (.ListComp elt [⟨tg,iter,ifs,0⟩] sc pos) (Tf φ wi g tc te):=by
 intro pins s σ H Q I h;rw[eval_ListComp];refine Cf (use:=none) hcalm S hi hin hs I h fun D C H5 s6 q R hm c0 c1 c2 c3 c4 c5=>?_;obtain⟨m,hn⟩:=hm;exact⟨m,hn,fun h' sb=>⟨.ref D,H5,R.turned (it:=C) (t':=s6.toks) (fun b o hb e=>sb.extBut b o hb e) c0 c1 (.inr c2) c3 c4,rfl,q⟩⟩
def Kf{X:Cx}{N':List Str}{φ:List (Option Nat)}{sc:Scope}{elt iter tg:Expr}{ifs:List Expr}{pos spos py:Pos}{wi:TI}{g:TG}{tc:TT}{te:TE}{i:Nat}{y:Str}(hN:X.N.Nodup)(hy:X.N[i]?=some y)(hl:X.env.scope.names.lookup y=some .local)(hcalm:X.calm=true)(S:CompOk X N' φ sc)(hi:PI X tg iter wi)(hin:∀cl C s₃ H₃ ex,PG (Uc X N' sc cl C s₃ H₃ ex) tg g/\PIfs (Uc X N' sc cl C s₃ H₃ ex) ifs tc/\PE (Uc X N' sc cl C s₃ H₃ ex) elt te)(hs:∀x,foldedSetIterable iter X.env x=pure x:=by intro _;rfl)(hsw:swapsWith (.ListComp elt [⟨tg,iter,ifs,0⟩] sc pos) (some (.Name y py)) spos.line X.env=pure true:=by rfl) :
  PS X (.Assign [.Name y py] (.ListComp elt [⟨tg,iter,ifs,0⟩] sc pos) spos) (tAsg (Tf φ wi g tc te) (XH i)):=by
 intro pins s σ H D0 I h;rw[exec_Assign_Name_used _ _ _ _ hsw];refine ZY (wpAny_standAt (ZY ?_));show wpAny _ X.A (do let _ ←comprehension (.ListComp elt [⟨tg,iter,ifs,0⟩] sc pos) sc X.env _ (newList []) false (eval iter X.env) (some (assign (.Name y py) X.env))) _ _ s
 refine ZY (YU (Cf (use:=some (assign (.Name y py) X.env)) (QQ:=fun _ s'=>SP X pins D0 .next s') hcalm S hi hin hs I h fun D C H5 s6 q R hm c0 c1 c2 c3 c4 c5=>?_) (fun _ s' z=>Yb (Yb z)) fun _ _ e=>e);obtain⟨m,oC,es,ep,hoC,hdC,rC⟩:=hm
 have R2:Inv X (pins++[(C,oC)]) σ H5 s6:=R.pins_of fun p hp=>(Yz.mp hp).elim (fun z=>R.pin p (Y0 _ z)) fun z=>by
  rw[Yf.mp z];exact⟨hoC,c0,c1,c5,fun v e=>by rw[hdC]at e;cases e⟩
 show wpAny _ X.A (assign (.Name y py) X.env (.ref D)) _ _ _;refine wpAny_assign_Name (Kg R2 hN hy (.inl hl) (v:=.ref D) (u:=.ref D) rfl (fun s7 I7=>?_) (.inr hl));have hC7:=(I7.pin (C,oC) (Y0 _ (Y0 _ (Yf.mpr rfl)))).1;refine⟨m,⟨oC,es,ep,hC7,hdC,rC⟩,fun h' sb=>?_⟩;have I8:Inv X pins (σ.set i (some (.ref D))) H5 s7:=I7.unpinned;exact⟨_,H5,I8.turned (it:=C) (t':=s7.toks) (fun b o hb e=>sb.extBut b o hb e) c0 c1 (.inr c2) c3 c4,q⟩
def Ag(sc osc:Scope)(N N':List Str)(φ:List (Option Nat)):Bool:=
 sc.kind == .function&&osc.kind == .function&&(sc.names.all fun y=>y.2 != .cell&&(y.2 != .local || sc.names.lookup y.1==some .local)&&(y.2 != .free || osc.names.lookup y.1==some .cell)) &&
  φ.length==N'.length&&((N'.zip φ).all fun p=>match p.2 with|none=>true|some j=>N[j]? == some p.1&&sc.names.lookup p.1==some .free)
def CompOk.of {X:Cx}{N':List Str}{φ:List (Option Nat)}{sc:Scope} (h:Ag sc X.env.scope X.N N' φ=true):CompOk X N' φ sc:=by
 unfold Ag at h;simp only[YA,beq_iff_eq,WE,Qv,bne_iff_ne,ne_eq]at h;obtain⟨⟨⟨⟨h1,h2⟩,h3⟩,h4⟩,h5⟩:=h;refine⟨h1,h2,fun y hy=>(h3 y hy).1.1,fun y hy hl=>?_,fun y hy hf=>?_,h4,fun i x j hi hj=>?_⟩
 ·rcases(h3 y hy).1.2 with z|z
  ·exact absurd hl z
  ·exact z
 ·rcases(h3 y hy).2 with z|z
  ·exact absurd hf z
  ·exact z
 ·have hz:(N'.zip φ)[i]?=some (x,some j):=by rw[List.getElem?_zip_eq_some];exact⟨hi,hj⟩
  have:=h5 _ (Y4 hz)
  simpa using this
end Own
namespace SetR
open PySem PySem.Spec PyProof.Rows L2
def Ris(xs:Array Nat):Prop:=∀i j,i<j->j<xs.size->xs.getD i 0<xs.getD j 0
def FY{xs:Array Nat}{i a b:Nat}(h:i<xs.size):xs.getD i a=xs.getD i b:=by simp[Array.getD,h]
def MR{xs:Array Nat}(R:Ris xs)(j:Nat):∀(fuel lo hi:Nat),hi-lo<=fuel->lo<=hi->hi<=xs.size->(∀k,k<lo->xs.getD k 0<j)->(∀k,hi<=k->k<xs.size->j<=xs.getD k 0)->
  let r:=SetTable.below.go xs j fuel lo hi
  r<=xs.size/\(∀k,k<r->xs.getD k 0<j)/\∀k,r<=k->k<xs.size->j<=xs.getD k 0:=by
 intro fuel
 induction fuel with
 |zero=>
  intro lo hi h1 h2 h3 h4 h5;have e:lo=hi:=by omega
  subst e;exact⟨h3,h4,h5⟩
 |succ fuel ih=>
  intro lo hi h1 h2 h3 h4 h5;show(let r:=(if lo<hi then(if xs.getD ((lo+hi) / 2) j<j then SetTable.below.go xs j fuel ((lo+hi) / 2+1) hi else SetTable.below.go xs j fuel lo ((lo+hi) / 2))else lo);r<=xs.size/\(∀k,k<r->xs.getD k 0<j)/\∀k,r<=k->k<xs.size->j<=xs.getD k 0);by_cases hl:lo<hi
  ·rw[Yg hl];have hm:(lo+hi) / 2<xs.size:=by omega
   by_cases hc:xs.getD ((lo+hi) / 2) j<j
   ·rw[Yg hc];refine ih _ _ (by omega) (by omega) h3 (fun k hk=>?_) h5;rw[FY (b:=0) hm]at hc;by_cases e:k=(lo+hi) / 2
    ·rw[e];exact hc
    ·exact WU (R k _ (by omega) hm) hc
   ·rw[Ye hc];refine ih _ _ (by omega) (by omega) (by omega) h4 (fun k hk hk2=>?_);rw[FY (b:=0) hm]at hc;by_cases e:k=(lo+hi) / 2
    ·rw[e];omega
    ·have:=R _ k (show(lo+hi) / 2<k by omega) hk2
     omega
  ·rw[Ye hl];have e:lo=hi:=by omega
   subst e;exact⟨h3,h4,h5⟩
def Eo{xs:Array Nat}(R:Ris xs)(j:Nat):SetTable.below xs j<=xs.size/\(∀k,k<SetTable.below xs j->xs.getD k 0<j)/\∀k,SetTable.below xs j<=k->k<xs.size->j<=xs.getD k 0:=
 MR R j xs.size 0 xs.size (by omega) (by omega) (by omega) (fun k hk=>by omega) (fun k h1 h2=>by omega)
def GU{xs:Array Nat}(R:Ris xs){i:Nat}(hi:i<=xs.size){slot:Nat}(h1:∀k,k<i->xs.getD k 0<slot)(h2:∀k,i<=k->k<xs.size->slot<=xs.getD k 0):SetTable.below xs slot=i:=by
 obtain⟨a,b,c⟩:=Eo R slot;rcases Nat.lt_trichotomy (SetTable.below xs slot) i with h|h|h
 ·have:=c _ (Yi _) (by omega)
  have:=h1 _ h
  omega
 ·exact h
 ·have:=b i h
  have:=h2 i (Yi _) (by omega)
  omega
def Rise(xs:Array Nat):Prop:=xs.toList.Pairwise (· < ·)
def Rise.ris {xs:Array Nat} (h:Rise xs):Ris xs:=by
 intro i j hij hj;have hi:i<xs.size:=by omega
 have:=(YE.mp h) i j (by simpa using hi) (by simpa using hj) hij
 simpa [Array.getD,hi,hj]using this
def RE{xs:Array Nat}{j:Nat}(h:Rise xs)(hn:xs[SetTable.below xs j]?≠some j):Rise (SetTable.insertAt xs (SetTable.below xs j) j):=by
 obtain⟨a,b,c⟩:=Eo h.ris j;generalize SetTable.below xs j=p at *;unfold Rise;rw[SetTable.toList_insertAt];refine Wm.mpr ⟨h.sublist (Q4 _ _),YN.mpr ⟨fun y hy=>?_,h.sublist (List.drop_sublist _ _)⟩,fun x hx y hy=>?_⟩
 ·obtain⟨k,hk,e⟩:=List.mem_drop_iff_getElem.mp hy
  have hk':p+k<xs.size:=by
   simp only[YC]at hk;omega
  have h1:=c (p+k) (by omega) hk';have e':xs.getD (p+k) 0=y:=by simpa [Array.getD,hk']using e
  rw[e']at h1;rcases Nat.lt_or_ge j y with h2|h2
  ·exact h2
  ·have ey:y=j:=by omega
   exfalso;rcases Nat.eq_zero_or_pos k with rfl|hk0
   ·apply hn;rw[Wo (by omega)]
    have:xs[p]=y:=by simpa using e
    rw[this,ey]
   ·have h3:=h.ris p (p+k) (by omega) hk';have h4:=c p (Yi _) (by omega);omega
 ·have hx':x<j:=by
   obtain⟨k,hk,e⟩:=List.mem_take_iff_getElem.mp hx;have hk1:k<p:=by omega
   have hk2:k<xs.size:=by omega
   have:=b k hk1
   have e':xs.getD k 0=x:=by simpa [Array.getD,hk2]using e
   omega
  rcases Yo.mp hy with rfl|hy
  ·exact hx'
  ·obtain⟨k,hk,e⟩:=List.mem_drop_iff_getElem.mp hy
   have hk':p+k<xs.size:=by
    simp only[YC]at hk;omega
   have h1:=c (p+k) (by omega) hk';have e':xs.getD (p+k) 0=y:=by simpa [Array.getD,hk']using e
   omega
structure Tb (b:Bool) (t:SetTable):Prop where
 led:t.led=b
 dum:t.dummies=#[]
 ris:Rise t.place
def AC(j:Nat):SetTable.has #[] j=false:=by
 unfold SetTable.has;simp
def Tb.fresh (b:Bool):Tb b (.fresh 0 0 b):=⟨rfl,rfl,List.Pairwise.nil⟩
def Ga(n:Nat):Rise (Array.range n):=by
 unfold Rise;rw[Array.toList_range];exact List.pairwise_lt_range
def Tb.stand {b:Bool}{t:SetTable} (h:Tb b t) (n:Nat):Tb b (t.standIn n):=⟨h.led,rfl,Ga n⟩
def Tb.orStand {b:Bool}{t:SetTable} (h:Tb b t) (n:Nat):Tb b (t.orStandIn n):=by
 unfold SetTable.orStandIn;split
 ·exact h
 ·exact h.stand n
def Tb.plainOff {b:Bool}{t:SetTable} (h:Tb b t):Tb b {t with plain:=false}:=⟨h.led,h.dum,h.ris⟩
def Tb.put {b:Bool}{t:SetTable} (h:Tb b t) {j:Nat} (hn:t.place[SetTable.below t.place j]?≠some j):Tb b (t.put j).1:=by
 refine⟨h.led,?_,RE h.ris hn⟩;show(if SetTable.has t.dummies j=true then _ else t.dummies)=#[];rw[h.dum,AC];rfl
def GG{b:Bool}{t:SetTable}(h:Tb b t)(f:Nat->Int)(z:Int):∀(fuel:Nat) (p:SetTable.Probe) (j:Nat) (d:Option Nat),p.dummy=none->SetTable.probe.go t f z fuel p=some (.empty j d)->d=none/\t.place[SetTable.below t.place j]?≠some j:=by
 intro fuel
 induction fuel with
 |zero=>intro p j d _ e;cases e
 |succ fuel ih=>
  intro p j d hp e;unfold SetTable.probe.go at e
  have hadv:∀q:SetTable.Probe,q.dummy=none->(t.advance q).dummy=none:=fun q hq=>by
   unfold SetTable.advance;split
   ·exact hq
   ·exact hq
  cases es:t.slot p.j with
  |empty=>
   rw[es]at e;have e':=Yl e;injection e' with e1 e2;subst e1;refine⟨e2.symm.trans hp,fun hz=>?_⟩;unfold SetTable.slot at es
   dsimp only at es
   rw[hz]at es;simp at es
  |dummy=>
   exfalso;unfold SetTable.slot at es
   dsimp only at es
   split at es
   ·cases es
   ·rw[h.dum,AC]at es;simp at es
  |live i=>
   rw[es]at e
   dsimp only at e
   split at e
   ·cases e
   ·exact ih _ j d (hadv p hp) e
def Tb.layNew {b:Bool}{t:SetTable} (h:Tb b t) (es:Array (Int×Value)) (z:Int) (x:Value):Tb b (PySem.layNew t es z x).2.1:=by
 unfold PySem.layNew;split
 ·rename_i slot wasDummy e
  have hn:t.place[SetTable.below t.place slot]?≠some slot:=by
   unfold SetTable.freeSlot SetTable.probe at e;split at e
   ·rename_i j dummy e';obtain⟨h1,h2⟩:=GG h _ _ _ _ _ _ rfl e';subst h1
    have:=Yl e
    have hj:j=slot:=YS Prod.fst this;rw[←hj];exact h2
   ·cases e
  exact(h.put hn).orStand _
 ·exact h.stand _
def Hu(n:Nat)(f:Nat->Option Nat):((List.range n).filterMap fun j=>(f j).map (j,·)).Pairwise (fun a b=>a.1<b.1):=by
 refine List.Pairwise.filterMap _ ?_ List.pairwise_lt_range;intro a a' haa b hb b' hb';cases e:f a with
 |none=>rw[e]at hb;cases hb
 |some v=>
  cases e':f a' with
  |none=>rw[e']at hb';cases hb'
  |some v'=>
   rw[e]at hb;rw[e']at hb';cases hb
   cases hb'
   exact haa
def Tb.relayAll {b:Bool}{t:SetTable} (h:Tb b t) (es:Array (Int×Value)) (n:Nat):Tb b (PySem.relayAll t es n).2.1:=by
 unfold PySem.relayAll;split
 ·rename_i t' order e
  dsimp only
  split
  ·unfold SetTable.relaid SetTable.laid at e;cases e2:SetTable.layClean (SetTable.sizeAbove n-1) (es.map (·.1))with
   |none=>rw[e2]at e;cases e
   |some owner=>
    rw[e2]at e;have e':=YS Prod.fst (Yl e);subst e';refine⟨h.led,rfl,?_⟩;show(List.map (fun x:Nat×Nat=>x.fst) ((List.range (SetTable.sizeAbove n-1+1)).filterMap fun j=>(owner.getD j none).map (j,·))).toArray.toList.Pairwise (· < ·);rw[List.toList_toArray,YW];exact Hu _ _
  ·exact h.stand _
 ·exact h.stand _
def keyOf(e:Int×Value):Int:=match e.2 with
 | .int k _=>k
 |_=>0
def Ent(e:Int×Value):Prop:=∃(k:Int) (t:Tok),e=(hashInt k,.int k t)
section
variable (prog:Program) (w:World)
def U6(w:World):Bool:=w.params.followText "set-order"
structure SetAt (h:Heap) (a:Addr) (js:List Int) (es:Array (Int×Value)) (ep:Nat) (t:SetTable):Prop where
 obj:∃o,h.get? a=some o/\o.ExactSet/\o.data=.set es ep t
 ent:∀e∈es.toList,Ent e
 per:(es.toList.map keyOf).Perm js
 nod:js.Nodup
 few:es.size<scanBound
 fit:t.fits es.size=true
 tab:Tb (!U6 w) t
def SetB(h:Heap)(a:Addr)(js:List Int):Prop:=∃es ep t,SetAt w h a js es ep t
end
section
variable {prog:Program}{w:World}{A:Around}{E:Value->Shared->Prop}{s:Shared}
def Ent.elems {l:List (Int×Value)} (h:∀e∈l,Ent e):ElemsOf (intKind prog w) l:=fun e he=>by
 obtain⟨k,t,rfl⟩:=h e he;exact⟨⟨k,intKind_is _ _ _ _,rfl⟩,rfl⟩
def BQ{e:Int×Value}(h:Ent e)(k:Int):(intKind prog w).is k e.2=decide (k=keyOf e):=by
 obtain⟨k',t,rfl⟩:=h;show Value.isInt k (.int k' t)=decide (k=k');by_cases e:k=k'
 ·subst e;simp[Value.isInt]
 ·rw[Yv e];simp[Value.isInt];exact fun z=>e z.symm
def SetB.len {h:Heap}{a:Addr}{js:List Int}{es:Array (Int×Value)}{ep:Nat}{t:SetTable} (S:SetAt w h a js es ep t):es.size=js.length:=by
 have:=S.per.length_eq
 simpa using this
def SetB.at {h h':Heap}{a:Addr}{js:List Int} (S:SetB w h a js) (k:∀o,h.get? a=some o->h'.get? a=some o):SetB w h' a js:=by
 obtain⟨es,ep,t,⟨o,ho,r⟩,b,c,d,e,f,g⟩:=S;exact⟨es,ep,t,⟨o,k o ho,r⟩,b,c,d,e,f,g⟩
def SetAt.store {h:Heap}{a:Addr}{js js':List Int}{es es':Array (Int×Value)}{ep:Nat}{t t':SetTable} (S:SetAt w h a js es ep t) (h1:∀e∈es'.toList,Ent e) (h2:(es'.toList.map keyOf).Perm js') (h3:js'.Nodup) (h4:es'.size<scanBound)
  (h5:t'.fits es'.size=true) (h6:Tb (!U6 w) t'):SetAt w (h.update a (Obj.putSet es' t')) a js' es' (ep+1) t':=by
 obtain⟨o,ho,hx,hd⟩:=S.obj;refine⟨⟨{o with data:=.set es' (ep+1) t'},?_,hx,rfl⟩,h1,h2,h3,h4,h5,h6⟩
 have q:=Wa (Obj.putSet es' t') ho (by rw[putSet_of es' t' hd];rfl);rwa[putSet_of es' t' hd]at q
def CL{g:Bool->Sem Unit}(hg:∀(b:Bool) (s':Shared) (R':Unit->Shared->Prop),R' () s'->wpAny (model prog w) A (g b) R' E s'){a:Addr}{js js':List Int}{es es':Array (Int×Value)}{ep:Nat}{t t':SetTable}(S:SetAt w s.heap a js es ep t)(h1:∀e∈es'.toList,Ent e)(h2:(es'.toList.map keyOf).Perm js')(h3:js'.Nodup)(h4:es'.size<scanBound)(h5:t'.fits es'.size=true)(h6:Tb (!U6 w) t'){d:Bool}{R:Option Bool->Shared->Prop}(fin:∀h',Heap.SameBut a s.heap h'->SetB w h' a js'->R (some true) {s with heap:=h'}) :
  wpAny (model prog w) A (do
    storeSet a es' t'
    if (!d&&t'.tooFull)=true then do
      g (relayAll t' es' (SetTable.grown es'.size)).2.2
      storeSet a (relayAll t' es' (SetTable.grown es'.size)).1 (relayAll t' es' (SetTable.grown es'.size)).2.1
      pure (some true)
     else pure (some true)) R E s:=by
 obtain⟨o,ho,hx,hd⟩:=S.obj;have S1:=S.store h1 h2 h3 h4 h5 h6;obtain⟨o1,ho1,hx1,hd1⟩:=S1.obj;have B1:=YM s.heap a (Obj.putSet es' t');refine ZY (wpAny_storeSet_of ho hd ?_ (Q5 h4));split
 ·have pp:=relayAll_perm t' es' (SetTable.grown es'.size);have ff:=relayAll_fits t' es' (SetTable.grown es'.size);have tt:=h6.relayAll es' (SetTable.grown es'.size);generalize relayAll t' es' (SetTable.grown es'.size)=y at pp ff tt ⊢;obtain⟨es2,t2,g2⟩:=y
  dsimp only at pp ff tt ⊢
  have z:es2.size=es'.size:=by rw[←YC,pp.length_eq,YC]
  refine ZY (hg _ _ _ (ZY (wpAny_storeSet_of ho1 hd1 ?_ (Q5 (by rw[z];exact h4)))));exact Yb (fin _ (B1.trans (YM _ a _)) ⟨_,_,_,S1.store (fun e he=>h1 e (pp.mem_iff.mp he)) ((pp.map keyOf).trans h2) h3 (by rw[z];exact h4) ff tt⟩)
 ·exact Yb (fin _ B1 ⟨_,_,_,S1⟩)
def addJ(js:List Int)(k:Int):List Int:=if k∈js then js else js++[k]
def HA{a:Addr}{js:List Int}{k:Int}{tk:Tok}{R:Bool->Shared->Prop}(S:SetB w s.heap a js)(room:js.length+1<scanBound)(fin:∀(r:Bool) h',Heap.SameBut a s.heap h'->SetB w h' a (addJ js k)->R r {s with heap:=h'}) :
  wpAny (model prog w) A (setAddHashed a (.int k tk) (hashInt k)) R E s:=by
 obtain⟨es,ep,t,S⟩:=S;obtain⟨o,ho,hx,hd⟩:=S.obj;have el:=Ent.elems (prog:=prog) (w:=w) S.ent;have hz:es.size=js.length:=SetB.len S;unfold setAddHashed setAddHashedIn;refine W7 (ZY (WO ho hd S.fit ?_))
 dsimp only
 rw[byScan_of (x:=.int k tk) rfl S.few el];simp only[↓reduceIte];unfold setAddByScan;refine ZY (ZY (wpAny_rule (ZY (wpAny_setScan_of (knd:=intKind prog w) (k:=k) (intKind_is _ _ _ _) ho hd S.fit el ?_))));have mem:∀z:Int,z∈js↔∃e∈es.toList,keyOf e=z:=fun z=>by rw[←S.per.mem_iff,Y7]
 cases q:List.findIdx? (fun e=>(intKind prog w).is k e.2) es.toList with
 |some j=>
  dsimp only
  obtain⟨hj,pj,_⟩:=List.findIdx?_eq_some_iff_getElem.mp q
  have hk:k∈js:=by
   rw[BQ (S.ent _ (Yr hj))]at pj;exact(mem k).mpr ⟨_,Yr hj,(Ys pj).symm⟩
  refine Yb (Yb ?_);have f:=fin false s.heap (Heap.SameBut.refl a s.heap);unfold addJ at f;rw[Yg hk]at f;exact f ⟨_,_,_,S⟩
 |none=>
  dsimp only
  have hk:¬k∈js:=fun hz=>by
   obtain⟨e,he,hke⟩:=(mem k).mp hz
   have:=List.findIdx?_eq_none_iff.mp q e he
   rw[BQ (S.ent e he),Yh hke.symm]at this;cases this
  have P:=layNew_perm t es (hashInt k) (.int k tk);have F:=layNew_fits t es (hashInt k) (.int k tk);have T:=S.tab.layNew es (hashInt k) (.int k tk);change wpAny (model prog w) A (match layNew t es (hashInt k) (.int k tk)with|(es,t,wasDummy,gave)=>_) _ _ _
  generalize layNew t es (hashInt k) (.int k tk)=y at P F T ⊢;obtain⟨es1,t1,d1,g1⟩:=y
  dsimp only at P F T ⊢
  rw[Array.toList_push]at P
  have e1:∀e∈es1.toList,Ent e:=fun e he=>by
   rcases Yz.mp (P.mem_iff.mp he)with he|he
   ·exact S.ent e he
   ·rw[Yf.mp he];exact⟨k,tk,rfl⟩
  have e2:(es1.toList.map keyOf).Perm (js++[k]):=by
   refine(P.map keyOf).trans ?_;rw[Yt];exact S.per.append_right _
  have e3:(js++[k]).Nodup:=Wc.mpr ⟨S.nod,by simp,fun x hx y hy=>by rw[Yf.mp hy];rintro rfl;exact hk hx⟩
  have e4:es1.size<scanBound:=by
   rw[←YC,P.length_eq,Yn,YC,hz];exact room
  have fin':∀h',Heap.SameBut a s.heap h'->SetB w h' a (js++[k])->R true {s with heap:=h'}:=fun h' sb q'=>by
   have f:=fin true h' sb;unfold addJ at f;rw[Ye hk]at f;exact f q'
  have gw:∀(b:Bool) {s':Shared} {R':Unit->Shared->Prop},R' () s'->wpAny (model prog w) A (match b with|true=>rule "set.scan.the-table-gave-way" |false=>pure ()) R' E s':=fun b s' R' r'=>by cases b<;>first|exact Yb r'|exact wpAny_rule r'
  refine ZY (gw _ ?_);split
  ·refine ZY ?_;rw[hashByValue_scannable 8 (x:=.int k tk) rfl];refine Yb (CL (fun b s' R' r'=>gw b r') S e1 e2 e3 e4 ?_ ?_ fun h' sb q'=>Yb (fin' h' sb q'))
   ·split
    ·exact F
    ·exact SetTable.fits_plain_off F
   ·split
    ·exact T
    ·exact T.plainOff
  ·refine ZY (Yb ?_);simp only[↓reduceIte];exact CL (fun b s' R' r'=>gw b r') S e1 e2 e3 e4 F T fun h' sb q'=>Yb (fin' h' sb q')
def IQ{R:Result->Shared->Prop}{I:Addr}{fp wr:List Addr}{P:Nat->Value->Prop}{St:Nat->Heap->Prop}{ns:List Int}(W:Walks prog w A.in1 I fp wr ns.length P St)(S:Addr)(hS:S∉fp)(hv:∀i v,P i v->∃t,v=.int (ns.getD i 0) t)(room:ns.length+1<scanBound):∀(k i:Nat) (s:Shared) (js:List Int),ns.length-i=k->i<=ns.length->St i s.heap->SetB w s.heap S js->js.length<=i->
   (∀h' tk,(∀b o,b∉S::wr->s.heap.get? b=some o->h'.get? b=some o)->SetB w h' S ((ns.drop i).foldl addJ js)->R (.ok (.ret .none)) {s with heap:=h',toks:=tk})->
   codeAny (model prog w) A (.builtin "set.update.loop" ⟨[.ref S,.ref I],[]⟩) R s:=by
 have hSw:S∉wr:=fun z=>hS (W.sub _ z);intro k
 induction k with
 |zero=>
  intro i s js hk hi st B hj fin;have ei:i=ns.length:=by omega
  refine Qc Qx ?_;rw[WS WI _];show wpAny _ A.in1 (pyNext (.ref I) >>= _) _ _ s;refine ZY (W.done s _ _ (ei▸st) fun h' tk keep=>?_);show wpAny _ A.in1 (ret Value.none) _ _ _;refine Yb (fin h' tk (fun b o hb e=>keep b o (fun z=>hb (Yu _ z)) e) ?_);rw[ei,List.drop_length];exact B.at fun o e=>keep S o hSw e
 |succ k ih=>
  intro i s js hk hi st B hj fin;have hlt:i<ns.length:=by omega
  refine Qc Qx ?_;rw[WS WI _];show wpAny _ A.in1 (pyNext (.ref I) >>= _) _ _ s;refine ZY (W.item i s _ _ hlt st fun v h1 tk1 pv st1 keep1=>?_);obtain⟨t,rfl⟩:=hv i v pv;have B1:SetB w h1 S js:=B.at fun o e=>keep1 S o hSw e;show wpAny _ A.in1 (holding [Value.int (ns.getD i 0) t] (setAdd S (.int (ns.getD i 0) t)) >>= _) _ _ _;unfold setAdd;refine ZY (W7 (W7 (ZY ((intKind prog w).pyHash (k:=ns.getD i 0) (intKind_is _ _ _ _) ?_))));refine HA (k:=ns.getD i 0) B1 (by omega) fun r h2 sb B2=>?_
  have el:(addJ js (ns.getD i 0)).length<=i+1:=by
   unfold addJ;split
   ·omega
   ·simp;omega
  refine Yb ⟨QG WI _,ih (i+1) _ _ (by omega) hlt (W.frame _ h1 _ st1 fun b hb o e=>?_) B2 el fun h' tk keep B'=>?_⟩
  ·rw[sb.2 b (fun z:b=S=>hS (by rw[←z];exact hb))];exact e
  ·refine fin h' tk (fun b o hb e=>keep b o hb ?_) ?_
   ·rw[sb.2 b (fun z:b=S=>hb (by rw[z];exact Yy))];exact keep1 b o (fun z=>hb (Yu _ z)) e
   ·have e1:ns.drop i=ns.getD i 0::ns.drop (i+1):=by
     rw[YX hlt,Yd,ZZ hlt];rfl
    rw[e1];exact B'
def Iw(a:Value){Q:Value->Shared->Prop}(fin:Q (.ref s.heap.objs.size) {s with heap:=s.heap.push {cls:=.type "set",dict:=none,data:=.set #[] 0 (.fresh 0 0 (!U6 w))}}) :
  codeAny (model prog w) A (.call (.builtin "set.__new__") ⟨[.type "set",a],[]⟩) (wants Q E) s:=by
 refine codeAny_of_tree (show wpAny _ A.in1 (do checkBuiltinCall "set.__new__" ⟨[.type "set",a],[]⟩;again (.builtin "set.__new__" ⟨[.type "set",a],[]⟩)) _ _ s from ?_)
 refine ZY (wpAny_of_eq (F.newCall_set_1 a) (Yb ⟨QG F.plain_set_new _,Qc F.entry_set_new ?_⟩));have und:=WS (A:=A) F.plain_set_new ⟨[.type "set",a],[]⟩;rw[und];unfold Builtin.«set.__new__» Builtin.Frozenset.newClass;have q1:=sub_set_self;obtain⟨hh,gg,dd,tt,oo⟩:=s
 dsimp only
 wp_walk
 refine wpAny_askSetting (Yb (show wpAny _ _ _ _ _ _ from ?_))
 dsimp only
 simp only[newObj];exact ZY (wpAny_alloc (Yb (Yb fin)))
set_option maxHeartbeats 4000000 in
def Rt{l:Addr}{its:Array Value}{ns:List Int}{Q:Value->Shared->Prop}(hh:A.handled=none)(hl:s.heap.IsList l its)(hi:IntsAre its.toList ns)(room:ns.length+1<scanBound)(fin:∀(h':Heap) (tk:Nat),SetB w h' s.heap.objs.size (ns.foldl addJ [])->(∀b o,b<s.heap.objs.size->s.heap.get? b=some o->h'.get? b=some o)->Q (.ref s.heap.objs.size) {s with heap:=h',toks:=tk}) :
  wpAny (model prog w) A (call (.type "set") [.ref l]) Q E s:=by
 have hn:its.size=ns.length:=by have:=IntsAre.length hi;simpa using this
 obtain⟨mroC,mroT,mro⟩:=F.called_set.mro;have made:=F.called_set.made;have subs:=F.called_set.sub;refine wpAny_call (codeAny_of_tree (show wpAny _ _ (callAny (.type "set") _) _ _ _ from ?_))
 refine Yb ⟨Code.quiet_builtin _ (by decide +kernel),Qc F.entry_type_call ?_⟩;have wt:=Around.under_plain (A:=A) (weight_type_call_type "set" [.ref l] []) rfl;rw[wt];have nt:=F.called_set.notType;have cc:=F.called_set.canCreate;have tc:=F.typeCall_set_1 (.ref l)
 repeat (any_goals (first|assumption|wp_step))
 refine Ql (Iw (.ref l) (E:=E) (Q:=fun obj s1=>obj=.ref s.heap.objs.size/\s1={s with heap:=s.heap.push {cls:=.type "set",dict:=none,data:=.set #[] 0 (.fresh 0 0 (!U6 w))}}) ⟨rfl,rfl⟩) fun r s1 hr=>?_
 cases r with
 |error e=>exact hr
 |ok fl=>
  cases fl with
  |next=>exact hr.elim
  |brk=>exact hr.elim
  |cont=>exact hr.elim
  |ret obj=>
   obtain⟨rfl,rfl⟩:=hr;generalize eH:s.heap.push {cls:=.type "set",dict:=none,data:=.set #[] 0 (.fresh 0 0 (!U6 w))}=H1;have g1:H1.get? s.heap.objs.size=some {cls:=.type "set",dict:=none,data:=.set #[] 0 (.fresh 0 0 (!U6 w))}:=by rw[←eH];exact Ym _ rfl
   have hT:Shared.TypeIs {s with heap:=H1} (.ref s.heap.objs.size) "set":=⟨_,g1,rfl⟩
   have ini:=F.called_set.init.lookup;have inb:=F.called_set.init.bind (.ref s.heap.objs.size)
   repeat (any_goals (first|assumption|wp_step))
   refine Ql (codeAny_call_builtin (R:=wants (fun r s2=>r=.none/\∃h' tk,s2={s with heap:=h',toks:=tk}/\SetB w h' s.heap.objs.size (ns.foldl addJ [])/\(∀b o,b<s.heap.objs.size->s.heap.get? b=some o->h'.get? b=some o)) E)
    F.called_set.init.plain F.entry_set_init (check_set_init_1 hT ?_)) fun r2 s2 hr2=>?_
   ·obtain⟨ob,hob,hcl,nl,hdl⟩:=hl;obtain⟨c1,d1,dt1,sl1⟩:=ob;simp only at hcl hdl;subst hcl;subst hdl;have hob1:H1.get? l=some {cls:=.type "list",dict:=d1,data:=.seq its nl,slots:=sl1}:=by rw[←eH];exact Yc _ hob
    have sz1:H1.objs.size=s.heap.objs.size+1:=by rw[←eH,Q0]
    have no1:=F.sub_list_set;have no2:=F.sub_list_frozenset;have no3:(Value.type "list" == Value.type "dict")=false:=by decide
    have L1:H1.IsList l its:=⟨_,hob1,rfl,nl,rfl⟩;unfold Builtin.«set.__init__» noKeywords Builtin.Frozenset.updateFrom;generalize eP:pyIter=PI
    wp_walk
    subst eP;refine wpAny_pyIter_list L1 (ZY (wpAny_runValue ?_));have lt1:l<s.heap.objs.size:=Yk hob;have hd3:A.in1.in1.in1.handled=none:=by simp[hh]
    have ne1:l≠H1.objs.size:=by rw[sz1];exact Y6 (Q6 lt1)
    have no4:s.heap.objs.size∉[H1.objs.size,l]:=by
     rw[sz1];simp only[Yo,QI,or_false,not_or];exact⟨Y6 (Qr _),Vn lt1⟩
    have W0:=Walks.list (prog:=prog) (w:=w) hd3 H1.objs.size l ne1 its;rw[hn]at W0;refine IQ (ns:=ns) W0 s.heap.objs.size no4 (fun i v hv=>IntsAre.int_at hi i v (by rw[Wp];exact hv)) room (ns.length-0) 0 _ [] rfl (Wb _) ⟨⟨_,Ym _ rfl,rfl,rfl⟩,L1.push _⟩ ?_ (Wb _) fun h' tk keep B=>?_
    ·exact⟨#[],0,_,⟨_,Yc _ g1,⟨rfl,rfl,rfl⟩,rfl⟩,fun e he=>by simp at he,by simp,WD,by show(0:Nat)<4096;decide,rfl,Tb.fresh _⟩
    ·show wpAny _ _ _ _ _ _;refine Yb (show wpAny _ _ (ret Value.none) _ _ _ from Yb ⟨rfl,h',tk,rfl,B,fun b o hb e=>?_⟩)
     refine keep b o ?_ (Yc _ (by rw[←eH];exact Yc _ e));rw[sz1];simp only[Yo,QI,or_false,not_or];exact⟨Y6 hb,Y6 (Q6 hb)⟩
   ·cases r2 with
    |error e=>exact hr2
    |ok f2=>
     cases f2 with
     |next=>exact hr2.elim
     |brk=>exact hr2.elim
     |cont=>exact hr2.elim
     |ret r=>
      obtain⟨rfl,h',tk,rfl,B,keep⟩:=hr2
      repeat (any_goals (first|assumption|wp_step))
      exact fin _ _ B keep
end
def si_slot:Slot "set_iterator" "__next__" "set_iterator.__next__":=
 Slot.of (owner:="set_iterator") (n:="__next__") (by rw[typeLookup_type,builtinLookup_eq_fast];kernel_rfl) (by decide +kernel) (by decide +kernel) (by decide +kernel)
  (by first|exact Or.inl (by decide +kernel)|exact Or.inr (by decide +kernel)) (by rw[isSubtype_type];kernel_rfl)
def G6:entryFor table "set_iterator.__next__"=some Builtin.«set_iterator.__next__»:=entryFor_of_tree (by kernel_rfl)
def Ox(a:Value):argsOk "set_iterator.__next__" ⟨[a],[]⟩:=by unfold argsOk;kernel_rfl
def Ir:entryFor table "set.__iter__"=some Builtin.«frozenset.__iter__»:=entryFor_alias (id':="frozenset.__iter__") (by kernel_rfl) rfl (by decide +kernel) (by kernel_rfl)
def DX:Slot "set_iterator" "__iter__" "set_iterator.__iter__":=
 Slot.of (owner:="set_iterator") (n:="__iter__") (by rw[typeLookup_type,builtinLookup_eq_fast];kernel_rfl) (by decide +kernel) (by decide +kernel) (by decide +kernel)
  (by first|exact Or.inl (by decide +kernel)|exact Or.inr (by decide +kernel)) (by rw[isSubtype_type];kernel_rfl)
def IK:entryFor table "set_iterator.__iter__"=some Builtin.«dict_keyiterator.__iter__»:=entryFor_alias (id':="dict_keyiterator.__iter__") (by kernel_rfl) rfl (by decide +kernel) (by kernel_rfl)
def IZ(a:Value):argsOk "set_iterator.__iter__" ⟨[a],[]⟩:=by unfold argsOk;kernel_rfl
def SI(h:Heap)(I a:Addr)(first:Value)(i n ep:Nat):Prop:=∃o,h.get? I=some o/\o.cls=.type "set_iterator"/\o.data=.fields #[first,.int i 0,.ref a,.int n 0,.int ep 0]
section
variable {prog:Program}{w:World}{A:Around}{E:Value->Shared->Prop}{s:Shared}{I a:Addr}{first:Value}{i n ep:Nat}{js:List Int}{es:Array (Int×Value)}{t:SetTable}
def SI.typ (h:SI s.heap I a first i n ep):s.TypeIs (.ref I) "set_iterator":=let ⟨o,ho,hc,_⟩:=h;⟨o,ho,hc⟩
def SI.at {h h':Heap} (x:SI h I a first i n ep) (k:∀o,h.get? I=some o->h'.get? I=some o):SI h' I a first i n ep:=let ⟨o,ho,r⟩:=x;⟨o,k o ho,r⟩
def Kw(first:Value)(a I:Addr)(i ep:Int):Sem PySem.Fin:=
 match first with
 |Value.int slot _=>do
  match ←setNext a slot.toNat i.toNat ep.toNat with
  |some (x,next)=>
   setField (.ref I) 0 (rawInt next)
   setField (.ref I) 1 (rawInt (i+1))
   ret x
  |none=>
   setField (.ref I) 2 .none
   raiseNew (←newExc (.type "StopIteration") [])
 |_=>do
  let some places ←seqItems? first|unsupported "internal:set_iterator"
  match places[i.toNat]? with
  |some (.int place _)=>
   let x ←setNextDrawn a place.toNat ep.toNat
   setField (.ref I) 1 (rawInt (i+1))
   ret x
  |some _=>unsupported "internal:set_iterator"
  |none=>
   setField (.ref I) 0 (rawInt 0)
   setField (.ref I) 2 .none
   raiseNew (←newExc (.type "StopIteration") [])
def PN{Q:Option Value->Shared->Prop}(hit:SI s.heap I a first i es.size ep)(S:SetAt w s.heap a js es ep t)
  (body:wpAny (model prog w) A.in1 (Kw first a I i ep) (fun fin s'=>∃v,fin=.done (.ret v)/\Q (some v) s')
   (fun e s'=>wpAny (model prog w) A (isInstance e (.type "StopIteration")) (fun b s''=>b=true/\Q none s'') E s') s) :
  wpAny (model prog w) A (pyNext (.ref I)) Q E s:=by
 obtain⟨o,ho,hc,hd⟩:=id hit;obtain⟨ob,hob,hx,hdd⟩:=S.obj;unfold pyNext;refine ZY (wpAny_attempt (Q3 (name:=Str.ofString "__next__") hit.typ si_slot (WG si_slot hit.typ G6 ?_ (Ox _))));unfold Builtin.«set_iterator.__next__»;refine ZY (Yb (ZY (wpAny_fieldsOf ho hd ?_)));show wpAny _ _ (setEntries a >>= fun x=>if ((x.size:Int) != (es.size:Int))=true then _ else Kw first a I i ep) _ _ s
 refine ZY (wpAny_setEntries_of hob hdd S.fit ?_);rw[Ye (by simp)];refine YU body (fun fin s' h=>?_) fun e s' h=>?_
 ·obtain⟨v,e,q⟩:=h;exact⟨v,e,Yb q⟩
 ·refine ZY (YU h (fun b s'' h2=>?_) fun _ _ z=>z);obtain⟨rfl,q⟩:=h2;exact Yb q
def Au{Q:Option Value->Shared->Prop}{o:Obj}{vs:Array Value}(hh:A.handled=none)(ho:s.heap.get? I=some o)(hd:o.data=.fields vs)(h2:2<vs.size)(fin:∀h',Heap.ExtBut I s.heap h'->Q none {s with heap:=h'}){R:PySem.Fin->Shared->Prop} :
  wpAny (model prog w) A.in1 (do setField (.ref I) 2 .none;raiseNew (←newExc (.type "StopIteration") [])) R (fun e s'=>wpAny (model prog w) A (isInstance e (.type "StopIteration")) (fun b s''=>b=true/\Q none s'') E s') s:=by
 refine ZY (Wz ho hd h2 (ZY ?_));simp only[newExc,newTuple];refine ZY (YT ?_ (by size_fits));refine ZY (m:=firstArgMember _ _) (wpAny_of_eq (a:=Value.none) (by first|rfl|(simp only[firstArgMember];rfl)) (YT ?_ (by size_fits)))
 simp only[raiseNew];refine ZY (wpAny_handled ?_);have e1:A.in1.handled=none:=hh;rw[e1];refine ZY (Yb (wpAny_throw ?_));refine wpAny_isInstance (T:="StopIteration") (b:=true) ⟨_,Ym _ rfl,rfl⟩ isSubtype_stop ?_;exact⟨rfl,fin _ (((YM ..).extBut.push _).push _)⟩
def SI.step1 {o:Obj}{x:Value} (ho:s.heap.get? I=some o) (hc:o.cls=.type "set_iterator") (hd:o.data=.fields #[first,.int i 0,.ref a,.int n 0,.int ep 0]) :
  SI (s.heap.update I (Obj.mapFields (·.setIfInBounds 1 (rawInt ((i:Int)+1))))) I a first (i+1) n ep:=
 ⟨_,Wa _ ho (W1 (We hd _)),(Q7 ..).trans hc,by rw[We hd];simp[rawInt]⟩
def Tz{Q:Bool->Shared->Prop}(h:Q (U6 w) s):wpAny (model prog w) A setsByText Q E s:=by
 unfold setsByText;exact ZY (wpAny_askSetting (Yb h))
def Zai{Q:Option (Value×Nat)->Shared->Prop}{slot:Nat}(S:SetAt w s.heap a js es ep t)(hb:U6 w=true)(h:Q (((pickOrder (w.params.setOrder a ep) es)[i]?).map fun e=>(e.2,slot)) s) :
  wpAny (model prog w) A (setNext a slot i ep) Q E s:=by
 obtain⟨ob,hob,hx,hdd⟩:=S.obj;unfold setNext;refine ZY (WO hob hdd S.fit (ZY (Tz ?_)));rw[hb,Yg rfl]
 dsimp only
 rw[Ye (by simp)];refine ZY ?_;unfold setWalk;refine ZY (WO hob hdd S.fit (ZY (Tz ?_)));rw[hb,Yg rfl];exact ZY (wpAny_askSetting (Yb (Yb h)))
def OE{Q:Option (Value×Nat)->Shared->Prop}{slot:Nat}(S:SetAt w s.heap a js es ep t)(hb:U6 w=false)(hp:(!t.plain&&decide (es.size>1))=false)(h:Q (match es[SetTable.below t.place slot]?,t.place[SetTable.below t.place slot]? with|some (_,x),some j=>some (x,j+1)|_,_=>none) s):wpAny (model prog w) A (setNext a slot i ep) Q E s:=by
 obtain⟨ob,hob,hx,hdd⟩:=S.obj;unfold setNext;refine ZY (WO hob hdd S.fit (ZY (Tz ?_)));rw[hb,Ye (by decide)]
 dsimp only
 show wpAny _ _ (if (!t.plain&&decide (es.size>1))=true then _ else _) _ _ _;rw[hp,Ye (by decide)];refine ZY (?_:wpAny _ _ (if (!t.led && !es.isEmpty)=true then unsupported "set:maker-not-led" else pure ()) _ _ _);have hl:t.led=true:=by rw[S.tab.led,hb];rfl
 rw[hl,Ye (by simp)];exact Yb (Yb h)
def Mn{Q:Value->Shared->Prop}{p:Nat}{e:Int×Value}(S:SetAt w s.heap a js es ep t)(he:es[p]?=some e)(h:Q e.2 s):wpAny (model prog w) A (setNextDrawn a p ep) Q E s:=by
 obtain⟨ob,hob,hx,hdd⟩:=S.obj;unfold setNextDrawn;refine ZY (WO hob hdd S.fit ?_)
 dsimp only
 rw[Ye (by simp),he];exact Yb h
def L5{Q:Nat->Shared->Prop}{src:Source}{m:Nat}(hm:m≠0)(h:∀k d,k<m->Q k {s with drawn:=d}):wpAny (model prog w) A (choose src m) Q E s:=by
 intro Γ p hΓ;unfold choose;rw[Sem.wp_choose];exact⟨hm,h _ _ (Nat.mod_lt _ (Nat.pos_of_ne_zero hm))⟩
def TJ{α:Type}:∀(xs:List α) (k:Nat) (h:k<xs.length),(xs[k]::xs.eraseIdx k).Perm xs
 |x::r,0,_=>List.Perm.refl _
 |x::r,k+1,h=>by
  have hk:k<r.length:=by simpa using h
  have ih:=TJ r k hk;show(r[k]::x::r.eraseIdx k).Perm (x::r);exact(List.Perm.swap _ _ _).trans (List.Perm.cons _ ih)
def HY{α:Type}:∀(m:Nat) (xs:List α) (s:Shared) {Q:List α->Shared->Prop},xs.length=m->(∀ys d,ys.Perm xs->Q ys {s with drawn:=d})->wpAny (model prog w) A (drawOrder m xs) Q E s:=by
 intro m
 induction m with
 |zero=>
  intro xs s Q hl h;have e:xs=[]:=List.length_eq_zero_iff.mp hl;subst e;exact Yb (h [] s.drawn (List.Perm.refl _))
 |succ m ih=>
  intro xs s Q hl h;cases xs with
  |nil=>simp at hl
  |cons x r=>
   unfold drawOrder;refine ZY (L5 (by simp) fun k d hk=>?_);rw[ZZ hk];refine ZY (ih _ _ (by rw[Qs hk];simpa using hl) fun ys d2 hp=>Yb ?_);exact h _ d2 ((List.Perm.cons _ hp).trans (TJ _ _ hk))
def SetAt.keep {h h':Heap} (S:SetAt w h a js es ep t) (k:∀o,h.get? a=some o->h'.get? a=some o):SetAt w h' a js es ep t:=by
 obtain⟨⟨o,ho,r⟩,b,c,d,e,f,g⟩:=S;exact⟨⟨o,k o ho,r⟩,b,c,d,e,f,g⟩
def CQ{Q:Value->Shared->Prop}(hit:SI s.heap I a first i n ep)(h:Q (.ref I) s):wpAny (model prog w) A (pyIter (.ref I)) Q E s:=by
 refine wpAny_pyIter_slot hit.typ DX (WG DX hit.typ IK ?_ (IZ _));show wpAny _ _ (ret (.ref I)) _ _ s;exact Yb ⟨_,rfl, "set_iterator",_,hit.typ,si_slot.lookup,h⟩
def Cw(hh:A.handled=none)(I a:Addr)(hne:a≠I)(vs:List Value)(hl:vs.length=es.size)(sl:Nat->Nat)(nx:∀(A:Around) (E:Value->Shared->Prop) (s:Shared) (i:Nat) (Q:Option (Value×Nat)->Shared->Prop),i<=es.size->SetAt w s.heap a js es ep t->Q ((vs[i]?).map fun v=>(v,sl (i+1))) s->wpAny (model prog w) A (setNext a (sl i) i ep) Q E s) :
  Walks prog w A I [I,a] [I] es.size (fun i v=>vs[i]?=some v) (fun i h=>SI h I a (.int (sl i) 0) i es.size ep/\SetAt w h a js es ep t) where
 sub:=fun b hb=>by simp at hb;simp[hb]
 frame:=fun _ _ _ st k=>⟨st.1.at fun o e=>k I (by simp) o e,st.2.keep fun o e=>k a (by simp) o e⟩
 item:=fun i s Q E hi st fin=>by
  obtain⟨o,ho,hc,hd⟩:=id st.1;refine PN st.1 st.2 ?_;unfold Kw
  dsimp only
  rw[YF,YF,YF];refine ZY (nx _ _ s i _ (Qk hi) st.2 ?_);have hi2:i<vs.length:=by omega
  rw[ZZ hi2];show wpAny _ _ (do setField (.ref I) 0 (rawInt (sl (i+1)));setField (.ref I) 1 (rawInt ((i:Int)+1));ret vs[i]) _ _ s
  refine ZY (Wz ho hd (by simp) ?_);have g1:=Wa (Obj.mapFields (·.setIfInBounds 0 (rawInt (sl (i+1):Int)))) ho (W1 (We hd _));have d1:(Obj.mapFields (·.setIfInBounds 0 (rawInt (sl (i+1):Int))) o).data=.fields #[.int (sl (i+1)) 0,.int i 0,.ref a,.int es.size 0,.int ep 0]:=by rw[We hd];simp[rawInt]
  refine ZY (Wz g1 d1 (by simp) ?_);have sb:=(YM s.heap I (Obj.mapFields (·.setIfInBounds 0 (rawInt (sl (i+1):Int))))).trans (YM _ I (Obj.mapFields (·.setIfInBounds 1 (rawInt ((i:Int)+1)))));refine Yb ⟨_,rfl,fin vs[i] _ s.toks (ZZ hi2) ⟨?_,st.2.keep fun o e=>sb.extBut a o hne e⟩ fun b o hb e=>sb.extBut b o (fun z=>hb (by simp[z])) e⟩;exact SI.step1 (s:={s with heap:=_}) (x:=.none) g1 ((Q7 ..).trans hc) d1
 done:=fun s Q E st fin=>by
  obtain⟨o,ho,hc,hd⟩:=id st.1;refine PN st.1 st.2 ?_;unfold Kw
  dsimp only
  rw[YF,YF,YF];refine ZY (nx _ _ s es.size _ (Yi _) st.2 ?_);rw[Qm (by omega)];exact Au hh ho hd (by simp) fun h' eb=>fin h' s.toks fun b o hb e=>eb b o (fun z=>hb (by simp[z])) e
 self:=fun _ _ _ _ st fin=>CQ st.1 fin
def Zal(hh:A.handled=none)(I a T:Addr)(hne:a≠I)(hT:T≠I)(ps:List Nat)(hl:ps.length=es.size)(hps:∀p∈ps,p<es.size)(vs:List Value)(hvs:vs=ps.map fun p=>((es[p]?).map (·.2)).getD .none) :
  Walks prog w A I [I,a,T] [I] es.size (fun i v=>vs[i]?=some v) (fun i h=>SI h I a (.ref T) i es.size ep/\SetAt w h a js es ep t/\∃o,h.get? T=some o/\∃c,o.data=.seq (ps.map fun(p:Nat)=>rawInt p).toArray c) where
 sub:=fun b hb=>by simp at hb;simp[hb]
 frame:=fun _ _ _ st k=>⟨st.1.at fun o e=>k I (by simp) o e,st.2.1.keep fun o e=>k a (by simp) o e,let ⟨o,ho,c⟩:=st.2.2;⟨o,k T (by simp) o ho,c⟩⟩
 item:=fun i s Q E hi st fin=>by
  obtain⟨o,ho,hc,hd⟩:=id st.1;obtain⟨oT,hoT,c,hdT⟩:=st.2.2;refine PN st.1 st.2.1 ?_;unfold Kw
  dsimp only
  refine ZY (wpAny_seqItems hoT hdT ?_);have hi2:i<ps.length:=by omega
  have e1:(ps.map fun(p:Nat)=>rawInt p).toArray[(i:Int).toNat]?=some (.int ps[i] 0):=by
   rw[YF,List.getElem?_toArray,Yj,ZZ hi2];rfl
  have hp:=hps _ (Yr hi2)
  dsimp only
  rw[e1]
  dsimp only
  have e2:es[ps[i]]?=some es[ps[i]]:=Wo hp;have e3:vs[i]?=some (es[ps[i]]).2:=by rw[hvs,Yj,ZZ hi2];simp[hp]
  rw[YF,YF];refine ZY (Mn st.2.1 e2 (ZY (Wz ho hd (by simp) ?_)));have sb:=YM s.heap I (Obj.mapFields (·.setIfInBounds 1 (rawInt ((i:Int)+1))));exact Yb ⟨_,rfl,fin _ _ s.toks e3 ⟨SI.step1 (x:=.none) ho hc hd,st.2.1.keep fun o e=>sb.extBut a o hne e,oT,sb.extBut T oT hT hoT,c,hdT⟩ fun b o hb e=>sb.extBut b o (fun z=>hb (by simp[z])) e⟩
 done:=fun s Q E st fin=>by
  obtain⟨o,ho,hc,hd⟩:=id st.1;obtain⟨oT,hoT,c,hdT⟩:=st.2.2;refine PN st.1 st.2.1 ?_;unfold Kw
  dsimp only
  refine ZY (wpAny_seqItems hoT hdT ?_)
  have e1:(ps.map fun(p:Nat)=>rawInt p).toArray[(es.size:Int).toNat]?=none:=by
   rw[YF,List.getElem?_toArray,Yj,Qm (by omega)];rfl
  dsimp only
  rw[e1]
  dsimp only
  refine ZY (Wz ho hd (by simp) ?_);have g1:=Wa (Obj.mapFields (·.setIfInBounds 0 (rawInt 0))) ho (W1 (We hd _));have sb:=YM s.heap I (Obj.mapFields (·.setIfInBounds 0 (rawInt 0)));refine Au (s:={s with heap:=_}) hh g1 (We hd _) (by simp) fun h' eb=>fin h' s.toks fun b o hb e=>eb b o (fun z=>hb (by simp[z])) (sb.extBut b o (fun z=>hb (by simp[z])) e)
 self:=fun _ _ _ _ st fin=>CQ st.1 fin
def Me{α:Type}(nx:Nat->Nat):∀(m k:Nat) (left:List α) (out:Array α),left.length=m->(pickOrder.go nx m k left out).toList.Perm (out.toList++left):=by
 intro m
 induction m with
 |zero=>
  intro k left out hl;have e:left=[]:=List.length_eq_zero_iff.mp hl;subst e;show out.toList.Perm (out.toList++[]);rw[Wd]
 |succ m ih=>
  intro k left out hl;have hlt:nx k % left.length<left.length:=Nat.mod_lt _ (by omega);unfold pickOrder.go;rw[ZZ hlt]
  dsimp only
  refine(ih _ _ _ (by rw[Qs hlt];omega)).trans ?_;rw[Array.toList_push,Qh];exact(TJ left _ hlt).append_left _
def D5{α:Type}(nx:Nat->Nat)(xs:Array α):(pickOrder nx xs).toList.Perm xs.toList:=by
 have:=Me nx xs.size 0 xs.toList #[] (by simp)
 simpa [pickOrder]using this
def slotAt(t:SetTable)(i:Nat):Nat:=if i=0 then 0 else t.place.getD (i-1) 0+1
def DT{m:Nat}(h:t.fits m=true):t.place.size=m:=by
 simp only[SetTable.fits,YA,beq_iff_eq]at h;exact h.1
def Rw(S:SetAt w s.heap a js es ep t){i:Nat}(hi:i<=es.size):SetTable.below t.place (slotAt t i)=i:=by
 have hz:=DT S.fit;have R:=S.tab.ris.ris;refine GU R (by omega) (fun k hk=>?_) fun k h1 h2=>?_
 ·unfold slotAt;rw[Ye (by omega)];by_cases e:k=i-1
  ·rw[e];omega
  ·have:=R k (i-1) (by omega) (by omega)
   omega
 ·unfold slotAt;by_cases h0:i=0
  ·rw[Yg h0];omega
  ·rw[Ye h0]
   have:=R (i-1) k (by omega) h2
   omega
def Za4{Q:Value->Shared->Prop}{A':Around}(hh:A'.handled=none)(S:SetAt w s.heap a js es ep t)
  (fin:∀(I:Addr) (fp:List Addr) (vs:List Value) (St:Nat->Heap->Prop) (h1:Heap) (d1:Drawn),Walks prog w A' I fp [I] es.size (fun i v=>vs[i]?=some v) St->St 0 h1->(∀b∈fp,b=a\/s.heap.get? b=none)->vs.length=es.size->vs.Perm (es.toList.map (·.2))->
   s.heap.get? I=none->(∀b o,s.heap.get? b=some o->h1.get? b=some o)->Q (.ref I) {s with heap:=h1,drawn:=d1}) :
  wpAny (model prog w) A (pyIter (.ref a)) Q E s:=by
 obtain⟨ob,hob,hx,hdd⟩:=S.obj;have hT:s.TypeIs (.ref a) "set":=⟨ob,hob,hx.1⟩;have ha:a<s.heap.objs.size:=Yk hob
 have new:∀b,s.heap.objs.size<=b->s.heap.get? b=none:=fun b hb=>by
  cases e:s.heap.get? b with
  |none=>rfl
  |some o=>exact absurd (Yk e) (QW.mpr hb)
 refine wpAny_pyIter_slot hT F.slot_set_iter (WG F.slot_set_iter hT Ir ?_ (F.args_set_iter_1 _));unfold Builtin.«frozenset.__iter__»;show wpAny _ _ (Builtin.Frozenset.sizeOf a >>= _) _ _ s;unfold Builtin.Frozenset.sizeOf;refine ZY (ZY (wpAny_setEntries_of hob hdd S.fit (Yb ?_)));refine ZY ?_;unfold setDrawn;refine ZY (WO hob hdd S.fit (ZY (Tz (Yb ?_))))
 dsimp only
 change wpAny _ _ (if (!U6 w&&(!t.plain&&decide (es.size>1)))=true then _ else _) _ _ _;cases hd:(!U6 w&&(!t.plain&&decide (es.size>1)))with
 |false=>
  rw[Ye (by decide)];refine ZY (Yb (ZY (wpAny_setEpoch_of hob hdd S.fit (ZY (YT (Yb ⟨_,rfl, "set_iterator",_,⟨_,Ym _ rfl,rfl⟩,si_slot.lookup,?_⟩))))));have hne:a≠s.heap.objs.size:=Y6 ha;have S1:SetAt w (s.heap.push {cls:=.type "set_iterator",data:=.fields [rawInt 0,rawInt 0,.ref a,rawInt es.size,rawInt ep].toArray}) a js es ep t:=S.keep fun o e=>Yc _ e
  have lt:∀b∈[s.heap.objs.size,a],b=a\/s.heap.get? b=none:=fun b hb=>by
   rcases Yo.mp hb with rfl|hb
   ·exact .inr (new _ (Yi _))
   ·exact .inl (Yf.mp hb)
  cases hb:U6 w with
  |true=>
   have hl:((pickOrder (w.params.setOrder a ep) es).toList.map (·.2)).length=es.size:=by
    rw[Ya,(D5 _ _).length_eq];simp
   refine fin _ _ _ _ _ s.drawn (Cw (t:=t) (js:=js) (ep:=ep) hh s.heap.objs.size a hne ((pickOrder (w.params.setOrder a ep) es).toList.map (·.2)) hl (fun _=>0) fun A E s i Q hi S' q=>Zai S' hb ?_) ⟨⟨_,Ym _ rfl,rfl,rfl⟩,S1⟩ lt hl ((D5 _ _).map _) (new _ (Yi _)) fun b o e=>Yc _ e;rw[Yj]at q;rw[←Wp];cases e:(pickOrder (w.params.setOrder a ep) es).toList[i]? with
   |none=>rw[e]at q;exact q
   |some x=>rw[e]at q;exact q
  |false=>
   have hp:(!t.plain&&decide (es.size>1))=false:=by rw[hb]at hd;simpa using hd
   refine fin _ _ _ _ _ s.drawn (Cw (t:=t) (js:=js) (ep:=ep) hh s.heap.objs.size a hne (es.toList.map (·.2)) (by simp) (slotAt t) fun A E s i Q hi S' q=>OE S' hb hp ?_) ⟨⟨_,Ym _ rfl,rfl,rfl⟩,S1⟩ lt (by simp) (List.Perm.refl _) (new _ (Yi _)) fun b o e=>Yc _ e;rw[Rw S' hi];have hz:=DT S'.fit;rw[Yj]at q;by_cases hlt:i<es.size
   ·have e1:es[i]?=some es[i]:=Wo hlt;have e2:t.place[i]?=some t.place[i]:=Wo (by omega);have e3:es.toList[i]?=some es[i]:=by rw[Wp];exact e1
    rw[e3]at q;rw[e1,e2]
    have e4:slotAt t (i+1)=t.place[i]+1:=by
     unfold slotAt;rw[Ye (by omega)]
     have:i<t.place.size:=by omega
     simp[Array.getD,this]
    have q':Q (some (es[i].2,slotAt t (i+1))) s:=q;rw[e4]at q';exact q'
   ·have e1:es[i]?=none:=QD (by omega);have e3:es.toList[i]?=none:=by rw[Wp];exact e1
    rw[e3]at q;rw[e1];exact q
 |true=>
  rw[Yg rfl];refine ZY (HY _ _ s (by simp) fun ps d hp=>?_);have hl:ps.length=es.size:=by rw[hp.length_eq];simp
  have hps:∀p∈ps,p<es.size:=fun p hm=>Wj.mp (hp.mem_iff.mp hm);refine ZY (YT ?_ (by show(ps.map fun(i:Nat)=>rawInt i).toArray.size<=sizeLine;rw[Yp,Ya,hl];exact Q5 S.few));have hob1:=Yc {cls:=.type "tuple",data:=.seq (ps.map fun(i:Nat)=>rawInt i).toArray} hob;refine ZY (wpAny_setEpoch_of hob1 hdd S.fit (ZY (YT (Yb ⟨_,rfl, "set_iterator",_,⟨_,Ym _ rfl,rfl⟩,si_slot.lookup,?_⟩))));have zT:(s.heap.push {cls:=.type "tuple",data:=.seq (ps.map fun(i:Nat)=>rawInt i).toArray}).objs.size=s.heap.objs.size+1:=Q0 ..
  have eq1:(List.range es.size).map (fun p=>((es[p]?).map (·.2)).getD Value.none)=es.toList.map (·.2):=by
   apply Vi;intro k;by_cases hk:k<es.size
   ·simp[hk]
   ·have:es.size<=k:=by omega
    simp[this]
  refine fin _ _ _ _ _ d (Zal (t:=t) (js:=js) (ep:=ep) hh _ a s.heap.objs.size ?_ ?_ ps hl hps _ rfl) ⟨⟨_,Ym _ rfl,rfl,rfl⟩,S.keep fun o e=>Yc _ (Yc _ e),_,Yc _ (Ym _ rfl),0,rfl⟩ (fun b hb=>?_) (by rw[Ya];exact hl) ?_ (new _ ?_) fun b o e=>Yc _ (Yc _ e)
  ·show a≠_;rw[zT];exact Y6 (Q6 ha)
  ·show s.heap.objs.size≠_;rw[zT];exact Y6 (Qr _)
  ·rcases Yo.mp hb with rfl|hb
   ·refine .inr (new _ ?_);show s.heap.objs.size<=_;rw[zT];exact QA _
   ·rcases Yo.mp hb with rfl|hb
    ·exact .inl rfl
    ·rw[Yf.mp hb];exact .inr (new _ (Yi _))
  ·rw[←eq1];exact hp.map _
  ·show s.heap.objs.size<=_;rw[zT];exact QA _
def RL{Q:Bool->Shared->Prop}(hT:s.TypeIs (.ref a) "set")(h:Q false s):wpAny (model prog w) A (Builtin.List.listLengthHint (.ref a)) Q E s:=by
 unfold Builtin.List.listLengthHint;refine ZY (wpAny_specialOf hT F.slot_set_len.lookup ?_);generalize eid:("set.__len__" : String)=z
 wp_delta
 have sp:splitId z=some ("set","__len__"):=by subst eid;decide +kernel
 rw[sp];subst eid;refine ZY (wpAny_isInstance (T:="set") (b:=true) hT (by rw[isSubtype_type];kernel_rfl) (wpAny_ite_split (fun z=>absurd z (by decide)) fun _=>?_));exact wpAny_ite_split (fun _=>ZY (wpAny_typeOf hT (Yb h))) fun z=>absurd (by decide +kernel) z
def OY{R:Result->Shared->Prop}(hh:A.handled=none)(S:SetAt w s.heap a js es ep t)(D:Addr)(c:Nat)(res:Value)(hD:s.heap.get? D=some {cls:=.type "list",data:=.seq #[] c})(hne:D≠a)(fin:∀(h':Heap) (tk:Nat) (d:Drawn) (vs:List Value) (c':Nat),vs.Perm (es.toList.map (·.2))->h'.get? D=some {cls:=.type "list",dict:=none,data:=.seq vs.toArray c',slots:=#[]}->(∀b o,b≠D->s.heap.get? b=some o->h'.get? b=some o)->R (.ok (.ret res)) {s with heap:=h',toks:=tk,drawn:=d}) :
  wpAny (model prog w) A.in1 (Builtin.List.listExtendWith (.ref D) (.ref a) res) (fun f s'=>match f with | .done f=>R (.ok f) s' | .again c'=>c'.quiet=true/\codeAny (model prog w) A c' R s') (fun e s'=>R (.error e) s') s:=by
 obtain⟨ob,hob,hx,hdd⟩:=S.obj;have hT:s.TypeIs (.ref a) "set":=⟨ob,hob,hx.1⟩;unfold Builtin.List.listExtendWith;refine ZY (wpAny_typeOf (T:="set") hT ?_);have n1:Builtin.List.listSameRef (.ref D) (.ref a)=false:=by simp[Builtin.List.listSameRef,hne]
 have n2:(Value.type "set" == Value.type "list")=false:=by decide
 have n3:(Value.type "set" == Value.type "tuple")=false:=by decide
 simp only[n1,n2,n3,Bool.or_false,W2,Qf];refine ZY (Za4 (A':=A.in1) hh S fun I fp vs St h1 d1 W st0 flt hl hp hI keep=>?_);have hDI:D≠I:=fun z=>by rw[←z,hD]at hI;cases hI
 have loop:∀(h:Heap) (tk c1:Nat),St 0 h->(∀b o,b≠D->s.heap.get? b=some o->h.get? b=some o)->h.get? D=some {cls:=.type "list",data:=.seq #[] c1}->D∉fp->
   codeAny (model prog w) A (.builtin "list.extend.loop" ⟨[.ref D,.ref I,res],[]⟩) R {s with heap:=h,toks:=tk,drawn:=d1}:=fun h tk c1 st hk hD1 hDf=>by
  refine codeAny_extend_loopS W.toS (Q5 S.few) D hDf res es.size 0 _ #[] c1 rfl (Wb _) st hD1 (ItemsOf.nil _) fun s' acc c' hm hD' hacc=>?_
  have ev:acc.toList=vs:=by
   apply Vi;intro k;by_cases hk2:k<acc.size
   ·have e1:acc[k]?=some acc[k]:=Wo hk2;rw[Wp,e1];exact(hacc.2 k _ e1).symm
   ·rw[Wp,QD (by omega),Qm (by have:=hacc.1;omega)]
  have e2:acc=vs.toArray:=by rw[←ev]
  rw[e2]at hD';rw[Moved.eq_with hm];refine fin s'.heap s'.toks d1 vs c' hp hD' fun b o hb e=>hm.heap b o (fun hmem=>?_) (hk b o hb e);rcases Yo.mp hmem with z|z
  ·exact hb z
  ·rw[Yf.mp z,hI]at e;cases e
 have hDf:D∉fp:=fun hm=>by
  rcases flt D hm with z|z
  ·exact hne z
  ·rw[hD]at z;cases z
 have hT1:Shared.TypeIs {s with heap:=h1,drawn:=d1} (.ref a) "set":=⟨ob,keep _ _ hob,hx.1⟩
 refine ZY (W7 (RL hT1 ?_));have hD1:=keep _ _ hD;refine wpAny_ite_split (fun _=>?_) fun _=>Yb ⟨QG F.plain_extend_loop _,loop _ _ c st0 (fun b o _ e=>keep b o e) hD1 hDf⟩;refine ZY (wpAny_rule (ZY (?_:wpAny _ _ (updateSeq D (·.push .none) >>= fun _=>updateSeq D (·.pop)) _ _ _)));refine ZY (wpAny_updateSeq hD1 rfl ?_);have hD2:=Wa (Obj.mapSeq (·.push Value.none)) hD1 rfl;refine wpAny_updateSeq (hz:=by seq_fits) hD2 rfl ?_;have hD3:=Wa (Obj.mapSeq (·.pop)) hD2 rfl
 have oth:∀b o,b≠D->h1.get? b=some o->((h1.update D (Obj.mapSeq (·.push Value.none))).update D (Obj.mapSeq (·.pop))).get? b=some o:=fun b o hb e=>
  (Wf _ _ (Ne.symm hb)).trans ((Wf _ _ (Ne.symm hb)).trans e)
 exact Yb ⟨QG F.plain_extend_loop _,loop _ _ _ (W.frame 0 _ _ st0 fun b hb o e=>oth b o (fun z=>hDf (z▸hb)) e) (fun b o hb e=>oth b o hb (keep b o e)) hD3 hDf⟩
def MM{R:List Value->Shared->Prop}(hh:A.handled=none)(S:SetAt w s.heap a js es ep t)(fin:∀(h':Heap) (tk:Nat) (d:Drawn) (vs:List Value),vs.Perm (es.toList.map (·.2))->(∀b o,s.heap.get? b=some o->h'.get? b=some o)->s.heap.objs.size<h'.objs.size->R vs {s with heap:=h',toks:=tk,drawn:=d}) :
  wpAny (model prog w) A (collect (.ref a)) R E s:=by
 obtain⟨ob,hob,hx,hdd⟩:=S.obj;have hne:s.heap.objs.size≠a:=Vn (Yk hob);unfold collect;refine ZY (wpAny_runValue (Qc entry_proto_collect' ?_));have u1:=WS (A:=A) PySem.F.plain_proto_collect ⟨[.ref a],[]⟩;rw[u1];refine(show wpAny _ A.in1 (newList [] >>= fun l=>again (.builtin "list.__iadd__" ⟨[l,.ref a],[]⟩)) _ _ s from ZY (YT (Yb ⟨QG PySem.F.plain_list_iadd _,Qc entry_list_iadd' ?_⟩)))
 have u2:=WS (A:=A) PySem.F.plain_list_iadd ⟨[.ref s.heap.objs.size,.ref a],[]⟩;rw[u2];have g1:(s.heap.push {cls:=.type "list",data:=.seq ([]:List Value).toArray}).get? s.heap.objs.size=some {cls:=.type "list",data:=.seq #[]}:=Ym _ rfl;show wpAny _ A.in1 (Builtin.List.listExtendWith (.ref s.heap.objs.size) (.ref a) (.ref s.heap.objs.size)) _ _ _
 have key:=OY (prog:=prog) (A:=A) (s:={s with heap:=s.heap.push {cls:=.type "list",data:=.seq ([]:List Value).toArray}})
  (R:=fun q s'=>∃h' tk d vs c',q=.ok (.ret (.ref s.heap.objs.size))/\s'={s with heap:=h',toks:=tk,drawn:=d}/\vs.Perm (es.toList.map (·.2))/\(∀b o,s.heap.get? b=some o->h'.get? b=some o)/\
   h'.get? s.heap.objs.size=some {cls:=.type "list",dict:=none,data:=.seq vs.toArray c',slots:=#[]}) hh (S.keep fun o e=>Yc _ e) s.heap.objs.size 0 (.ref s.heap.objs.size) g1 hne
  fun h' tk d vs c' hp hD hk=>⟨h',tk,d,vs,c',rfl,rfl,hp,fun b o e=>hk b o (Y6 (Yk e)) (Yc _ e),hD⟩
 refine YU key (fun f s' x=>?_) fun e s' x=>?_
 ·cases f with
  |done f=>
   obtain⟨h',tk,d,vs,c',e,rfl,hp,hk,hD⟩:=x;cases e
   refine(show wpAny _ A (load s.heap.objs.size >>= _) _ _ _ from ZY (wpAny_load hD (Yb ?_)))
   exact fin h' tk d vs hp hk (Yk hD)
  |again c1=>
   refine⟨x.1,Ql x.2 fun q s2 y=>?_⟩;obtain⟨h',tk,d,vs,c',rfl,rfl,hp,hk,hD⟩:=y;refine(show wpAny _ A (load s.heap.objs.size >>= _) _ _ _ from ZY (wpAny_load hD (Yb ?_)))
   exact fin h' tk d vs hp hk (Yk hD)
 ·obtain⟨_,_,_,_,_,e',_⟩:=x;cases e'
def AL:∀{l:List (Int×Value)},(∀e∈l,Ent e)->IntsAre (l.map (·.2)) (l.map keyOf)
 |[],_=>.nil
 |e::r,h=>by
  obtain⟨k,t,rfl⟩:=h e Yy;exact .cons k t (AL fun x hx=>h x (Yu _ hx))
def Oe{vs us:List Value}(p:vs.Perm us):∀{ns:List Int},IntsAre us ns->∃ms,IntsAre vs ms/\ms.Perm ns:=by
 induction p with
 |nil=>intro ns h;cases h;exact⟨[],.nil,List.Perm.refl _⟩
 |cons x _ ih=>
  intro ns h;cases h with
  |cons n t r=>
   obtain⟨ms,h1,h2⟩:=ih r;exact⟨n::ms,.cons n t h1,List.Perm.cons _ h2⟩
 |swap x y l=>
  intro ns h;cases h with
  |cons n t r=>
   cases r with
   |cons n' t' r'=>exact⟨n'::n::_,.cons n' t' (.cons n t r'),List.Perm.swap _ _ _⟩
 |trans _ _ ih1 ih2=>
  intro ns h;obtain⟨ms,h1,h2⟩:=ih2 h;obtain⟨ks,h3,h4⟩:=ih1 h1;exact⟨ks,h3,h4.trans h2⟩
def Hr{Q:Value->Shared->Prop}(hh:A.handled=none)(B:SetB w s.heap a js)(h64:js.length<64)
  (fin:∀(l:Addr) (h':Heap) (tk:Nat) (d:Drawn) (out:List Value) (ns:List Int) (e:Nat),IntsAre out ns->ns.Perm js->ns.Pairwise (·<=·)->s.heap.get? l=none->s.heap.objs.size<=l->h'.get? l=some {cls:=.type "list",data:=.seq out.toArray e}->
   (∀b o,s.heap.get? b=some o->h'.get? b=some o)->Q (.ref l) {s with heap:=h',toks:=tk,drawn:=d}) :
  wpAny (model prog w) A (call (.builtin "sorted") [.ref a]) Q E s:=by
 obtain⟨es,ep,t,S⟩:=B;refine Calls.call_function_entry kind_sorted plain_sorted entry_sorted (args_sorted1 _) ?_;unfold Builtin.«sorted»;refine ZY (m:=checkCount "sorted" 1 1 _) (Yb (ZY (MM (A:=A.in1) hh S fun h1 tk d vs hp keep big=>?_)));obtain⟨ms,hI,hms⟩:=Oe hp (AL S.ent);have hms2:ms.Perm js:=hms.trans S.per;have hl:vs.length<64:=by rw[IntsAre.length hI,hms2.length_eq];exact h64
 refine ZY (wpAny_newList ?_ (by have:(64:Nat)<=sizeLine:=(by decide);omega));have g1:(h1.push (seqObj "list" vs.toArray 0)).get? h1.objs.size=some (seqObj "list" vs.toArray 0):=Ym _ rfl;refine ZY (W7 (WG slot_list_sort ⟨_,g1,rfl⟩ entry_list_sort (list_sort_tree g1 hI hl fun out ns a1 a2 a3=>⟨_,rfl,?_⟩) (args_list_sort _)));obtain⟨e,he⟩:=sortedHeap_at (out:=out) g1;have hsz:s.heap.objs.size<=h1.objs.size:=Qk big;refine Yb ⟨_,rfl,fin h1.objs.size _ tk d out.toList ns e a1 (a2.trans hms2) a3 ?_ hsz (by simpa [seqObj]using he) fun b o q=>?_⟩
 ·cases q:s.heap.get? h1.objs.size with
  |none=>rfl
  |some o=>exact absurd (Yk (keep _ _ q)) (Ws _)
 ·have hlt:=Yk (keep b o q);rw[sortedHeap_old (Y6 hlt) (by rw[size_push'];exact Q6 hlt)];exact Yc _ (keep b o q)
end
end SetR
namespace Own
open PySem PySem.Spec PyProof.Rows L2
def SetH(w:World)(l:Addr)(js:List Int):HO:=.ext fun h=>SetR.SetB w h l js
section
variable {X:Cx}
def Ic{P:Program}{w:World}{H:Hp}{h:Heap}{l:Addr}{js:List Int}(B:SetR.SetB w h l js):ObjOk P w H h l (SetH w l js):=by
 refine⟨B,?_,fun h1 h2 B1 k=>B1.at k⟩;obtain⟨es,ep,t,S⟩:=B;obtain⟨o,ho,_⟩:=S.obj;exact⟨o,ho⟩
def RC(hc:X.calm=true):Ug X (.type "set") (fun xs H Q=>∃(p:Addr) (ns:List Int),xs=[.ref p]/\SqL X.K H p (ns.map V.int)/\ns.length+1<4096/\∀l,H l=none->Q (.ref l) (upd H l (SetH X.w l (ns.foldl SetR.addJ [])))):=by
 intro pins s σ H xs us Q I rv h;obtain⟨p,ns,rfl,hS,hz,q⟩:=h;obtain⟨u,rfl,ru⟩:=rv.one;obtain rfl:u=Value.ref p:=ru;obtain⟨its,r,pl,_⟩:=I.list hS;refine SetR.Rt (I.ok.hd hc) pl.isList (by simpa using P8 r) hz fun h' tk B keep=>?_;have hf:H s.heap.objs.size=none:=I.hok.fresh (Yi _);exact⟨.ref s.heap.objs.size,upd H s.heap.objs.size (SetH X.w s.heap.objs.size _),I.laid (t':=tk) (fun b o e=>keep b o (Yk e) e) (Yi _) (Ic B),rfl,q _ hf⟩
def CW(hc:X.calm=true):Ug X (.builtin "sorted") (fun xs H Q=>∃(p:Addr) (js:List Int),xs=[.ref p]/\js.length<64/\(SqL X.K H p (js.map V.int)\/H p=some (SetH X.w p js))/\
  ∀(l:Addr) (ns:List Int),H l=none->ns.Perm js->ns.Pairwise (·<=·)->Q (.ref l) (upd H l (.lst (ns.map V.int)))):=by
 intro pins s σ H xs us Q I rv h;obtain⟨p,js,rfl,hz,hS,q⟩:=h;obtain⟨u,rfl,ru⟩:=rv.one;obtain rfl:u=Value.ref p:=ru
 have big:∀{ns:List Int},ns.Perm js->(ns.map V.int).length<=sizeLine:=fun hp=>by
  rw[Ya,hp.length_eq]
  have:(64:Nat)<=sizeLine:=by decide
  omega
 rcases hS with hS|hS
 ·obtain⟨its,r,pl,_⟩:=I.list hS;have hI:IntsAre its js:=by simpa using P8 r
  refine sorted_ints pl.isList hI (by rw[IntsAre.length hI];exact hz) fun out ns a1 a2 a3=>?_;obtain⟨e,he⟩:=sortedAll_at s.heap its out;have hf:H (s.heap.objs.size+1)=none:=I.hok.fresh (QA _);refine⟨.ref (s.heap.objs.size+1),upd H (s.heap.objs.size+1) (.lst (ns.map V.int)),I.laid (t':=s.toks) (fun b o e=>sortedAll_old e) (QA _) ⟨big a2,out.toList,e,TH a1,?_⟩,rfl,q _ ns hf a2 a3⟩;simpa [seqObj]using he
 ·have B:SetR.SetB X.w s.heap p js:=(show ObjOk X.prog X.w H s.heap p (SetH X.w p js)from I.hok p _ hS).1
  refine SetR.Hr (I.ok.hd hc) B hz fun l h' tk d out ns e a1 a2 a3 nl hl he keep=>?_;have hf:H l=none:=I.hok.fresh hl;refine⟨.ref l,upd H l (.lst (ns.map V.int)),?_,rfl,q l ns hf a2 a3⟩;have ok:HOk X.prog X.w (upd H l (.lst (ns.map V.int))) h':=I.hok.laid keep hl ⟨big a2,out,e,TH a1,he⟩;exact I.call (ch:=[]) (h':=h') (g':=s.gens) (d':=d) (t':=tk) (Un.laid keep hl hf) ok I.bare (fun b z=>absurd z (by simp))
end
section
variable {X:Cx}{K:Za}
def Gf(hK:X.K=K:=by rfl):IxR X (fun x y H Q=>rIxL K x y H Q\/rIxT K x y H Q):=by subst hK;exact S8
def Ez(hK:X.K=K:=by rfl):Ug X (.builtin "len") (fun xs H Q=>∃x n,xs=[x]/\LenV K x H n/\Q (.int n) H):=by subst hK;exact SZ
def Zab(hK:X.K=K:=by rfl):OpR X (compareOp .In) (rIn K false):=by subst hK;exact RP
def Hz(hK:X.K=K:=by rfl):OpR X (compareOp .NotIn) (rIn K true):=by subst hK;exact RV
def Xq{pos:Pos}{es:List Expr}{k:Nat}{t:TGs}{n:Nat}(hc:X.calm=true)(h:PGs X es t)(hK:X.K=K:=by rfl)(hn:(assignEach es X.env).length=n:=by rfl)(hst:(assignEach es X.env).findIdx? (·.1)=none:=by rfl):PG X (.Tuple es k pos) (gTup K n t):=by subst hK;exact Lb hc h hn hst
end
section
variable {α:Type}{R:Hp->V->α->Prop}{φ:List (Option Nat)}{g:TG}{tc:TT}{te:TE}{σ:L2.St}{H1:Hp}{F:Hp->Prop}{D:Addr}
def Oz{K:Za}{a:Addr}{xs:List V}{ds:List α}(f:α->Option V)(hS:SqL K H1 a xs)(hd:xs.length=ds.length)(hD:H1 D=none)(hz:ds.length<=sizeLine)(turn:∀(i:Nat) (x:V) (d:α) (H2:Hp),xs[i]?=some x->ds[i]?=some d->Same H1 H2->∀k:Option V->Hp->Prop,k (f d) H2->g x (atStart φ σ) H2 fun σ2 H4=>Sub (atStart φ σ) σ2/\tc σ2 H4 fun b H5=>if b=true then te σ2 H5 fun y H6=>k (some y) H6 else k none H5)(done:F (upd H1 D (.lst (ds.filterMap f)))) :
  ∃W:Nat->Nat->List V->Hp->Prop,(∃m,W 0 m [] (upd H1 D (.lst [])))/\
   ∀i m ys H2,W i m ys H2->((Itl K a).stop i H2/\F H2)\/((Itl K a).go i H2/\∀x H3,(Itl K a).yld i H2 x H3->g x (atStart φ σ) H3 fun σ2 H4=>Sub (atStart φ σ) σ2/\tc σ2 H4 fun b H5=>
    if b=true then te σ2 H5 fun y H6=>H6 D=some (.lst ys)/\ys.length<sizeLine/\∃m',m'<m/\W (i+1) m' (ys++[y]) (upd H6 D (.lst (ys++[y])))else ∃m',m'<m/\W (i+1) m' ys H5):=by
 refine⟨fun i m ys H2=>m=ds.length-i/\i<=ds.length/\ys=(ds.take i).filterMap f/\H2=upd H1 D (.lst ys),⟨ds.length,by simp,Wb _,by simp,rfl⟩,?_⟩;rintro i m ys H2 ⟨rfl,hi,rfl,rfl⟩;have S2:Same H1 (upd H1 D (.lst ((ds.take i).filterMap f))):=JT hD;by_cases hlt:i<ds.length
 ·refine .inr ⟨⟨xs,xs[i]'(by omega),S2.seq hS,by simp[hd,hlt]⟩,fun x H3 y=>?_⟩;obtain⟨e,y⟩:=y;subst e;have hx:=y xs (S2.seq hS);have ed:ds[i]?=some ds[i]:=ZZ hlt
  refine turn i x ds[i] _ hx ed S2 (fun o H'=>match o with
   |some y=>H' D=some (.lst ((ds.take i).filterMap f))/\((ds.take i).filterMap f).length<sizeLine/\∃m',m'<ds.length-i/\(m'=ds.length-(i+1)/\i+1<=ds.length/\(ds.take i).filterMap f++[y]=(ds.take (i+1)).filterMap f/\upd H' D (.lst ((ds.take i).filterMap f++[y]))=upd H1 D (.lst ((ds.take i).filterMap f++[y])))
   |none=>∃m',m'<ds.length-i/\(m'=ds.length-(i+1)/\i+1<=ds.length/\(ds.take i).filterMap f=(ds.take (i+1)).filterMap f/\H'=upd H1 D (.lst ((ds.take i).filterMap f)))) ?_
  have et:ds.take (i+1)=ds.take i++[ds[i]]:=Y1 hlt;cases ef:f ds[i]with
  |some y=>
   refine⟨J8,?_,ds.length-(i+1),by omega,rfl,hlt,?_,GY⟩
   ·have h1:=List.length_filterMap_le f (ds.take i);rw[YD]at h1;omega
   ·rw[et,Qn];simp[ef]
  |none=>
   refine⟨ds.length-(i+1),by omega,rfl,hlt,?_,rfl⟩;rw[et,Qn];simp[ef]
 ·have e:i=ds.length:=by omega
  subst e;refine .inl ⟨⟨xs,S2.seq hS,by omega⟩,?_⟩;rw[Wh];exact done
end
def eqL(xs ys:List V):Bool:=decide (xs.length=ys.length)&&(List.range xs.length).all fun j=>eqV (xs.getD j .non) (ys.getD j .non)
def rEqL(K:Za)(neg:Bool):R2:=fun x y H Q=>∃(p q:Addr) (xs ys:List V),x=.ref p/\y=.ref q/\SqL K H p xs/\SqL K H q ys/\xs.all U2=true/\ys.all U2=true/\Q (.bl (if neg then !eqL xs ys else eqL xs ys)) H
section
variable {X:Cx}
def Dc{A:Around}{s:Shared}{xs ys:List V}{us ws:List Value}(r1:Vals xs us)(r2:Vals ys ws)(f1:xs.all U2=true)(f2:ys.all U2=true)(j:Nat)(h1:j<us.toArray.size)(h2:j<ws.toArray.size) :
  SeqAt.EqAt A s us.toArray[j] ws.toArray[j] (eqV (xs.getD j .non) (ys.getD j .non)):=by
 have l1:=r1.length;have l2:=r2.length;have g1:j<us.length:=by simpa using h1
 have g2:j<ws.length:=by simpa using h2
 have k1:xs[j]?=some (xs[j]'(by omega)):=ZZ _;have k2:ys[j]?=some (ys[j]'(by omega)):=ZZ _;obtain⟨u,eu,ru⟩:=r1.get k1;obtain⟨w,ew,rw'⟩:=r2.get k2
 have e1:us.toArray[j]=u:=by
  have:us[j]?=some us[j]:=ZZ g1
  rw[this]at eu;simpa using Yl eu
 have e2:ws.toArray[j]=w:=by
  have:ws[j]?=some ws[j]:=ZZ g2
  rw[this]at ew;simpa using Yl ew
 have d1:xs.getD j .non=xs[j]'(by omega):=by rw[Yd,k1];rfl
 have d2:ys.getD j .non=ys[j]'(by omega):=by rw[Yd,k2];rfl
 rw[e1,e2,d1,d2];exact Eh ru rw' (WE.mp f1 _ (Yr _)) (WE.mp f2 _ (Yr _))
def HJ(hu:X.A.units<cLine):OpR X (compareOp .Eq) (rEqL X.K false):=by
 intro pins s σ H x y v u Q I rx ry h;obtain⟨p,q,xs,ys,rfl,rfl,hp,hq,f1,f2,k⟩:=h;obtain rfl:v=Value.ref p:=rx;obtain rfl:u=Value.ref q:=ry;obtain⟨us,r1,p1,_⟩:=I.list hp;obtain⟨ws,r2,p2,_⟩:=I.list hq;have l1:=r1.length;have l2:=r2.length;have k':Q (.bl (eqL xs ys)) H:=k;by_cases e:xs.length=ys.length
 ·refine SeqAt.eq_listAt p1.isList p2.isList (by simp;omega) hu (fun j h1 h2=>Dc r1 r2 f1 f2 j h1 h2) ⟨.bl (eqL xs ys),H,I,?_,k'⟩;show _=Value.bool (eqL xs ys);unfold eqL;rw[Yh e,Qt,Yp,←l1]
 ·refine SeqAt.eq_list_lengthsAt p1.isList p2.isList (by simp;omega) hu ⟨.bl (eqL xs ys),H,I,?_,k'⟩;show _=Value.bool (eqL xs ys);unfold eqL;rw[Yv e];rfl
def Ei(hu:X.A.units<cLine):OpR X (compareOp .NotEq) (rEqL X.K true):=by
 intro pins s σ H x y v u Q I rx ry h;obtain⟨p,q,xs,ys,rfl,rfl,hp,hq,f1,f2,k⟩:=h;obtain rfl:v=Value.ref p:=rx;obtain rfl:u=Value.ref q:=ry;obtain⟨us,r1,p1,_⟩:=I.list hp;obtain⟨ws,r2,p2,_⟩:=I.list hq;have l1:=r1.length;have l2:=r2.length;have k':Q (.bl (!eqL xs ys)) H:=k;by_cases e:xs.length=ys.length
 ·refine SeqAt.RcNeAt.lists p1.isList p2.isList (by simp;omega) hu (fun j h1 h2=>Dc r1 r2 f1 f2 j h1 h2) _ _ _ _ ⟨.bl (!eqL xs ys),H,I,?_,k'⟩;show _=Value.bool (!eqL xs ys);unfold eqL;rw[Yh e,Qt,Yp,←l1]
 ·refine SeqAt.RcNeAt.lists_lengths p1.isList p2.isList (by simp;omega) hu _ _ _ _ ⟨.bl (!eqL xs ys),H,I,?_,k'⟩;show _=Value.bool (!eqL xs ys);unfold eqL;rw[Yv e];rfl
def KO{xs:List Int}{us:List Value}(r:Vals (xs.map V.int) us)(z:Int):∀(j:Nat) (h1:j<us.length) (h2:j<xs.length),Value.isInt z us[j]=(xs[j]==z):=by
 intro j h1 h2;obtain⟨u,eu,t,rfl⟩:=r.get (x:=V.int xs[j]) (i:=j) (by rw[Yj,ZZ h2];rfl);rw[ZZ h1]at eu;rw[Yl eu];simp[Value.isInt]
def DW{xs:List Int}{us:List Value}(r:Vals (xs.map V.int) us)(z:Int)(t:Tok):∀y,y∈us.toArray->MeetsSeq.EqGives y (.int z t) (Value.isInt z y):=by
 intro y hy;obtain⟨j,hj,rfl⟩:=YJ.mp (by simpa using hy:y∈us);have l1:=r.length;rw[Ya]at l1;rw[KO r z j hj (by omega)];obtain⟨u,eu,t',rfl⟩:=r.get (x:=V.int (xs[j]'(by omega))) (i:=j) (by rw[Yj,ZZ (show j<xs.length by omega)];rfl);rw[ZZ hj]at eu;rw[Yl eu];exact MeetsSeq.EqGives.int _ _ _ _
def T3(K:Za):V->List V->Hp->VK->Prop:=fun x vs H Q=>∃(l:Addr) (xs:List Int) (z:Int),x=.ref l/\vs=[.int z]/\SqL K H l (xs.map V.int)/\z∈xs/\Q (.int (xs.idxOf z:Nat)) H
def R7:MtM X "list.index" (T3 X.K):=by
 intro pins s σ H x vs v us Q I rx rv h;obtain⟨l,xs,z,rfl,rfl,hS,hz,q⟩:=h;cases rx
 obtain⟨u,rfl,t,rfl⟩:=rv.one;obtain⟨its,r,p1,hsz⟩:=I.list hS;obtain⟨o,n,ho,hc,hdn,hd⟩:=p1;obtain⟨c1,d1,dt1,sl1⟩:=o;simp only at hc hdn hd;subst hc hdn hd;have l1:=r.length;rw[Ya]at l1;have hj:xs.idxOf z<xs.length:=YV.mpr hz;have hb:xs.length<=2 ^ 24:=by rw[Ya]at hsz;exact hsz
 refine call_meets W9 ⟨_,ho,rfl⟩ PySem.F.entry_list_index (PySem.F.args_list_index_2 _ _)
  (SeqAt.list_indexAt l its.toArray n none sl1 (.int z t) (Value.isInt z) (xs.idxOf z) (by simpa [←l1]using hj) (by omega) ?_ ?_) ⟨ho,fun y hy=>(DW r z t y hy).at _ _,⟨.int (xs.idxOf z:Nat),H,I.tok _,⟨_,rfl⟩,q⟩⟩
 ·have e:=KO r z (xs.idxOf z) (by omega) hj;show Value.isInt z its[xs.idxOf z]=true;rw[e];simpa using YO hj
 ·intro m hm hlt;have hm':m<its.length:=by simpa using hm
  have e:=KO r z m hm' (by omega);show Value.isInt z its[m]=false;rw[e]
  have:=List.not_of_lt_findIdx (p:=(· == z)) (xs:=xs) (i:=m) hlt
  simpa using this
def Ey{α β:Type}(f:α->β):∀(xs:List α) (k:Nat),(xs.eraseIdx k).map f=(xs.map f).eraseIdx k
 |[],_=>rfl
 |_::_,0=>rfl
 |x::r,k+1=>by
  show f x::(r.eraseIdx k).map f=f x::(r.map f).eraseIdx k;rw[Ey f r k]
def Li:V->List V->Hp->VK->Prop:=fun x vs H Q=>∃(l:Addr) (xs:List Int) (z:Int),x=.ref l/\vs=[.int z]/\H l=some (.lst (xs.map V.int))/\z∈xs/\Q .non (upd H l (.lst ((xs.eraseIdx (xs.idxOf z)).map V.int)))
def Za0:MtM X "list.remove" Li:=by
 intro pins s σ H x vs v us Q I rx rv h;obtain⟨l,xs,z,rfl,rfl,hH,hz,q⟩:=h;cases rx
 obtain⟨u,rfl,t,rfl⟩:=rv.one;obtain⟨hsz,its,n,r,hl,e⟩:=I.lstM hH;have l1:=r.length;rw[Ya]at l1;have hj:xs.idxOf z<xs.length:=YV.mpr hz
 refine call_meets PySem.F.slot_list_remove ⟨_,e,rfl⟩ PySem.F.entry_list_remove (PySem.F.args_list_remove_2 _ _)
  (MeetsSeq.list_remove l its.toArray n (.int z t) (Value.isInt z) (DW r z t) (xs.idxOf z) (by simpa [←l1]using hj) ?_ ?_ (by rw[Yp,←hl];exact hsz)) ⟨e,?_⟩
 ·have e:=KO r z (xs.idxOf z) (by omega) hj;show Value.isInt z its[xs.idxOf z]=true;rw[e];simpa using YO hj
 ·intro m hm hlt;have hm':m<its.length:=by simpa using hm
  have e:=KO r z m hm' (by omega);show Value.isInt z its[m]=false;rw[e]
  have:=List.not_of_lt_findIdx (p:=(· == z)) (xs:=xs) (i:=m) hlt
  simpa using this
 ·refine⟨.non,_,I.lset (its':=its.eraseIdx (xs.idxOf z)) hH e ?_ ?_ ?_,rfl,q⟩
  ·show its.toArray.eraseIdxIfInBounds (xs.idxOf z)=_;rw[List.eraseIdxIfInBounds_toArray]
  ·rw[Ey];exact r.eraseIdx _
  ·rw[Ya,List.length_eraseIdx];rw[Ya]at hsz;split<;>omega
end
section
variable {X:Cx}{K:Za}
def Tg(hK:X.K=K:=by rfl):MtM X "list.index" (T3 K):=by subst hK;exact R7
def PR{o e:Expr}{es:List Expr}{to:TE}{t:TA}{name:Str}{apos cpos:Pos}{T id:String}{r:V->List V->Hp->VK->Prop}(pa:PlainAttrs T)(slot:Slot T name id)(hty:typeOf (.builtin id)=pure (.type "method_descriptor"))(hm:MtM X id r)(ho:PE X o to)(ha:PA X (e::es) t)(hK:X.K=K:=by rfl)(hbase:attributeBase o name X.env (eval o X.env)=eval o X.env:=by rfl)
  (hfew:((backTo cpos (starEach (e::es) X.env)).all (fun x=>!x.1)&&(backToKw cpos (keywordEach [] X.env)).all (fun x=>x.1.isSome)
   && decide ((e::es).length+([]:List Keyword).length+(if ([]:List Keyword).isEmpty then 0 else 1)<30))=true:=by rfl)
  (hline:(apos.endLine==cpos.line)=true:=by rfl) (hs:starEach (e::es) X.env=(false,eval e X.env)::starEach es X.env:=by rfl) (hplain:(backTo cpos (starEach es X.env)).any (·.1)=false:=by rfl) :
  PE X (.Call (.Attribute o name apos) (e::es) [] cpos) (tBM K T r to t):=by
 subst hK;exact Uw pa slot hty hm ho ha hbase hfew hline hs hplain
end
def SJ(xs ys:List Int):eqL (xs.map V.int) (ys.map V.int)=decide (xs=ys):=by
 unfold eqL;rw[Ya,Ya];by_cases e:xs=ys
 ·subst e;rw[Yh rfl,Yh rfl,Qt,WE];intro j hj;have hj':j<xs.length:=by simpa using hj
  rw[Yd,Yj,ZZ hj'];show(xs[j]==xs[j])=true;simp
 ·rw[Yv e];by_cases hl:xs.length=ys.length
  ·rw[Yh hl,Qt,Qi];intro hall;apply e;apply QJ hl;intro j h1 h2
   have:=WE.mp hall j (by simpa using h1)
   rw[Yd,Yj,ZZ h1,Yd,Yj,ZZ h2]at this;have h3:(xs[j]==ys[j])=true:=this;simpa using h3
  ·rw[Yv hl];rfl
def XA(xs:List Int):(xs.map V.int).all U2=true:=by
 rw[List.all_map];exact WE.mpr fun _ _=>rfl
end Own
namespace M
open PySem PySem.Spec PyProof.Rows L2 Own
def LV{α:Type}(R:Hp->V->α->Prop)(H:Hp)(vs:List V)(xs:List α):Prop:=
 vs.length=xs.length/\∀(i:Nat) (x:α),xs[i]?=some x->∃v,vs[i]?=some v/\R H v x
def LAt{α:Type}(R:Hp->V->α->Prop)(H:Hp)(l:Addr)(xs:List α):Prop:=∃vs,H l=some (.lst vs)/\LV R H vs xs
def Uu(H:Hp)(v:V)(q:Int×Int):Prop:=∃a,v=.ref a/\H a=some (.tup [.int q.1,.int q.2])
section
variable {α:Type}{R:Hp->V->α->Prop}{H H':Hp}{vs:List V}{xs:List α}{l:Addr}
def LV.get {i:Nat}{v:V} (h:LV R H vs xs) (e:vs[i]?=some v):∃x,xs[i]?=some x/\R H v x:=by
 have hi:i<xs.length:=by rw[←h.1];exact(Y2.mp e).1
 obtain⟨v',e',r⟩:=h.2 i xs[i] (by simp[hi]);rw[e]at e';cases e';exact⟨_,by simp[hi],r⟩
end
def Menu(m:List Int):Prop:=∃a b c d e:Int,m=[a,b,c,d,e]/\(1<=a/\a<=10)/\(1<=b/\b<=9/\(b=1\/b=3\/b=7\/b=9))/\(0<=c/\c<=9)/\(1<=d/\d<=1000)/\(1<=e/\e+d<=1001)
def Field(ps:List (Int×Int)):Prop:=∀q∈ps,1<=q.1/\q.1<=10/\1<=q.2/\q.2<=1000
def G8(js:List Int)(k z:Int):z∈SetR.addJ js k↔z∈js\/z=k:=by
 unfold SetR.addJ;split
 ·rename_i h;constructor
  ·exact fun x=>.inl x
  ·rintro(x|rfl)
   ·exact x
   ·exact h
 ·simp
def Ai:∀(ns js:List Int) (z:Int),z∈ns.foldl SetR.addJ js↔z∈js\/z∈ns
 |[],js,z=>by simp
 |n::r,js,z=>by
  rw[List.foldl_cons,Ai r,G8,Yo];constructor
  ·rintro((h|h)|h)
   ·exact .inl h
   ·exact .inr (.inl h)
   ·exact .inr (.inr h)
  ·rintro(h|h|h)
   ·exact .inl (.inl h)
   ·exact .inl (.inr h)
   ·exact .inr h
def R6{js:List Int}(k:Int)(h:js.Nodup):(SetR.addJ js k).Nodup:=by
 unfold SetR.addJ;split
 ·exact h
 ·rename_i hk;exact Wc.mpr ⟨h,by simp,fun x hx y hy=>by rw[Yf.mp hy];rintro rfl;exact hk hx⟩
def BG:∀(ns:List Int) {js:List Int},js.Nodup->(ns.foldl SetR.addJ js).Nodup
 |[],_,h=>h
 |n::r,js,h=>BG r (R6 n h)
def FJ:∀(ns js:List Int),(ns.foldl SetR.addJ js).length<=js.length+ns.length
 |[],js=>by simp
 |n::r,js=>by
  have h1:=FJ r (SetR.addJ js n)
  have h2:(SetR.addJ js n).length<=js.length+1:=by
   unfold SetR.addJ;split
   ·omega
   ·simp
  rw[List.foldl_cons,Y3];omega
def Ap{l:List Int}(h:l.Pairwise (·<=·))(n:l.Nodup):l.Pairwise (· < ·):=by
 have:=h.and n
 exact this.imp fun {a b} h=>by have:=h.1;have:=h.2;omega
def Nv{l₁ l₂:List Int}(h1:l₁.Pairwise (· < ·))(h2:l₂.Pairwise (· < ·))(h:∀z,z∈l₁↔z∈l₂):l₁=l₂:=by
 have n1:l₁.Nodup:=h1.imp fun {a b} h=>by omega
 have n2:l₂.Nodup:=h2.imp fun {a b} h=>by omega
 have p:l₁.Perm l₂:=(Wy n1 n2).mpr h;exact p.eq_of_pairwise (le:=(· < ·)) (fun a b _ _ x y=>by omega) h1 h2
def tenL:List Int:=[1,2,3,4,5,6,7,8,9,10]
def RX{z:Int}:z∈tenL↔1<=z/\z<=10:=by
 unfold tenL;constructor
 ·intro h;simp only[Yo,QI,or_false]at h;omega
 ·rintro⟨h1,h2⟩;simp only[Yo,QI,or_false];omega
def Jp(ps:List (Int×Int)):List Int:=tenL.filter fun h=>decide (h∈ps.map (·.1))
def UN(ps:List (Int×Int)):(Jp ps).Pairwise (· < ·):=List.Pairwise.filter _ (by unfold tenL;decide)
def K4{ps:List (Int×Int)}(hF:Field ps){z:Int}:z∈Jp ps↔z∈ps.map (·.1):=by
 unfold Jp;rw[Y9,Qj,RX];constructor
 ·exact fun h=>h.2
 ·intro h;obtain⟨q,hq,rfl⟩:=Y7.mp h
  have:=hF q hq
  exact⟨⟨this.1,this.2.1⟩,h⟩
def Xr(ps:List (Int×Int)):(Jp ps).length<=10:=by
 have:=Wk (fun h=>decide (h∈ps.map (·.1))) tenL
 exact this
def M5{ps:List (Int×Int)}{ns:List Int}(hF:Field ps)(p:ns.Perm ((ps.map (·.1)).foldl SetR.addJ []))(h:ns.Pairwise (·<=·)):ns=Jp ps:=by
 have nd:ns.Nodup:=p.symm.nodup (BG _ WD);refine Nv (Ap h nd) (UN ps) fun z=>?_;rw[p.mem_iff,Ai,K4 hF];simp
def CJ(z:Int)(xs:List Int):inV (.int z) (xs.map V.int)=decide (z∈xs):=by
 unfold inV;rw[List.any_map]
 induction xs with
 |nil=>simp
 |cons x r ih=>
  rw[WZ,ih];show((x==z) || _)=_;by_cases e:x=z
  ·subst e;simp
  ·have:(x==z)=false:=by simpa using e
   rw[this];simp only[Bool.false_or];by_cases h:z∈r
   ·rw[Yh h,Yh (Yu _ h)]
   ·rw[Yv h,Yv];intro hz;rcases Yo.mp hz with hz|hz
    ·exact e hz.symm
    ·exact h hz
def Mr:tenL=(List.range 10).map fun(i:Nat)=>(1:Int)+(i:Int):=by decide
def Mg{ps:List (Int×Int)}{os ns:List Int}(hp:os.Perm (Jp ps))(h1:ns.Perm os)(h2:ns.Pairwise (·<=·)):ns=Jp ps:=by
 have nd:(Jp ps).Nodup:=(UN ps).imp fun {a b} h=>by omega
 have p:=h1.trans hp;have nd2:ns.Nodup:=p.symm.nodup nd;exact Nv (Ap h2 nd2) (UN ps) fun z=>p.mem_iff
section
variable (ps:List (Int×Int))
def tpM(y:Int):Nat->Int
 | 0=>0
 |j+1=>tpM y j+(if (ps.getD j (0,0)).1=y then(ps.getD j (0,0)).2 else 0)
def pcM(x y:Int):Nat->Int
 | 0=>0
 |k+1=>pcM x y k+(if x≠y/\(ps.getD k (0,0)).1=x then tpM ps y k*(ps.getD k (0,0)).2 else 0)
def ordM(n:Nat):List Int->Int
 |[]=>0
 |a::r=>(r.map fun b=>pcM ps a b n).sum+ordM n r
def aftM(n:Nat)(h:Int):List Int->Int
 |[]=>0
 |a::r=>if a=h then(r.map fun b=>tpM ps b n).sum else aftM n h r
def rsM(os:List Int)(h:Int):Nat->Int
 | 0=>0
 |j+1=>rsM os h j+(if os.idxOf h<os.idxOf (ps.getD j (0,0)).1 then(ps.getD j (0,0)).2 else 0)
def priM(os:List Int):Nat->Int
 | 0=>0
 |k+1=>priM os k+rsM ps os (ps.getD k (0,0)).1 k*(ps.getD k (0,0)).2
end
def Nb{a b:Int}{r:List Int}(h:a≠b):(a::r).idxOf b=r.idxOf b+1:=by
 rw[List.idxOf_cons]
 have:(a==b)=false:=by simpa using h
 rw[this];rfl
def Di(f g:Int->Int)(l:List Int):(l.map fun b=>f b+g b).sum=(l.map f).sum+(l.map g).sum:=by
 induction l with
 |nil=>rfl
 |cons b r ih=>
  simp only[Yq,WN];rw[ih];omega
def KZ{f g:Int->Int}{l:List Int}(h:∀b∈l,f b=g b):(l.map f).sum=(l.map g).sum:=by
 rw[Ww h]
def BH(l:List Int):(l.map fun _=>(0:Int)).sum=0:=by
 induction l with
 |nil=>rfl
 |cons b r ih=>simp only[Yq,WN,ih];rfl
def GO(f:Int->Int)(w:Int)(l:List Int):(l.map fun b=>f b*w).sum=(l.map f).sum*w:=by
 induction l with
 |nil=>simp
 |cons b r ih=>
  simp only[Yq,WN];rw[ih,QE]
def R9{l:List Int}(h:Int)(w:Int)(nd:l.Nodup):(l.map fun b=>if h=b then w else 0).sum=if h∈l then w else 0:=by
 induction l with
 |nil=>simp
 |cons b r ih=>
  simp only[Yq,WN];have hb:=(YG.mp nd).1;rw[ih (YG.mp nd).2];by_cases e:h=b
  ·subst e;rw[Yg rfl,Ye hb,Yg Yy];omega
  ·rw[Ye e];by_cases hm:h∈r
   ·rw[Yg hm,Yg (Yu _ hm)];omega
   ·rw[Ye hm,Ye]
    ·omega
    ·intro z;rcases Yo.mp z with z|z
     ·exact e z
     ·exact hm z
section
variable {ps:List (Int×Int)}
def Ff{n:Nat}:∀{os:List Int},(ps.getD n (0,0)).1∉os->ordM ps (n+1) os=ordM ps n os
 |[],_=>rfl
 |a::r,h=>by
  have h1:(ps.getD n (0,0)).1≠a:=fun z=>h (by rw[z];exact Yy);have h2:(ps.getD n (0,0)).1∉r:=fun z=>h (Yu _ z);simp only[ordM];rw[Ff h2];congr 1;apply KZ;intro b _;simp only[pcM];rw[Ye (fun z=>h1 z.2)];omega
def F2{n:Nat}:∀{os:List Int},os.Nodup->(ps.getD n (0,0)).1∈os->ordM ps (n+1) os=ordM ps n os+aftM ps n (ps.getD n (0,0)).1 os*(ps.getD n (0,0)).2
 |[],_,h=>by cases h
 |a::r,nd,h=>by
  obtain⟨na,nr⟩:=YG.mp nd;simp only[ordM,aftM];by_cases e:a=(ps.getD n (0,0)).1
  ·rw[Yg e];have hr:(ps.getD n (0,0)).1∉r:=by rw[←e];exact na
   rw[Ff hr,←GO]
   have e2:(r.map fun b=>pcM ps a b (n+1)).sum=(r.map fun b=>pcM ps a b n+tpM ps b n*(ps.getD n (0,0)).2).sum:=by
    apply KZ;intro b hb;simp only[pcM];rw[Yg ⟨fun z=>na (by rw[z];exact hb),e.symm⟩]
   rw[e2,Di];omega
  ·rw[Ye e]
   have hr:(ps.getD n (0,0)).1∈r:=by
    rcases Yo.mp h with z|z
    ·exact absurd z.symm e
    ·exact z
   rw[F2 nr hr]
   have e2:(r.map fun b=>pcM ps a b (n+1)).sum=(r.map fun b=>pcM ps a b n).sum:=by
    apply KZ;intro b _;simp only[pcM];rw[Ye (fun z=>e z.2.symm)];omega
   rw[e2];omega
def A9{n:Nat}{h:Int}:∀{os:List Int},(ps.getD n (0,0)).1∉os->aftM ps (n+1) h os=aftM ps n h os
 |[],_=>rfl
 |a::r,hn=>by
  have h2:(ps.getD n (0,0)).1∉r:=fun z=>hn (Yu _ z);simp only[aftM];rw[A9 h2]
  have e2:(r.map fun b=>tpM ps b (n+1)).sum=(r.map fun b=>tpM ps b n).sum:=by
   apply KZ;intro b hb;simp only[tpM];rw[Ye (fun z=>h2 (by rw[z];exact hb))];omega
  rw[e2]
def F4{n:Nat}{h:Int}:∀{os:List Int},os.Nodup->h∈os->(ps.getD n (0,0)).1∈os->
  aftM ps (n+1) h os=aftM ps n h os+(if os.idxOf h<os.idxOf (ps.getD n (0,0)).1 then(ps.getD n (0,0)).2 else 0)
 |[],_,hh,_=>by cases hh
 |a::r,nd,hh,hm=>by
  obtain⟨na,nr⟩:=YG.mp nd;generalize eg:(ps.getD n (0,0)).1=g at hm ⊢;generalize ew:(ps.getD n (0,0)).2=w at ⊢;simp only[aftM];by_cases e:a=h
  ·subst e;rw[Yg rfl,Yg rfl]
   have e2:(r.map fun b=>tpM ps b (n+1)).sum=(r.map fun b=>tpM ps b n+(if g=b then w else 0)).sum:=by
    apply KZ;intro b _;simp only[tpM];rw[eg,ew]
   rw[e2,Di,R9 g w nr];have i0:(a::r).idxOf a=0:=by simp
   rw[i0];by_cases eq:g=a
   ·subst eq;rw[i0,Ye na,Ye (by omega)]
   ·have gr:g∈r:=by
     rcases Yo.mp hm with z|z
     ·exact absurd z eq
     ·exact z
    have:(a::r).idxOf g=r.idxOf g+1:=Nb (Ne.symm eq)
    rw[this,Yg gr,Yg (by omega)]
  ·rw[Ye e,Ye e]
   have hr:h∈r:=by
    rcases Yo.mp hh with z|z
    ·exact absurd z.symm e
    ·exact z
   have ih1:(a::r).idxOf h=r.idxOf h+1:=Nb e;by_cases eq:g=a
   ·subst eq;have i0:(g::r).idxOf g=0:=by simp
    rw[A9 (by rw[eg];exact na),i0,Ye (by omega)];omega
   ·have gr:g∈r:=by
     rcases Yo.mp hm with z|z
     ·exact absurd z eq
     ·exact z
    have ih2:(a::r).idxOf g=r.idxOf g+1:=Nb (Ne.symm eq);rw[F4 nr hr (by rw[eg];exact gr),eg,ew,ih1,ih2];congr 1;by_cases hlt:r.idxOf h<r.idxOf g
    ·rw[Yg hlt,Yg (by omega)]
    ·rw[Ye hlt,Ye (by omega)]
def CK{os:List Int}{h:Int}(nd:os.Nodup)(hh:h∈os):∀(n:Nat),(∀j,j<n->(ps.getD j (0,0)).1∈os)->aftM ps n h os=rsM ps os h n
 | 0,_=>by
  have:∀l:List Int,aftM ps 0 h l=0:=by
   intro l
   induction l with
   |nil=>rfl
   |cons a r ih=>
    simp only[aftM,tpM];rw[BH,ih];split<;>rfl
  rw[this];rfl
 |n+1,hm=>by
  rw[F4 nd hh (hm n (by omega)),CK nd hh n fun j hj=>hm j (by omega)];rfl
def Ek{os:List Int}(nd:os.Nodup):∀(n:Nat),(∀j,j<n->(ps.getD j (0,0)).1∈os)->ordM ps n os=priM ps os n
 | 0,_=>by
  have:∀l:List Int,ordM ps 0 l=0:=by
   intro l
   induction l with
   |nil=>rfl
   |cons a r ih=>
    simp only[ordM,pcM];rw[BH,ih];rfl
  rw[this];rfl
 |n+1,hm=>by
  rw[F2 nd (hm n (by omega)),Ek nd n (fun j hj=>hm j (by omega)),CK nd (hm n (by omega)) n fun j hj=>hm j (by omega)];rfl
end
end M
namespace ExcR
open PySem PySem.Spec PyProof.Rows L2
structure KeepX (fs ex:List Addr) (h h':Heap):Prop where
 keep:∀b o,h.get? b=some o->b∉fs->b∉ex->h'.get? b=some o
 slot:∀b o,h.get? b=some o->b∉ex->∃sl,h'.get? b=some {o with slots:=sl}
 size:h.objs.size<=h'.objs.size
def KeepX.trans {fs ex:List Addr}{h1 h2 h3:Heap} (a:KeepX fs ex h1 h2) (b:KeepX fs ex h2 h3):KeepX fs ex h1 h3:=
 ⟨fun c o e n m=>b.keep c o (a.keep c o e n m) n m,fun c o e m=>by
  obtain⟨s1,e1⟩:=a.slot c o e m;obtain⟨s2,e2⟩:=b.slot c _ e1 m;exact⟨s2,e2⟩,Yx a.size b.size⟩
def KeepX.mono {fs fs' ex ex':List Addr}{h1 h2:Heap} (a:KeepX fs ex h1 h2) (hf:∀b∈fs,b∈fs') (hx:∀b∈ex,b∈ex'):KeepX fs' ex' h1 h2:=
 ⟨fun c o e n m=>a.keep c o e (fun z=>n (hf c z)) (fun z=>m (hx c z)),fun c o e m=>a.slot c o e fun z=>m (hx c z),a.size⟩
structure Trc (h:Heap) (e T:Addr) (cls fl:Value):Prop where
 ne:T≠e
 exc:∃oe vs,h.get? e=some oe/\oe.cls=cls/\oe.data=.fields vs/\vs[1]?=some (.ref T)
 ent:∃oT ts,h.get? T=some oT/\oT.data=.fields ts/\ts[3]?=some fl
section
variable {M:Model}{A:Around}{E:Value->Shared->Prop}{s:Shared}{base:Heap}{env:Env}{outer:List Env}{L e:Addr}
def Dn{oe:Obj}{vs:Array Value}{head:Value}{hadNext:Bool}{Q:Unit->Shared->Prop}(hfr:A.frames=some (env::outer))(hl:s.heap.FunFrames base (env::outer))(hf:env.frame=some L)(he:s.heap.get? e=some oe)(hd:oe.data=.fields vs)(hsz:1<vs.size)(h:∀h' T,s.heap.objs.size<=T->Trc h' e T oe.cls (rawInt L)->KeepX (frs (env::outer)) [e] s.heap h'->Q () {s with heap:=h'}) :
  wpAny M A (do let a ←frameOf env;let pl ←entryPlaceOf L hadNext;let b ←EntryCells.newEntry head a .none (rawInt L) .none pl;setField (.ref e) 1 b) Q E s:=by
 have hene:e∉frs (env::outer):=fun hm=>by
  obtain⟨_,o,ho,hnf⟩:=hl.mem hm;rw[he]at ho;cases ho
  exact hnf vs hd
 refine ZY (wpAny_frameOf_fun hfr hl hf fun h1 s1=>ZY (wpAny_entryPlaceOf fun pl hpl=>?_));unfold EntryCells.newEntry newFields;refine ZY (YT ?_ (hpl.sizeOk5 _ _ _ _ _));have he1:h1.get? e=some oe:=(s1.2.1 e hene).trans he;generalize eo:({cls:=.type "traceback",dict:=none,data:=.fields ([head,.ref L,.none,rawInt L,.none]++(if pl.isEmpty then List.replicate 6 Value.none else pl)).toArray}:Obj)=ot;have he2:=Yc (h:=h1) ot he1;refine Wz he2 hd hsz (h _ h1.objs.size (Wx s1.1.symm) ?_ ?_)
 ·have ne1:h1.objs.size≠e:=Vn (Yk he1);have d3:=We hd (·.setIfInBounds 1 (Value.ref h1.objs.size));refine⟨ne1,⟨_,_,Wa _ he2 (W1 d3),Q7 _ _,d3,by simp[hsz]⟩,ot,_,?_,by rw[←eo],?_⟩
  ·exact(Wf _ _ (Ne.symm ne1)).trans (Ym h1 (by rw[←eo];rfl))
  ·first
    |(simp;done)
    |(rcases hpl with rfl|⟨_,_,_,_,_,_,_,rfl⟩<;>simp)
 ·refine⟨fun b o q nb nx=>?_,fun b o q nx=>?_,?_⟩
  ·have hbe:b≠e:=fun z=>nx (by simp[z]);rw[Wf _ _ (Ne.symm hbe)];exact Yc _ ((s1.2.1 b nb).trans q)
  ·have hbe:b≠e:=fun z=>nx (by simp[z]);obtain⟨sl,q1⟩:=s1.2.2 b o q;exact⟨sl,by rw[Wf _ _ (Ne.symm hbe)];exact Yc _ q1⟩
  ·rw[Heap.size_update,Q0,s1.1];exact QA _
def Gp{oe:Obj}{vs:Array Value}{Q:Unit->Shared->Prop}(hfr:A.frames=some (env::outer))(hl:s.heap.FunFrames base (env::outer))(hf:env.frame=some L)(he:s.heap.get? e=some oe)(hd:oe.data=.fields vs)(h1:vs[1]?=some .none)(h:∀h' T,s.heap.objs.size<=T->Trc h' e T oe.cls (rawInt L)->KeepX (frs (env::outer)) [e] s.heap h'->Q () {s with heap:=h'}):wpAny M A (noteFrame (.ref e) env) Q E s:=by
 unfold noteFrame;simp only[hf];refine ZY (Vd he hd h1 ?_);rw[Ye (by decide)];exact Dn hfr hl hf he hd (Qu.mp h1).1 h
def Dl{T:Addr}{cls fl:Value}{Q:Unit->Shared->Prop}(x:Trc s.heap e T cls fl)(h:∀h',Trc h' e T cls .none->KeepX [] [T] s.heap h'->Q () {s with heap:=h'}) :
  wpAny M A (setField (.ref T) 3 .none) Q E s:=by
 obtain⟨ne,⟨oe,vs,g1,g2,g3,g4⟩,oT,ts,k1,k2,k3⟩:=x;have hz:=(Qu.mp k3).1;refine Wz k1 k2 hz (h _ ?_ ?_)
 ·have d3:=We k2 (·.setIfInBounds 3 Value.none);exact⟨ne,⟨oe,vs,(Wf _ _ ne).trans g1,g2,g3,g4⟩,_,_,Wa _ k1 (W1 d3),d3,by simp[hz]⟩
 ·have ot:∀b,b≠T->(s.heap.update T (Obj.mapFields (·.setIfInBounds 3 Value.none))).get? b=s.heap.get? b:=fun b hb=>Wf _ _ (Ne.symm hb);exact⟨fun b o q _ nx=>(ot b fun z=>nx (by simp[z])).trans q,fun b o q nx=>⟨o.slots,(ot b fun z=>nx (by simp[z])).trans q⟩,Wx (Heap.size_update ..).symm⟩
def OQ{T:Addr}{cls:Value}{Q:Unit->Shared->Prop}(hfr:A.frames=some (env::outer))(hl:s.heap.FunFrames base (env::outer))(hf:env.frame=some L)(x:Trc s.heap e T cls .none)(h:∀h' T',s.heap.objs.size<=T'->Trc h' e T' cls (rawInt L)->KeepX (frs (env::outer)) [e,T] s.heap h'->Q () {s with heap:=h'}):wpAny M A (noteFrame (.ref e) env) Q E s:=by
 obtain⟨ne,⟨oe,vs,g1,g2,g3,g4⟩,oT,ts,k1,k2,k3⟩:=id x;unfold noteFrame;simp only[hf];refine ZY (Vd g1 g3 g4 ?_);rw[Yg (show(Value.ref T != Value.none)=true from by simp)]
 refine ZY (Vd k1 k2 k3 ?_);rw[Ye (show ¬((Value.none==rawInt L)=true)from by simp[rawInt])]
 refine ZY (Dl x fun h1 x1 K1=>?_)
 have hTf:T∉frs (env::outer):=fun hm=>by
  obtain⟨_,o,ho,hnf⟩:=hl.mem hm;rw[k1]at ho;cases ho
  exact hnf ts k2
 have hl1:h1.FunFrames base (env::outer):=hl.of_keeps fun b o q hnf=>⟨o,K1.keep b o q (by simp) (fun z=>by
  rw[Yf.mp z,k1]at q;cases q
  exact hnf ts k2),rfl⟩
 obtain⟨_,⟨oe1,vs1,p1,p2,p3,p4⟩,_⟩:=id x1;refine Dn (s:={s with heap:=h1}) hfr hl1 hf p1 p3 (Qu.mp p4).1 fun h2 T' hT' x2 K2=>h h2 T' (Yx K1.size hT') (by rw[←p2];exact x2) ?_
 exact(K1.mono (by simp) (by simp)).trans (K2.mono (fun _ z=>z) (by simp))
def CI{T:Addr}{cls fl:Value}{Q:Unit->Shared->Prop}(x:Trc s.heap e T cls fl)(h:∀h',Trc h' e T cls .none->KeepX [] [T] s.heap h'->Q () {s with heap:=h'}) :
  wpAny M A (setFlight (.ref e) none) Q E s:=by
 obtain⟨ne,⟨oe,vs,g1,g2,g3,g4⟩,_⟩:=id x;unfold setFlight;refine ZY (Vd g1 g3 g4 ?_);rw[Yg (show(Value.ref T != Value.none)=true from by simp)]
 exact Dl x h
def MN{oe:Obj}{vs:Array Value}{Q:Unit->Shared->Prop}(hfr:A.frames=some (env::outer))(hl:s.heap.FunFrames base (env::outer))(hf:env.frame=some L)(he:s.heap.get? e=some oe)(hd:oe.data=.fields vs)(h1:vs[1]?=some .none)(h:∀h' T,s.heap.objs.size<=T->Trc h' e T oe.cls .none->KeepX (frs (env::outer)) [e] s.heap h'->Q () {s with heap:=h'}):wpAny M A (leaving env (.ref e)) Q E s:=by
 unfold leaving;refine ZY (Gp hfr hl hf he hd h1 fun h2 T hT x K=>CI x fun h3 x3 K3=>h h3 T hT x3 ?_);refine⟨fun b o q nb nx=>K3.keep b o (K.keep b o q nb nx) (by simp) (fun z=>?_),fun b o q nx=>?_,Yx K.size K3.size⟩
 ·rw[Yf.mp z]at q;exact absurd (Yk q) (QW.mpr hT)
 ·obtain⟨sl,q2⟩:=K.slot b o q nx;exact⟨sl,K3.keep b _ q2 (by simp) (fun z=>by rw[Yf.mp z]at q;exact absurd (Yk q) (QW.mpr hT))⟩
def IB{T:Addr}{cls:Value}{Q:Unit->Shared->Prop}(hfr:A.frames=some (env::outer))(hl:s.heap.FunFrames base (env::outer))(hf:env.frame=some L)(x:Trc s.heap e T cls .none)(h:∀h' T',s.heap.objs.size<=T'->Trc h' e T' cls .none->KeepX (frs (env::outer)) [e,T] s.heap h'->Q () {s with heap:=h'}):wpAny M A (leaving env (.ref e)) Q E s:=by
 unfold leaving;refine ZY (OQ hfr hl hf x fun h2 T' hT x2 K=>CI x2 fun h3 x3 K3=>h h3 T' hT x3 ?_);refine⟨fun b o q nb nx=>K3.keep b o (K.keep b o q nb nx) (by simp) (fun z=>?_),fun b o q nx=>?_,Yx K.size K3.size⟩
 ·rw[Yf.mp z]at q;exact absurd (Yk q) (QW.mpr hT)
 ·obtain⟨sl,q2⟩:=K.slot b o q nx;exact⟨sl,K3.keep b _ q2 (by simp) (fun z=>by rw[Yf.mp z]at q;exact absurd (Yk q) (QW.mpr hT))⟩
end
section
variable {P:Program}{w:World}{H H':Hp}{h h':Heap}{a:Addr}{o:HO}{fs ex:List Addr}
def has(x:ObjOk P w H h a o):∃u,h.get? a=some u:=by
 cases o with
 |lst xs=>exact let ⟨_,_,_,_,e⟩:=x;⟨_,e⟩
 |tup xs=>exact let ⟨_,_,_,u,e,_⟩:=x;⟨u,e⟩
 |dK kvs=>exact let ⟨_,_,_,_,u,_,_,e,_⟩:=x;⟨u,e⟩
 |dT kvs=>exact let ⟨_,_,_,_,u,_,_,e,_⟩:=x;⟨u,e⟩
 |set S n=>exact let ⟨u,_,_,_,e,_⟩:=x;⟨u,e⟩
 |ins C dx fs=>exact let ⟨_,_,_,e,_⟩:=x;⟨_,e⟩
 |own y=>exact x
 |xd fs=>exact let ⟨_,⟨u,_,_,e,_⟩,_⟩:=x;⟨u,e⟩
 |rng lo hi=>exact let ⟨_,_,_,e⟩:=x;⟨_,e⟩
 |frz ob u=>exact⟨_,x.1⟩
 |tbl ps=>exact⟨_,x⟩
 |met f y=>exact⟨_,x⟩
 |ext φ=>exact x.2.1
def OB(ok:HOk P w H h)(e:h.get? a=none):H a=none:=by
 cases q:H a with
 |none=>rfl
 |some o=>
  obtain⟨u,z⟩:=has (ok a o q);rw[e]at z;cases z
def CV(ok:HOk P w H h)(k:KeepX fs ex h h')(hf:∀b∈fs,H b=none)(hx:∀b∈ex,H b=none):HOk P w H h':=fun a o e=>by
 refine(ok a o e).stay (fun b u hb q=>?_) (fun _ q=>q) (fun _ _ q=>q)
 have hn:H b≠none:=by
  rcases hb with rfl|hb
  ·rw[e];simp
  ·rw[hb];simp
 exact k.keep b u q (fun z=>hn (hf b z)) fun z=>hn (hx b z)
end
structure XAt (P:Program) (w:World) (outer:List Env) (H H':Hp) (s s':Shared) (a T C:Addr):Prop where
 os:s'.os=s.os
 bare:AllBare s'.gens
 un:Un (frs outer) [] H H' s.heap s'.heap
 hok:HOk P w H' s'.heap
 na:s.heap.get? a=none
 nT:s.heap.get? T=none
 fa:H' a=none
 fT:H' T=none
 tr:Trc s'.heap a T (.ref C) .none
def CXe(P:Program)(w:World):CXT:=fun outer H s E e s'=>∃a T C H',e=.ref a/\XAt P w outer H H' s s' a T C/\E (.ref C) none H'
section
variable {X:Cx}{pins:List (Addr×Obj)}{σ:L2.St}{H H':Hp}{s s':Shared}{a T C:Addr}
def Cd{ex:List Addr}{h':Heap}(I:Inv X pins σ H s)(hex:X.ex=[])(k:KeepX (frs X.stack) ex s.heap h')(hx:∀b∈ex,X.s₀.heap.get? b=none):Un X.fs [] X.H₀ H X.s₀.heap h':=by
 have B:=I.base;rw[hex]at B;have out:∀b o,X.s₀.heap.get? b=some o->b∉ex:=fun b o q z=>by rw[hx b z]at q;cases q
 have nl:∀b o,X.s₀.heap.get? b=some o->b∉X.fs->b∉frs X.stack:=fun b o q nf z=>by
  rcases Yo.mp (I.stkSub b z)with e|e
  ·have h1:=Yk q;have h2:=I.ok.above;rw[e]at h1;exact absurd h1 (QW.mpr h2)
  ·exact nf e
 refine⟨fun b o q n nf ne=>k.keep b o (B.keep b o q n nf ne) (nl b o q nf) (out b o q),fun b o q n hf ne=>?_,fun b o q n ne=>B.free b o q n ne,fun b o q ne=>?_,B.tups,B.frzs,B.tbls⟩
 ·obtain⟨sl,q1⟩:=B.slot b o q n hf ne;obtain⟨sl2,q2⟩:=k.slot b _ q1 (out b o q);exact⟨sl2,q2⟩
 ·obtain⟨o1,q1⟩:=B.there b o q ne;obtain⟨sl2,q2⟩:=k.slot b _ q1 (out b o q);exact⟨_,q2⟩
def KY{b:Addr}(I:Inv X pins σ H s)(hex:X.ex=[])(e:s.heap.get? b=none):X.s₀.heap.get? b=none:=by
 cases q:X.s₀.heap.get? b with
 |none=>rfl
 |some o=>
  obtain⟨u,z⟩:=I.base.there b o q (by rw[hex];simp);rw[e]at z;cases z
variable {E:Value->Shared->Prop}
def Gv(I:Inv X pins σ H s)(hex:X.ex=[])(hst:X.stack=X.env::X.outer)(hfr:X.env.frame=some X.env.locals)(x:XAt X.prog X.w X.stack H H' s s' a T C) :
  wpAny (model X.prog X.w) X.A (leaving X.env (.ref a)) (fun _ s2=>∃T2,XAt X.prog X.w X.outer X.H₀ H' X.s₀ s2 a T2 C) E s':=by
 have J:Inv X pins σ H' s':=I.call' (ch:=[]) x.os x.un x.hok x.bare fun b z=>absurd z (by simp);have hF:=J.stack;have hA:=J.ok.frames;rw[hst]at hF hA;refine IB hA hF hfr x.tr fun h2 T2 hT2 tr k=>⟨T2,J.os,J.bare,?_,?_,KY I hex x.na,?_,x.fa,x.hok.fresh hT2,tr⟩
 ·exact Cd J hex (by rw[hst];exact k) fun b hb=>by
   rcases Yo.mp hb with rfl|hb
   ·exact KY I hex x.na
   ·rw[Yf.mp hb];exact KY I hex x.nT
 ·refine CV x.hok k (fun b hb=>J.stkFree b (by rw[hst];exact hb)) fun b hb=>?_;rcases Yo.mp hb with rfl|hb
  ·exact x.fa
  ·rw[Yf.mp hb];exact x.fT
 ·exact QP (Yx J.sz hT2)
def EH{h':Heap}{oe:Obj}{vs:Array Value}(I:Inv X pins σ H s)(hex:X.ex=[])(hst:X.stack=X.env::X.outer)(hfr:X.env.frame=some X.env.locals)(keeps:∀b o,s.heap.get? b=some o->h'.get? b=some o)(new:s.heap.get? a=none)(he:h'.get? a=some oe)(hc:oe.cls=.ref C)(hd:oe.data=.fields vs)(h1:vs[1]?=some .none) :
  wpAny (model X.prog X.w) X.A (leaving X.env (.ref a)) (fun _ s2=>∃T2,XAt X.prog X.w X.outer X.H₀ H X.s₀ s2 a T2 C) E {s with heap:=h'}:=by
 have J:Inv X pins σ H {s with heap:=h'}:=I.call' (s':={s with heap:=h'}) (ch:=[]) rfl (Un.kept keeps) (I.hok.kept keeps) I.bare fun b z=>absurd z (by simp)
 have hF:=J.stack;have hA:=J.ok.frames;rw[hst]at hF hA;have fa:=OB I.hok new;refine MN (s:={s with heap:=h'}) hA hF hfr he hd h1 fun h2 T2 hT2 tr k=>⟨T2,J.os,J.bare,?_,?_,KY I hex new,?_,fa,J.hok.fresh hT2,by rw[←hc];exact tr⟩
 ·exact Cd J hex (by rw[hst];exact k) fun b hb=>by rw[Yf.mp hb];exact KY I hex new
 ·exact CV J.hok k (fun b hb=>J.stkFree b (by rw[hst];exact hb)) fun b hb=>by rw[Yf.mp hb];exact fa
 ·exact QP (Yx J.sz hT2)
end
structure ErrCls (K:Za) (C:Addr):Prop where
 q:PySem.W.excIn K C [.type "ValueError",.type "Exception",.type "BaseException",.type "object"] "ValueError.__new__"=true
def ErrCls.obj {K:Za}{C:Addr}{h:Heap} (c:ErrCls K C) (k:K.In h):∃bm N nm q bs hdct sn sub ab col dd k0 k1 k2 k3 k5 mN,h.get? C=some (excClassObj nm q C N bs bm hdct sn sub ab col dd k0 k1 k2 k3 k5 "ValueError.__new__")/\h.Ns N mN/\mN "__init__"=none/\
  OwnTail h [.type "ValueError",.type "Exception",.type "BaseException",.type "object"] bm:=by
 have e:=c.q;unfold PySem.W.excIn at e;split at e
 next dd cd sl ho=>
  split at e
  next C1 bm k0 k1 k2 k3 n k5 hm hs=>
   simp only[YA,beq_iff_eq,Wi]at e;obtain⟨⟨⟨⟨⟨e1,e2⟩,e3⟩,e4⟩,e5⟩,e6⟩:=e;subst e1 e2;have hg:=k _ _ ho;cases cd with
   |mk nm bs mro ns qn hd sn sub ab col del=>
    simp only at hm e3 e5 e6
    have hsl:sl=#[k0,k1,k2,k3,some (.builtin "ValueError.__new__"),k5]:=by
     cases sl with
     |mk l=>simp only at hs;rw[hs]
    rw[hm,e3,hsl]at hg;exact⟨bm,ns,nm,qn,bs,hd,sn,sub,ab,col,dd,k0,k1,k2,k3,k5,_,hg,.of_isNs (PySem.W.isNs_of_in k e5),PySem.W.nsMap_none_of_in k e5 e6,PySem.W.tail_of_in k e4⟩
  next=>cases e
 next=>cases e
abbrev TF:=L2.St->Hp->Str->(Str->Hp->Prop)->Prop
def PF(X:Cx)(es:List Expr)(t:TF):Prop:=
 ∀(pins:List (Addr×Obj)) (s:Shared) (σ:L2.St) (H:Hp) (out:Str) (Q:Str->Hp->Prop),Inv X pins σ H s->t σ H out Q->
  wpAny (model X.prog X.w) X.A (joinParts out (evalEach es X.env)) (fun u s'=>∃x H',Inv X pins σ H' s'/\RelV (.str x) u/\Q x H') X.xe s
section
variable {X:Cx}{e e1 e2:Expr}{es:List Expr}{t:TF}{tv:TE}{pos:Pos}
def fNil:TF:=fun _ H out Q=>out.length<=sizeLine/\Q out H
def fStr(x:Str)(t:TF):TF:=fun σ H out Q=>(out++x).length<=sizeLine/\t σ H (out++x) Q
def fVal(tv:TE)(t:TF):TF:=fun σ H out Q=>tv σ H fun v H1=>(∃i:Int,v=.int i/\i.natAbs.log2<1920/\(out++(Str.ofString (toString i))).length<=sizeLine/\t σ H1 (out++Str.ofString (toString i)) Q)\/
 ∃x:Str,v=.str x/\x.length<=sizeLine/\(out++x).length<=sizeLine/\t σ H1 (out++x) Q
def Pv:PF X [] fNil:=fun pins s σ H out Q I h=>joinParts_nilE (joinParts_nil ⟨out,H,I.tok _,⟨_,rfl⟩,h.2⟩ h.1)
def Xu{x:Str}{j}(h:PF X es t):PF X (.Constant (.str x) j pos::es) (fStr x t):=fun pins s σ H out Q I q=>
 joinParts_consE (joinParts_cons (Calls.Constant_str ⟨q.1,h pins _ σ H _ Q (I.tok _) q.2⟩))
def Po(hv:PE X e tv)(h:PF X es t):PF X (.FormattedValue e (-1) none pos::es) (fVal tv t):=fun pins s σ H out Q I q=>by
 refine joinParts_consE (joinParts_cons (FormattedValue_plain (thn (hv pins s σ H _ I q) fun u s1 ⟨v,H1,I1,r,q1⟩=>?_)));rcases q1 with⟨i,rfl,hs,hz,q2⟩|⟨x,rfl,hx,hz,q2⟩
 ·obtain⟨tk,rfl⟩:=r;exact formatField_int_small hs ⟨hz,h pins _ σ H1 _ Q (I1.tok _) q2⟩
 ·obtain⟨tk,rfl⟩:=r;exact formatField_str (fun t' tk'=>⟨hz,h pins _ σ H1 _ Q (I1.tok _) q2⟩) hx
def tF(t:TF):TE:=fun σ H Q=>t σ H Str.empty fun x H'=>Q (.str x) H'
def pe_f(h:PF X (e1::e2::es) t):PE X (.JoinedStr (e1::e2::es) pos) (tF t):=fun pins s σ H Q I q=>
 JoinedStr_many (thn (h pins s σ H _ _ I q) fun u s1 ⟨x,H1,I1,r,q1⟩=>⟨.str x,H1,I1,r,q1⟩)
end
def FD(X:Cx)(E:XK):Prop:=∀(pins:List (Addr×Obj)) (σ:L2.St) (H:Hp) (s:Shared) (C a:Addr) (h':Heap) (args:List Value),Inv X pins σ H s->Heap.MadeExcOf s.heap h' a (.ref C) args->E (.ref C) none H->X.xe (.ref a) {s with heap:=h'}
def D4(C:Addr)(E:XK)(t:TA):TS:=fun _ σ H=>t σ H fun vs H1=>vs.length<=sizeLine/\E (.ref C) none H1
section
variable {X:Cx}{x:Str}{C:Addr}{E:XK}{e:Expr}{es:List Expr}{t:TA}{p cpos pos:Pos}
def Xz(c:ErrCls X.K C)(hm:X.mg x=some (.ref C))(hR:FD X E)(hc:X.calm=true)(ha:PA X (e::es) t)(hg:Gl X x:=by rfl)(hdb:(x==("__debug__" : Str))=false:=by decide)(he:starEach (e::es) X.env=(false,eval e X.env)::starEach es X.env:=by rfl)(hpl:(backTo cpos (starEach es X.env)).any (·.1)=false:=by rfl):PS X (.Raise (some (.Call (.Name x p) (e::es) [] cpos)) none pos) (D4 C E t):=by
 intro pins s σ H D I h;obtain⟨bm,N,nm,q,bs,hdct,sn,sub,ab,col,dd,k0,k1,k2,k3,k5,mN,hC,hN,hni,hT⟩:=c.obj I.ok.mod.kin
 have hpl':(backTo cpos (starEach (e::es) X.env)).any (·.1)=false:=by
  rw[he];show(false || (backTo cpos (starEach es X.env)).any (·.1))=false;rw[hpl];rfl
 refine wpAny_Raise_call_subU (C:=C) (nm:=nm) (q:=q) (N:=N) (bs:=bs) (bm:=bm) (hdct:=hdct) (sn:=sn) (sub:=sub) (ab:=ab) (col:=col) (dd:=dd) (k0:=k0) (k1:=k1) (k2:=k2) (k3:=k3) (k5:=k5)
  PySem.F.excBase_ValueError (by decide +kernel) PySem.F.excBase_ValueError (hT.hasType (by decide +kernel)) (I.ok.hd hc) hpl' hni (Th I hg hm ⟨rfl,?_⟩ hdb)
 have hA:=ha cpos pins s σ H _ I h;rw[he]at hA ⊢;refine Calls.evalArgs_plain (thn hA fun us s2 ⟨vs,H2,I2,r2,q1,q2⟩=>⟨rfl,by rw[←r2.length];exact q1,I2.bk _ _ hC,hN.keeps I2.bk,hT.keeps I2.bk,fun h' a hm'=>?_⟩);exact hR pins σ H2 s2 C a h' us I2 hm' q2
end
section
variable {P:Program}{w:World}{K:Za}{mg:Str->Option Value}{base:Heap}{N ps:List Str}{qual x:Str}{scope:Scope}{f:Addr}{cd:Value}{A:Around}{outer:List Env}{s:Shared}{H:Hp}{E:XK}
def XB:FD (cxOf (CXe P w) P w K mg base N qual scope f cd A outer s H E) E:=by
 intro pins σ H1 s1 C a h' args I m q;obtain⟨t,ht,_,_⟩:=m.there;exact YU (EH I rfl rfl rfl m.keeps m.new ht rfl rfl rfl) (fun _ s3 ⟨T2,y⟩=>⟨a,T2,C,H1,rfl,y,q⟩) fun _ _ z=>z
def X7:UB (CXe P w) (cxOf (CXe P w) P w K mg base N qual scope f cd A outer s H E) E:=by
 rintro pins σ H1 s1 e s2 I ⟨a,T,C,H',rfl,y,q⟩;exact YU (Gv I rfl rfl rfl y) (fun _ s3 ⟨T2,z⟩=>⟨a,T2,C,H',rfl,z,q⟩) fun _ _ z=>z
def Fi:PassesOwn (model P w) (cxOf (CXe P w) P w K mg base N qual scope f cd A outer s H E).A (cxOf (CXe P w) P w K mg base N qual scope f cd A outer s H E).env (cxOf (CXe P w) P w K mg base N qual scope f cd A outer s H E).xe:=PassesOwn.leaving
def Def.okX {st:Stmt}{k:Nat}{sp:Sp} (D:Own.Def K mg x st ps) (S:FnScope N ps (Jn st)) (len:∀vs H Q E,sp vs H Q E->vs.length=ps.length)
  (hbody:∀(f:Addr) (cdv:Value) (A:Around) (outer:List Env) (s:Shared) (H:Hp) (vs:List V) (Q:VK) (E:XK),Room k (A.deeper (envOfC x (Jn st) s.heap.objs.size f cdv))->sp vs H Q E->
   ∃t,PSs (cxOf (CXe P w) P w K mg base N x (Jn st) f cdv A outer s H E) (JO st) t/\t {nx:=fun _ H'=>Q .non H',rt:=Q} (start N vs) H):Own.Callee P w K mg base (CXe P w) (k+1) x ps sp:=by
 obtain⟨f,fd,F,hm,hb⟩:=D.ex;have kp:=F.kp;obtain⟨oc,od,kV,doc,pm,an,cdv,ct,osl,rfl,lk,hcd⟩:=F.ex;exact⟨f,_,Ni lk hcd S len fun A outer s H vs Q E hr hsp=>hbody f cdv A outer s H vs Q E hr hsp,hm,kp,⟨_,lk,rfl⟩,hb⟩
end
end ExcR
namespace ExcR
open PySem PySem.Spec PyProof.Rows L2
open Sem (wp)
structure ErrGet (K:Za) (C:Addr):Prop where
 c:ErrCls K C
 ga:PySem.W.findIn K (.ref C) "__getattribute__"=some (some (.builtin "BaseException.__getattribute__"))
 gt:PySem.W.findIn K (.ref C) "__getattr__"=some none
 cl:PySem.W.findIn K (.ref C) "__class__"=some (some (.builtin "object.__class__"))
 is:(PySem.W.clsIn K C).isSome=true
end ExcR
namespace ExcR
open PySem PySem.Spec PyProof.Rows L2
def ErrH(a C:Addr):HO:=.ext fun h=>∃o,h.get? a=some o/\o.cls=.ref C/\∃vs,o.data=.fields vs
def sufD(i:Nat)(D:Ends):Ends:={nx:=fun σ H=>D.nx (σ.set i none) H,rt:=D.rt,bk:=fun σ H=>D.bk (σ.set i none) H,ct:=fun σ H=>D.ct (σ.set i none) H}
def hx(K:Za)(C0:Addr)(i:Nat)(ts:TS)(D:Ends):L2.St->XK:=fun σ c _ H=>∃C,c=.ref C/\ErrGet K C/\PySem.W.exmOne K (.ref C) (.ref C0)=some true/\
 ∀a,H a=none->ts (sufD i D) (σ.set i (some (.ref a))) (upd H a (ErrH a C))
def Jq(mg:Str->Option Value)(x:Str):Addr:=match mg x with
 |some (.ref C)=>C
 |_=>0
def DJ{mg:Str->Option Value}{x:Str}{C:Addr}(h:mg x=some (.ref C)):Jq mg x=C:=by unfold Jq;rw[h]
def UY{X:Cx}{x:Str}{v:V}{pos:Pos}(h:∃u,X.mg x=some u/\RelV v u)(hg:Gl X x:=by rfl)(hd:(x==("__debug__" : Str))=false:=by decide):PE X (.Name x pos) (tC v):=by
 obtain⟨u,h1,h2⟩:=h;exact GI hg h1 h2 hd
end ExcR
namespace Own
open PySem PySem.Spec PyProof.Rows L2 M
section
variable {X:Cx}{pins:List (Addr×Obj)}{σ:L2.St}{H:Hp}{s:Shared}
def AB{p:Int×Int}{its:List Value}(r:Vals [V.int p.1,V.int p.2] its):∃t1 t2,its=[.int p.1 t1,.int p.2 t2]:=by
 cases r with
 |cons r1 rr=>
  cases rr with
  |cons r2 r3=>
   cases r3
   obtain⟨t1,rfl⟩:=r1;obtain⟨t2,rfl⟩:=r2;exact⟨t1,t2,rfl⟩
def EN{A:Around}{x y:V}{p q:Int×Int}{u v:Value}(I:Inv X pins σ H s)(hu:A.units<cLine)(rx:RelV x u)(ry:RelV y v)(hp:Uu H x p)(hq:Uu H y q):SeqAt.EqAt A s u v (decide (p=q)):=by
 obtain⟨a,rfl,ha⟩:=hp;obtain⟨b,rfl,hb⟩:=hq;obtain rfl:u=Value.ref a:=rx;obtain rfl:v=Value.ref b:=ry;by_cases hab:a=b
 ·subst hab;rw[ha]at hb
  have e:p=q:=by
   injection hb with hb;injection hb with hb;injection hb with h1 h2;injection h2 with h2 _;exact Prod.ext (V.int.inj h1) (V.int.inj h2)
  rw[Yh e];exact SeqAt.EqAt.same _
 ·obtain⟨_,its,r1,t1⟩:=(show ObjOk X.prog X.w H s.heap a (.tup [.int p.1,.int p.2])from I.hok a _ ha)
  obtain⟨_,jts,r2,t2⟩:=(show ObjOk X.prog X.w H s.heap b (.tup [.int q.1,.int q.2])from I.hok b _ hb)
  obtain⟨k1,k2,rfl⟩:=AB r1;obtain⟨k3,k4,rfl⟩:=AB r2
  have h:=SeqAt.RcAt.tuples (A:=A) (s:=s) (e:=fun j=>if j=0 then p.1==q.1 else p.2==q.2) t1 t2 hu (fun j h1 h2=>by
   have hj:j=0\/j=1:=by
    have h1':j<2:=h1;omega
   rcases hj with rfl|rfl
   ·exact SeqAt.EqAt.int_int _ _ _ _
   ·exact SeqAt.EqAt.int_int _ _ _ _)
  have e:((List.range (min ([Value.int p.1 k1,Value.int p.2 k2].toArray).size ([Value.int q.1 k3,Value.int q.2 k4].toArray).size)).all (fun j=>if j=0 then p.1==q.1 else p.2==q.2)&&([Value.int p.1 k1,Value.int p.2 k2].toArray).size==([Value.int q.1 k3,Value.int q.2 k4].toArray).size)=decide (p=q):=by
   show((List.range 2).all (fun j=>if j=0 then p.1==q.1 else p.2==q.2)&&true)=decide (p=q);rw[Bool.and_true];have e2:(List.range 2).all (fun j=>if j=0 then p.1==q.1 else p.2==q.2)=((p.1==q.1)&&(p.2==q.2)):=by simp[List.range,List.range.loop]
   rw[e2];by_cases h1:p.1=q.1
   ·by_cases h2:p.2=q.2
    ·rw[Yh (Prod.ext h1 h2)];simp[h1,h2]
    ·rw[Yv (fun z=>h2 (by rw[z]))];simp[h2]
   ·rw[Yv (fun z=>h1 (by rw[z]))];simp[h1]
  rw[e]at h;exact SeqAt.EqAt.of_refs hab h
def eP(H:Hp)(q:Int×Int)(u:Value):Bool:=match u with
 | .ref a=>(match H a with
  |some (.tup [.int i,.int j])=>decide ((i,j)=q)
  |_=>false)
 |_=>false
def CY{v:V}{u:Value}{p q:Int×Int}(h:Uu H v p)(r:RelV v u):eP H q u=decide (p=q):=by
 obtain⟨a,rfl,ha⟩:=h;obtain rfl:u=Value.ref a:=r;unfold eP;simp only[ha]
def N0{q:Int×Int}:∀{vs:List V}{us:List Value}{ps:List (Int×Int)},Vals vs us->LV Uu H vs ps->us.any (eP H q)=decide (q∈ps)
 |_,_,[],.nil,_=>rfl
 |_,_,_::_,.nil,h=>absurd h.1 (by simp)
 |v::vs,u::us,[],.cons _ _,h=>absurd h.1 (by simp)
 |v::vs,u::us,p::ps,.cons r t,h=>by
  obtain⟨v',e,hv⟩:=h.2 0 p rfl;cases e
  have ht:LV Uu H vs ps:=⟨by simpa using h.1,fun i x e=>h.2 (i+1) x e⟩;rw[WZ,CY hv r,N0 t ht];by_cases e1:p=q
  ·subst e1;simp
  ·by_cases e2:q∈ps
   ·simp[e1,e2]
   ·have:¬q=p:=fun z=>e1 z.symm
    simp[e1,e2,this]
def rInP(neg:Bool):R2:=fun x y H Q=>∃(l:Addr) (ps:List (Int×Int)) (q:Int×Int),y=.ref l/\Uu H x q/\LAt Uu H l ps/\Q (.bl (if neg then !decide (q∈ps)else decide (q∈ps))) H
def Bo{A:Around}{x:V}{v:Value}{q:Int×Int}(I:Inv X pins σ H s)(hu:A.units<cLine)(rx:RelV x v)(hx:Uu H x q):∀{vs:List V}{us:List Value}{ps:List (Int×Int)},Vals vs us->LV Uu H vs ps->∀u∈us,SeqAt.EqAt A s u v (eP H q u)
 |_,_,_,.nil,_,u,hu'=>by cases hu'
 |w::vs,u::us,[],.cons _ _,h,_,_=>absurd h.1 (by simp)
 |w::vs,u::us,p::ps,.cons r t,h,u',hu'=>by
  obtain⟨w',e,hw⟩:=h.2 0 p rfl;cases e
  have ht:LV Uu H vs ps:=⟨by simpa using h.1,fun i x e=>h.2 (i+1) x e⟩;rcases Yo.mp hu' with rfl|hu'
  ·rw[CY hw r];exact EN I hu r rx hw hx
  ·exact Bo I hu rx hx t ht u' hu'
def He(hu:X.A.in1.units<cLine):OpR X (compareOp .In) (rInP false):=by
 intro pins s σ H x y v u Q I rx ry h;obtain⟨l,ps,q,rfl,hx,⟨vs,hl,hv⟩,k⟩:=h;cases ry
 obtain⟨its,r,pl,hz⟩:=I.list (SqL.of hl);refine SeqAt.in_listAt (eP H q) pl.isList (fun w hw=>Bo I hu rx hx r hv w (by simpa using hw)) ⟨.bl _,H,I,rfl,?_⟩;rw[show its.toArray.any (eP H q)=its.any (eP H q) by simp,N0 r hv];exact k
def OM(hu:X.A.in1.units<cLine):OpR X (compareOp .NotIn) (rInP true):=by
 intro pins s σ H x y v u Q I rx ry h;obtain⟨l,ps,q,rfl,hx,⟨vs,hl,hv⟩,k⟩:=h;cases ry
 obtain⟨its,r,pl,hz⟩:=I.list (SqL.of hl);refine SeqAt.notIn_listAt (eP H q) pl.isList (fun w hw=>Bo I hu rx hx r hv w (by simpa using hw)) ⟨.bl _,H,I,rfl,?_⟩;rw[show its.toArray.any (eP H q)=its.any (eP H q) by simp,N0 r hv];exact k
end
end Own
namespace M
open PySem PySem.Spec PyProof.Rows L2 Own
section
variable {α:Type}{R:Hp->V->α->Prop}{H:Hp}
def pick(c:α->Bool)(d:V×α):Option V:=if c d.2=true then some d.1 else none
end
end M
namespace Own
open PySem PySem.Spec PyProof.Rows L2 M
section
variable {X:Cx}
def runI(i:Int)(n:Nat):List Int:=(List.range n).map fun(k:Nat)=>i+(k:Int)
end
end Own
namespace Own
open PySem PySem.Spec PyProof.Rows L2
section
variable {X:Cx}{K:Za}
def Af(hc:X.calm=true)(hK:X.K=K:=by rfl):Ug X (.builtin "sum") (fun xs H Q=>∃(p:Addr) (ns:List Int),xs=[.ref p]/\SqL K H p (ns.map V.int)/\Q (.int ns.sum) H):=by
 subst hK;intro pins s σ H xs us Q I rv h;obtain⟨p,ns,rfl,hS,q⟩:=h;obtain⟨u,rfl,ru⟩:=rv.one;obtain rfl:u=Value.ref p:=ru;obtain⟨its,r,pl,_⟩:=I.list hS;have hi:IntsAre its ns:=by simpa using P8 r
 obtain⟨ys,hx⟩:=hi.allInts.items;have hl:=pl.isList;rw[hx]at hl;refine sum_intListG (I.ok.hd hc) hl fun h' tk t' hk=>?_
 have e1:ns=ys.toList.map (·.1):=by
  rw[←nums_intItems,←hx];exact(show numsOf its.toArray.toList=ns from hi.numsOf).symm
 have e2:preSum (numAt ys) ys.size=ns.sum:=by
  rw[preSum_eq,WH (by simp),e1]
 rw[e2];exact⟨.int ns.sum,H,I.kept (t':=tk) hk,⟨_,rfl⟩,q⟩
def E8(hc:X.calm=true)(hK:X.K=K:=by rfl):Ug X (.builtin "min") (fun xs H Q=>∃(p:Addr) (ns:List Int),xs=[.ref p]/\SqL K H p (ns.map V.int)/\0<ns.length/\∀M,M∈ns->(∀a∈ns,M<=a)->Q (.int M) H):=by
 subst hK;intro pins s σ H xs us Q I rv h;obtain⟨p,ns,rfl,hS,hne,q⟩:=h;obtain⟨u,rfl,ru⟩:=rv.one;obtain rfl:u=Value.ref p:=ru;obtain⟨its,r,pl,_⟩:=I.list hS;have hi:IntsAre its ns:=by simpa using P8 r
 obtain⟨ys,e⟩:=hi.allInts.items;have hl:=pl.isList;rw[e]at hl;have hns:ns=ys.toList.map (·.1):=by rw[←hi.numsOf,←nums_intItems,←e]
 have hsz:0<ys.size:=by
  have h3:=hne;rw[hns,Ya,YC]at h3;exact h3
 refine min_intList (I.ok.hd hc) hl hsz fun v h' tk hv hk=>?_;obtain⟨t,rfl⟩:=intItems_at hv;obtain⟨h1,h2⟩:=argBest_lt (numAt ys) (ys.size-1);refine⟨.int _,H,I.kept (t':=tk) hk,⟨_,rfl⟩,q _ ?_ fun a ha=>?_⟩
 ·rw[hns,numAt_eq];exact getD_mem (by rw[Ya,YC];omega)
 ·rw[hns]at ha;obtain⟨j,hj,rfl⟩:=YJ.mp ha;rw[Ya,YC]at hj
  have:=h2 j (by omega)
  rw[numAt_eq ys j]at this;rw[Yd,ZZ (by rw[Ya,YC];exact hj)]at this;exact this
def BS:∀{bs:List Bool}{us:List Value},Vals (bs.map V.bl) us->LSm.BoolsAre us bs
 |[],_,.nil=>.nil
 |b::r,_,.cons h t=>by
  cases (show _=Value.bool b from h)
  exact .cons b (BS t)
def Ft(hc:X.calm=true)(hK:X.K=K:=by rfl):Ug X (.builtin "any") (fun xs H Q=>∃(p:Addr) (bs:List Bool),xs=[.ref p]/\SqL K H p (bs.map V.bl)/\Q (.bl (bs.any id)) H):=by
 subst hK;intro pins s σ H xs us Q I rv h;obtain⟨p,bs,rfl,hS,q⟩:=h;obtain⟨u,rfl,ru⟩:=rv.one;obtain rfl:u=Value.ref p:=ru;obtain⟨its,r,pl,_⟩:=I.list hS;have hb:=BS r;have hl:=pl.isList;have hlt:p<s.heap.objs.size:=by obtain⟨_,e,_⟩:=hl;exact Yk e
 refine call_any_walk (wpAny_pyIter_list hl ?_)
 refine⟨s.heap.objs.size,[s.heap.objs.size,p],[s.heap.objs.size],its.toArray.size,_,_,fun i=>(bs[i]?).getD false,rfl,Walks.list (A:=X.A.in1) (I.ok.hd hc) _ p (Y6 hlt) its.toArray,
  ⟨⟨_,Ym _ rfl,rfl,rfl⟩,hl.push _⟩,fun i v s' Q' E' hP hQ=>?_,fun h' tk hk=>?_⟩
 ·obtain⟨b,e,rfl⟩:=hb.get i v (by simpa using hP);simp only[e,Option.getD_some]at hQ;exact W6 hQ
 ·have e:((List.range its.toArray.size).any fun i=>(bs[i]?).getD false)=bs.any id:=by
   rw[Yp,hb.length];exact LSm.range_any bs
  rw[e];exact⟨.bl (bs.any id),H,I.kept (t':=tk) (LSm.kept_iter hk),rfl,q⟩
end
end Own
namespace M
open PySem PySem.Spec PyProof.Rows L2 Own
def NP(ws:List (Int×Int))(r:List Int):Prop:=∀(i:Nat) (x y:Int),r[i]?=some x->r[i+1]?=some y->(x,y)∈ws
structure Ring (hs:List Int) (ws:List (Int×Int)) (r:List Int):Prop where
 two:2<=r.length
 nodup:r.Nodup
 sub:∀x∈r,x∈hs
 chain:NP ws r
 last:∀x y,r[0]?=some x->r[r.length-1]?=some y->(y,x)∈ws
def Ring.ahead {hs:List Int}{ws:List (Int×Int)}{r:List Int} (R:Ring hs ws r) {x:Int} (hx:x∈r):∃y∈r,(y,x)∈ws:=by
 obtain⟨i,hi,e⟩:=YJ.mp hx;have two:=R.two;cases i with
 |zero=>
  have hl:r.length-1<r.length:=by omega
  exact⟨r[r.length-1],Yr hl,R.last x _ (by rw[ZZ hi,e]) (ZZ hl)⟩
 |succ i=>
  have hl:i<r.length:=by omega
  exact⟨r[i],Yr hl,R.chain i _ x (ZZ hl) (by rw[ZZ hi,e])⟩
def NI:∀{xs ys:List Int},xs.Nodup->(∀x∈xs,x∈ys)->xs.length<=ys.length
 |[],_,_,_=>Wb _
 |x::xs,ys,nd,h=>by
  obtain⟨h1,h2⟩:=YG.mp nd;have hx:x∈ys:=h x (Yy ..);have ih:=NI (ys:=ys.erase x) h2 fun z hz=>(List.mem_erase_of_ne (fun e:z=x=>h1 (e▸hz))).mpr (h z (Yu _ hz));rw[List.length_erase_of_mem hx]at ih
  have:0<ys.length:=List.length_pos_of_mem hx
  rw[Y3];omega
def OH{ws:List (Int×Int)}{ls:List Int}(hu:∀q∈ws,q.1≠q.2)(hne:ls≠[])(h:∀x∈ls,∃y∈ls,(y,x)∈ws):∃r,Ring ls ws r:=by
 have grow:∀(n:Nat) (r:List Int),r≠[]->r.Nodup->(∀x∈r,x∈ls)->NP ws r->ls.length<r.length+n->∃r,Ring ls ws r:=by
  intro n
  induction n with
  |zero=>
   intro r hr nd sub ch hl
   have:=NI nd sub
   omega
  |succ n ih=>
   intro r hr nd sub ch hl;cases r with
   |nil=>exact absurd rfl hr
   |cons x t=>
    obtain⟨y,hy,hw⟩:=h x (sub x (Yy ..));by_cases hm:y∈x::t
    ·obtain⟨i,hi,e⟩:=YJ.mp hm
     have hi0:i≠0:=fun z=>by
      subst z;have e':x=y:=e;exact hu _ hw e'.symm
     have hlen:((x::t).take (i+1)).length=i+1:=by
      rw[YD];omega
     refine⟨(x::t).take (i+1),by omega,nd.sublist (Q4 _ _),fun z hz=>sub z (List.mem_of_mem_take hz),fun k a b h1 h2=>?_,fun a b h1 h2=>?_⟩
     ·have hk:k+1<i+1:=by
       have:=(Y2.mp h2).1
       omega
      rw[Wq (by omega)]at h1;rw[Wq hk]at h2;exact ch k a b h1 h2
     ·rw[hlen,Qy,Wq (by omega),ZZ hi,e]at h2;rw[Wq (by omega)]at h1;cases h1
      cases h2
      exact hw
    ·refine ih (y::x::t) (by simp) (YG.mpr ⟨hm,nd⟩) (fun z hz=>?_) (fun k a b h1 h2=>?_) (by rw[Y3];omega)
     ·rcases Yo.mp hz with rfl|hz
      ·exact hy
      ·exact sub z hz
     ·cases k with
      |zero=>
       cases h1
       cases h2
       exact hw
      |succ k=>exact ch k a b h1 h2
 obtain⟨x,hx⟩:=List.exists_mem_of_ne_nil ls hne;exact grow (ls.length+1) [x] (by simp) (by simp) (fun y hy=>by rw[Yf.mp hy];exact hx) (fun i a b h1 h2=>by simp at h2) (by show ls.length<1+(ls.length+1);omega)
end M
namespace M
def sl:List Int->List Int->Prop
 |x::xs,y::ys=>x<y\/(x=y/\sl xs ys)
 |_,_=>False
def sl_cons{l:Int}{a b:List Int}:sl (l::a) (l::b)↔sl a b:=by
 show(l<l\/(l=l/\sl a b))↔sl a b;constructor
 ·rintro(h|⟨_,h⟩)
  ·omega
  ·exact h
 ·exact fun h=>.inr ⟨rfl,h⟩
def JB(g:Int):List Int->Int
 |[]=>g
 |x::t=>JB x t
def XY(g:Int):∀(a b:List Int),JB g (a++b)=JB (JB g a) b
 |[],b=>rfl
 |x::a,b=>XY x a b
def Bf(g:Int):∀(t:List Int),(g::t)[t.length]?=some (JB g t)
 |[]=>rfl
 |x::t=>by
  rw[Y3,WW];exact Bf x t
def Path(C:Int->Prop)(ws:List (Int×Int)):Int->List Int->Prop
 |_,[]=>True
 |g,x::t=>C x/\(g,x)∈ws/\Path C ws x t
section
variable {C:Int->Prop}{ws:List (Int×Int)}
def path_app:∀{g:Int}{a b:List Int},Path C ws g (a++b)↔Path C ws g a/\Path C ws (JB g a) b
 |g,[],b=>⟨fun h=>⟨trivial,h⟩,fun h=>h.2⟩
 |g,x::a,b=>by
  rw[Wr];constructor
  ·rintro⟨h1,h2,h3⟩
   have:=path_app.mp h3
   exact⟨⟨h1,h2,this.1⟩,this.2⟩
  ·rintro⟨⟨h1,h2,h3⟩,h4⟩;exact⟨h1,h2,path_app.mpr ⟨h3,h4⟩⟩
def FL:∀{g:Int}{t:List Int},Path C ws g t->∀x∈t,C x
 |g,[],_,x,h=>by cases h
 |g,y::t,⟨h1,_,h3⟩,x,h=>by
  rcases Yo.mp h with rfl|h
  ·exact h1
  ·exact FL h3 x h
def DG:∀{g:Int}{t:List Int},Path C ws g t->NP ws (g::t)
 |g,[],_=>fun i x y h1 h2=>by simp at h2
 |g,z::t,⟨h1,h2,h3⟩=>fun i x y k1 k2=>by
  cases i with
  |zero=>
   cases k1
   cases k2
   exact h2
  |succ i=>exact DG h3 i x y k1 k2
end
def Gr(hs:List Int)(l:Int):Int->Prop:=fun x=>x∈hs/\l<x
def Ks(hs:List Int)(ws:List (Int×Int))(l:Int)(t:List Int):Prop:=Path (Gr hs l) ws l t/\(JB l t,l)∈ws
def A4:∀{t:List Int},¬t.Nodup->∃a x b c,t=a++x::(b++x::c)
 |[],h=>absurd WD h
 |y::t,h=>by
  by_cases hy:y∈t
  ·obtain⟨b,c,e⟩:=List.append_of_mem hy;exact⟨[],y,b,c,by rw[e];rfl⟩
  ·obtain⟨a,x,b,c,e⟩:=A4 (t:=t) fun z=>h (YG.mpr ⟨hy,z⟩);exact⟨y::a,x,b,c,by rw[e];rfl⟩
def CT{hs:List Int}{ws:List (Int×Int)}{l:Int}{t:List Int}(hu:∀q∈ws,q.1≠q.2)(hl:l∈hs)(hc:Ks hs ws l t)(hmin:∀u,Ks hs ws l u->t.length<=u.length):Ring hs ws (l::t):=by
 have hne:t≠[]:=fun z=>by
  have h2:=hc.2;rw[z]at h2;exact hu _ h2 rfl
 have hg:=FL hc.1;refine⟨by have:=QZ.mpr hne;simp;omega,YG.mpr ⟨fun z=>absurd (hg l z).2 (by omega),?_⟩,fun x hx=>?_,DG hc.1,fun x y h1 h2=>?_⟩
 ·refine YL fun z=>?_;obtain⟨a,x,b,c,e⟩:=A4 z;have h1:=hc.1;rw[e]at h1;obtain⟨p1,p2⟩:=path_app.mp h1;have p3:=(path_app (a:=x::b) (b:=x::c) (g:=JB l a)).mp p2
  have cl:Ks hs ws l (a++x::c):=by
   refine⟨path_app.mpr ⟨p1,p2.1,p2.2.1,p3.2.2.2⟩,?_⟩
   have e2:JB l (a++x::c)=JB l t:=by
    rw[e,XY,XY];show JB x c=JB x (b++x::c);rw[XY];rfl
   rw[e2];exact hc.2
  have:=hmin _ cl
  rw[e]at this;simp at this;omega
 ·rcases Yo.mp hx with rfl|hx
  ·exact hl
  ·exact(hg x hx).1
 ·cases h1
  have e:=Bf l t;simp only[Y3,Qy]at h2;rw[e]at h2;cases h2
  exact hc.2
def X8(ws:List (Int×Int)):Prop:=ws.length<=20/\ws.Nodup/\∀q∈ws,(1<=q.1/\q.1<=10/\1<=q.2/\q.2<=10)/\q.1≠q.2
open Own
def exM(ps:List (Int×Int))(ns:List Int)(p:Nat):Int:=(ps.getD (ns.getD (p-1) 0-1).toNat (0,0)).2*(ps.getD (ns.getD p 0-1).toNat (0,0)).2
def Ur(ns:List Int)(p:Nat):List Int:=ns.take (p-1)++[ns.getD p 0,ns.getD (p-1) 0]++ns.drop (p+1)
def Fz{ns:List Int}{p:Nat}(h1:1<=p)(h2:p<ns.length):(Ur ns p).Perm ns:=by
 unfold Ur;have e1:ns.getD p 0=ns[p]:=by rw[Yd,ZZ h2];rfl
 have e2:ns.getD (p-1) 0=ns[p-1]'(by omega):=by rw[Yd,ZZ (by omega)];rfl
 rw[e1,e2]
 have e:ns=ns.take (p-1)++[ns[p-1]'(by omega),ns[p]]++ns.drop (p+1):=by
  have h3:ns.drop (p-1)=ns[p-1]'(by omega)::ns.drop (p-1+1):=YX (by omega);have h4:ns.drop p=ns[p]::ns.drop (p+1):=YX h2;have h5:p-1+1=p:=by omega
  rw[h5,h4]at h3
  calc ns=ns.take (p-1)++ns.drop (p-1):=(QL _ _).symm
   _=_:=by rw[h3];simp
 refine List.Perm.trans ?_ (List.Perm.of_eq e.symm);exact List.Perm.append_right _ (List.Perm.append_left _ (List.Perm.swap _ _ _))
def runI_mem{n:Nat}{x:Int}:x∈runI 1 n↔1<=x/\x<=n:=by
 unfold runI;rw[Y7];constructor
 ·rintro⟨k,hk,rfl⟩
  have:=Wj.mp hk
  omega
 ·intro h;exact⟨(x-1).toNat,Wj.mpr (by omega),by omega⟩
def Tv(n:Nat):(runI 1 n).length=n:=by unfold runI;rw[Ya,List.length_range]
end M
namespace Pu
open PySem PySem.Spec PyProof.Rows L2 Own
inductive D where
 |int (i:Int)|bl (b:Bool)|non|str (x:Str)|ty (n:String)|tup (ds:List D)|lst (ds:List D)|scr (ns:List Int)|dK (kvs:List (Key×V))|dT (kvs:List (List Key×V))|loc (a:Addr) (d:D)|err (C:Addr)|ref (a:Addr)|ins (C:Addr) (xs:List Str) (ds:List D)|dF (kvs:List (List Key×V))
mutual
inductive Rp (K:Za) (H:Hp):D->V->Prop
 |int (i:Int):Rp K H (.int i) (.int i)
 |bl (b:Bool):Rp K H (.bl b) (.bl b)
 |non:Rp K H .non .non
 |str (x:Str):Rp K H (.str x) (.str x)
 |ty (n:String):Rp K H (.ty n) (.ty n)
 |tup {ds:List D} {vs:List V} {a:Addr}:H a=some (.tup vs)->Rps K H ds vs->Rp K H (.tup ds) (.ref a)
 |lst {ds:List D} {vs:List V} {a:Addr}:H a=some (.lst vs)->Rps K H ds vs->Rp K H (.lst ds) (.ref a)
 |scr {ns:List Int} {a:Addr}:SqL K H a (ns.map V.int)->Rp K H (.scr ns) (.ref a)
 |dK {kvs:List (Key×V)} {a:Addr}:H a=some (.dK kvs)->Rp K H (.dK kvs) (.ref a)
 |dT {kvs:List (List Key×V)} {a:Addr}:H a=some (.dT kvs)->Rp K H (.dT kvs) (.ref a)
 |dF {kvs:List (List Key×V)} {o:Obj} {a:Addr}:H a=some (.frz o (.dT kvs))->Rp K H (.dF kvs) (.ref a)
 |loc {d:D} {a:Addr}:Rp K H d (.ref a)->Rp K H (.loc a d) (.ref a)
 |err {C a:Addr}:H a=some (ExcR.ErrH a C)->Rp K H (.err C) (.ref a)
 |ref (a:Addr):Rp K H (.ref a) (.ref a)
 |ins {C a dx:Addr} {xs:List Str} {ds:List D} {vs:List V}:H a=some (.ins C dx (xs.zip vs))->xs.length=vs.length->Rps K H ds vs->Rp K H (.ins C xs ds) (.ref a)
inductive Rps (K:Za) (H:Hp):List D->List V->Prop
 |nil:Rps K H [] []
 |cons {d:D} {v:V} {ds:List D} {vs:List V}:Rp K H d v->Rps K H ds vs->Rps K H (d::ds) (v::vs)
end
section
variable {K:Za}{H H':Hp}
mutual
def Rp.mono (S:Same H H'):∀{d:D}{v:V},Rp K H d v->Rp K H' d v
 |_,_,.int i=>.int i
 |_,_,.bl b=>.bl b
 |_,_,.non=>.non
 |_,_,.str x=>.str x
 |_,_,.ty n=>.ty n
 |_,_,.tup h r=>.tup (S _ _ h) (Rps.mono S r)
 |_,_,.lst h r=>.lst (S _ _ h) (Rps.mono S r)
 |_,_,.scr h=>.scr (S.seq h)
 |_,_,.dK h=>.dK (S _ _ h)
 |_,_,.dT h=>.dT (S _ _ h)
 |_,_,.loc h=>.loc (Rp.mono S h)
 |_,_,.dF h=>.dF (S _ _ h)
 |_,_,.err h=>.err (S _ _ h)
 |_,_,.ref a=>.ref a
 |_,_,.ins h e r=>.ins (S _ _ h) e (Rps.mono S r)
def Rps.mono (S:Same H H'):∀{ds:List D}{vs:List V},Rps K H ds vs->Rps K H' ds vs
 |_,_,.nil=>.nil
 |_,_,.cons h r=>.cons (Rp.mono S h) (Rps.mono S r)
end
def Rps.len:∀{ds:List D}{vs:List V},Rps K H ds vs->vs.length=ds.length
 |_,_,.nil=>rfl
 |_,_,.cons _ r=>YS (· + 1) (Rps.len r)
def Rps.get:∀{ds:List D}{vs:List V}{i:Nat}{d:D},Rps K H ds vs->ds[i]?=some d->∃v,vs[i]?=some v/\Rp K H d v
 |_,_,_,_,.nil,e=>by simp at e
 |_,_,0,_,.cons h _,e=>by simp at e;subst e;exact⟨_,rfl,h⟩
 |_,_,i+1,d,.cons _ r,e=>by
  obtain⟨v,h1,h2⟩:=Rps.get (i:=i) (d:=d) r (by simpa using e);exact⟨v,by simpa using h1,h2⟩
def Rps.getV:∀{ds:List D}{vs:List V}{i:Nat}{v:V},Rps K H ds vs->vs[i]?=some v->∃d,ds[i]?=some d/\Rp K H d v
 |_,_,_,_,.nil,e=>by simp at e
 |_,_,0,_,.cons h _,e=>by simp at e;subst e;exact⟨_,rfl,h⟩
 |_,_,i+1,d,.cons _ r,e=>by
  obtain⟨v,h1,h2⟩:=Rps.getV (i:=i) (v:=d) r (by simpa using e);exact⟨v,by simpa using h1,h2⟩
def Rps.append:∀{ds es:List D}{vs us:List V},Rps K H ds vs->Rps K H es us->Rps K H (ds++es) (vs++us)
 |_,_,_,_,.nil,s=>s
 |_,_,_,_,.cons h r,s=>.cons h (Rps.append r s)
def Rps.drop:∀{ds:List D}{vs:List V} (n:Nat),Rps K H ds vs->Rps K H (ds.drop n) (vs.drop n)
 |_,_,0,r=>r
 |_,_,_+1,.nil=>.nil
 |_,_,n+1,.cons _ r=>Rps.drop n r
def Rps.take:∀{ds:List D}{vs:List V} (n:Nat),Rps K H ds vs->Rps K H (ds.take n) (vs.take n)
 |_,_,0,_=>.nil
 |_,_,_+1,.nil=>.nil
 |_,_,n+1,.cons h r=>.cons h (Rps.take n r)
end
mutual
def imm:D->Bool
 | .tup ds=>imms ds
 | .lst _=>false
 | .scr _=>false
 | .dK _=>false
 | .dT _=>false
 | .loc _ _=>false
 | .err _=>false
 | .ins _ _ _=>false
 |_=>true
def imms:List D->Bool
 |[]=>true
 |d::r=>imm d&&imms r
end
open Classical in
noncomputable def off(Z:Addr->Prop)(H:Hp):Hp:=fun b=>if Z b then none else H b
section
variable {K:Za}{H H':Hp}{Z Z':Addr->Prop}
def Xa{b:Addr}{o:HO}(h:off Z H b=some o):H b=some o/\¬Z b:=by
 unfold off at h;by_cases z:Z b
 ·rw[Yg z]at h;cases h
 ·rw[Ye z]at h;exact⟨h,z⟩
def JV{b:Addr}{o:HO}(h:H b=some o)(z:¬Z b):off Z H b=some o:=by
 unfold off;rw[Ye z];exact h
def Jx(S:Same H H')(hz:∀b o,H b=some o->¬Z b->¬Z' b):Same (off Z H) (off Z' H'):=fun b o h=>by
 obtain⟨h1,h2⟩:=Xa h;exact JV (S b o h1) (hz b o h1 h2)
def off_sub:Same (off Z H) H:=fun _ _ h=>(Xa h).1
mutual
def Rp.off (hm:∀b,Z b->Mut (H b)):∀{d:D}{v:V},Rp K H d v->imm d=true->Rp K (off Z H) d v
 |_,_,.int i,_=>.int i
 |_,_,.bl b,_=>.bl b
 |_,_,.non,_=>.non
 |_,_,.str x,_=>.str x
 |_,_,.ty n,_=>.ty n
 |_,_,.tup h r,e=>.tup (JV h fun z=>by have:=hm _ z;rw[h]at this;exact this) (Rps.off hm r (by unfold imm at e;exact e))
 |_,_,.lst _ _,e=>by unfold imm at e;cases e
 |_,_,.scr _,e=>by unfold imm at e;cases e
 |_,_,.dK _,e=>by unfold imm at e;cases e
 |_,_,.dT _,e=>by unfold imm at e;cases e
 |_,_,.loc _,e=>by unfold imm at e;cases e
 |_,_,.dF h,_=>.dF (JV h fun z=>by have:=hm _ z;rw[h]at this;exact this)
 |_,_,.err _,e=>by unfold imm at e;cases e
 |_,_,.ref a,_=>.ref a
 |_,_,.ins _ _ _,e=>by unfold imm at e;cases e
def Rps.off (hm:∀b,Z b->Mut (H b)):∀{ds:List D}{vs:List V},Rps K H ds vs->imms ds=true->Rps K (off Z H) ds vs
 |_,_,.nil,_=>.nil
 |_,_,.cons h r,e=>by
  unfold imms at e;rw[YA]at e;exact .cons (Rp.off hm h e.1) (Rps.off hm r e.2)
end
end
inductive O where
 |lst (ds:List D)|dK (kvs:List (Key×V))|dT (kvs:List (List Key×V))|ins (a C:Addr) (xs:List Str) (cs:List (Addr×List D))|lsA (a:Addr) (ds:List D)|nst (cs:List (Addr×List D))|nsl (a:Addr) (cs:List (Addr×List D))
instance:Coe (List D) O:=⟨O.lst⟩
def O.d:O->D
 | .lst ds=>.lst ds | .dK kvs=>.dK kvs | .dT kvs=>.dT kvs | .ins _ C xs cs=>.ins C xs (cs.map fun c=>.lst c.2) | .lsA _ ds=>.lst ds | .nst cs=>.tup (cs.map fun c=>.lst c.2) | .nsl _ cs=>.lst (cs.map fun c=>.lst c.2)
def O.adr (a:Addr):O->Addr->Prop
 | .lst _=>fun b=>b=a
 | .dK _=>fun b=>b=a
 | .dT _=>fun b=>b=a
 | .ins x _ _ cs=>fun b=>b=x\/∃c∈cs,b=c.1
 | .lsA x _=>fun b=>b=x
 | .nst cs=>fun b=>∃c∈cs,b=c.1
 | .nsl x cs=>fun b=>b=x\/∃c∈cs,b=c.1
def OR(K:Za)(F H:Hp)(a:Addr):O->Prop
 | .lst ds=>∃vs,H a=some (.lst vs)/\Rps K F ds vs
 | .dK kvs=>H a=some (.dK kvs)
 | .dT kvs=>H a=some (.dT kvs)
 | .lsA x ds=>a=x/\∃vs,H a=some (.lst vs)/\Rps K F ds vs
 | .ins x C xs cs=>a=x/\xs.length=cs.length/\(∃dx,H a=some (.ins C dx (xs.zip (cs.map fun c=>V.ref c.1))))/\(∀c∈cs,∃vs,H c.1=some (.lst vs)/\Rps K F c.2 vs)/\(cs.map (·.1)).Nodup
 | .nsl x cs=>a=x/\H a=some (.lst (cs.map fun c=>V.ref c.1))/\(∀c∈cs,∃vs,H c.1=some (.lst vs)/\Rps K F c.2 vs)/\(x::cs.map (·.1)).Nodup
 | .nst cs=>F a=some (.tup (cs.map fun c=>V.ref c.1))/\(∀c∈cs,∃vs,H c.1=some (.lst vs)/\Rps K F c.2 vs)/\(cs.map (·.1)).Nodup
def OR.mono {K:Za}{F F' H H':Hp}{a:Addr}{o:O} (S1:Same F F') (S2:∀b,o.adr a b->∀x,H b=some x->H' b=some x) (h:OR K F H a o):OR K F' H' a o:=by
 cases o with
 |lst ds=>obtain⟨vs,h1,h2⟩:=h;exact⟨vs,S2 _ rfl _ h1,Rps.mono S1 h2⟩
 |dK kvs=>exact S2 _ rfl _ h
 |dT kvs=>exact S2 _ rfl _ h
 |lsA x ds=>obtain⟨rfl,vs,h1,h2⟩:=h;exact⟨rfl,vs,S2 _ rfl _ h1,Rps.mono S1 h2⟩
 |nsl x cs=>
  obtain⟨e,h1,h2,h3⟩:=h;exact⟨e,S2 _ (.inl e) _ h1,fun c hc=>let ⟨vs,q1,q2⟩:=h2 c hc;⟨vs,S2 _ (.inr ⟨c,hc,rfl⟩) _ q1,Rps.mono S1 q2⟩,h3⟩
 |nst cs=>
  obtain⟨h1,h2,h3⟩:=h;exact⟨S1 _ _ h1,fun c hc=>let ⟨vs,q1,q2⟩:=h2 c hc;⟨vs,S2 _ ⟨c,hc,rfl⟩ _ q1,Rps.mono S1 q2⟩,h3⟩
 |ins x C xs cs=>
  obtain⟨e,l,⟨dx,h1⟩,h2,h3⟩:=h;exact⟨e,l,⟨dx,S2 _ (.inl e) _ h1⟩,fun c hc=>let ⟨vs,q1,q2⟩:=h2 c hc;⟨vs,S2 _ (.inr ⟨c,hc,rfl⟩) _ q1,Rps.mono S1 q2⟩,h3⟩
def X1{K:Za}{F:Hp}:∀{cs:List (Addr×List D)},(∀c∈cs,∃vs,F c.1=some (.lst vs)/\Rps K F c.2 vs)->Rps K F (cs.map fun c=>.lst c.2) (cs.map fun c=>V.ref c.1)
 |[],_=>.nil
 |c::cs,h=>let ⟨_,q1,q2⟩:=h c Yy;.cons (.lst q1 q2) (X1 fun c' hc=>h c' (Yu _ hc))
def OR.rpIn {K:Za}{F F' H:Hp}{a:Addr}{o:O} (S1:Same F F') (S2:∀b,o.adr a b->∀x,H b=some x->F' b=some x) (h:OR K F H a o):Rp K F' o.d (.ref a):=by
 cases o with
 |lst ds=>obtain⟨vs,h1,h2⟩:=h;exact .lst (S2 _ rfl _ h1) (Rps.mono S1 h2)
 |dK kvs=>exact .dK (S2 _ rfl _ h)
 |dT kvs=>exact .dT (S2 _ rfl _ h)
 |lsA x ds=>obtain⟨rfl,vs,h1,h2⟩:=h;exact .lst (S2 _ rfl _ h1) (Rps.mono S1 h2)
 |nsl x cs=>
  obtain⟨e,h1,h2,h3⟩:=h;exact .lst (S2 _ (.inl e) _ h1) (X1 fun c hc=>let ⟨vs,q1,q2⟩:=h2 c hc;⟨vs,S2 _ (.inr ⟨c,hc,rfl⟩) _ q1,Rps.mono S1 q2⟩)
 |nst cs=>
  obtain⟨h1,h2,h3⟩:=h;exact .tup (S1 _ _ h1) (X1 fun c hc=>let ⟨vs,q1,q2⟩:=h2 c hc;⟨vs,S2 _ ⟨c,hc,rfl⟩ _ q1,Rps.mono S1 q2⟩)
 |ins x C xs cs=>
  obtain⟨e,l,⟨dx,h1⟩,h2,h3⟩:=h;exact .ins (S2 _ (.inl e) _ h1) (by rw[Ya];exact l) (X1 fun c hc=>let ⟨vs,q1,q2⟩:=h2 c hc;⟨vs,S2 _ (.inr ⟨c,hc,rfl⟩) _ q1,Rps.mono S1 q2⟩)
def OR.rp {K:Za}{F H:Hp}{a:Addr}{o:O} (S1:Same F H) (h:OR K F H a o):Rp K H o.d (.ref a):=h.rpIn S1 fun _ _ _ e=>e
def OR.mut {K:Za}{F H:Hp}{a:Addr}{o:O} (h:OR K F H a o):∀b,o.adr a b->Mut (H b):=by
 cases o with
 |lst ds=>obtain⟨vs,h1,h2⟩:=h;intro b e;rw[show b=a from e,h1];trivial
 |dK kvs=>intro b e;rw[show b=a from e,show H a=some (.dK kvs)from h];trivial
 |dT kvs=>intro b e;rw[show b=a from e,show H a=some (.dT kvs)from h];trivial
 |lsA x ds=>obtain⟨rfl,vs,h1,h2⟩:=h;intro b e;rw[show b=a from e,h1];trivial
 |nsl x cs=>
  obtain⟨e,h1,h2,h3⟩:=h;intro b hb;rcases hb with hb|⟨c,hc,hb⟩
  ·rw[show b=a from hb.trans e.symm,h1];trivial
  ·obtain⟨vs,q1,_⟩:=h2 c hc;rw[hb,q1];trivial
 |nst cs=>
  obtain⟨h1,h2,h3⟩:=h;rintro b ⟨c,hc,hb⟩;obtain⟨vs,q1,_⟩:=h2 c hc;rw[hb,q1];trivial
 |ins x C xs cs=>
  obtain⟨e,l,⟨dx,h1⟩,h2,h3⟩:=h;intro b hb;rcases hb with hb|⟨c,hc,hb⟩
  ·rw[show b=a from hb.trans e.symm,h1];trivial
  ·obtain⟨vs,q1,_⟩:=h2 c hc;rw[hb,q1];trivial
inductive S where
 |bor (d:D)|sh (d:D)|own (o:O)|view (o:O)|tmp (d:D)
abbrev Γ:=List (Option S)
def D.strip:D->D
 | .loc _ d=>d|d=>d
def Rp.strip {K:Za}{H:Hp}{d:D}{v:V} (h:Rp K H d v):Rp K H d.strip v:=by
 cases h with
 |loc h=>exact h
 |int i=>exact .int i
 |bl b=>exact .bl b
 |non=>exact .non
 |str x=>exact .str x
 |ty n=>exact .ty n
 |tup h r=>exact .tup h r
 |lst h r=>exact .lst h r
 |scr h=>exact .scr h
 |dK h=>exact .dK h
 |dT h=>exact .dT h
 |dF h=>exact .dF h
 |err h=>exact .err h
 |ref a=>exact .ref a
 |ins h e r=>exact .ins h e r
def S.d:S->D
 | .bor d=>d.strip | .sh d=>d | .own o=>o.d | .view o=>o.d | .tmp d=>d
def arg(d:D):S:=match imm d with|true=>.sh d|false=>.bor d
def argT(d:D):S:=match imm d with|true=>.sh d|false=>.tmp d
def S.sub:S->D->S
 | .bor _,e=>arg e | .tmp _,e=>argT e | .own (.nst _),e=>argT e | .view (.nst _),e=>argT e | .own (.nsl _ _),e=>argT e | .view (.nsl _ _),e=>argT e|_,e=>.sh e
def S.shd:S->Option D
 | .sh d=>some d | .own o=>some o.d
 | .bor d=>match imm d with|true=>some d|false=>none
 | .tmp d=>match imm d with|true=>some d|false=>none
 | .view _=>none
def S.slot:S->Option S
 | .view _=>none | .bor d=>some (.bor d) | .sh d=>some (.sh d) | .own ds=>some (.own ds)
 | .tmp d=>match imm d with|true=>some (.sh d)|false=>none
def Gb(γ:Γ)(σ:L2.St)(b:Addr):Prop:=∃(i:Nat) (ds:O) (a:Addr),γ[i]?=some (some (.own ds))/\σ[i]?=some (some (.ref a))/\ds.adr a b
def zof(B:Addr->Prop)(γ:Γ)(σ:L2.St):Addr->Prop:=fun b=>B b\/Gb γ σ b
def SV(K:Za)(Z:Addr->Prop)(H0 H:Hp):S->V->Prop
 | .bor d,v=>Rp K H0 d v
 | .sh d,v=>Rp K (off Z H) d v
 | .own o,v=>∃a,v=.ref a/\(∀b,o.adr a b->H0 b=none)/\OR K (off Z H) H a o
 |_,_=>False
def TV(K:Za)(Z:Addr->Prop)(H0 H H':Hp):S->V->Prop
 | .bor d,v=>Rp K H0 d v
 | .sh d,v=>Rp K (off Z H') d v
 | .own o,v=>∃a,v=.ref a/\(∀b,o.adr a b->H b=none)/\OR K (off (fun b=>Z b\/o.adr a b) H') H' a o
 | .view o,v=>∃a,v=.ref a/\OR K (off Z H') H' a o
 | .tmp d,v=>Rp K H' d v
structure EnvR (K:Za) (H0:Hp) (B:Addr->Prop) (H:Hp) (σ:L2.St) (γ:Γ):Prop where
 same:Same H0 H
 len:σ.length=γ.length
 bm:∀b,B b->Mut (H b)
 own:∀(i j:Nat) (a a':Addr) (ds es:O) (b:Addr),γ[i]?=some (some (.own ds))->γ[j]?=some (some (.own es))->σ[i]?=some (some (.ref a))->σ[j]?=some (some (.ref a'))->ds.adr a b->es.adr a' b->i=j
 slot:∀(i:Nat) (s:S),γ[i]?=some (some s)->∃v,σ[i]?=some (some v)/\SV K (zof B γ σ) H0 H s v
section
variable {K:Za}{H0 H H1 H':Hp}{B Z Z':Addr->Prop}{σ:L2.St}{γ:Γ}
def UV(S:Same H H'){b:Addr}(h:Mut (H b)):Mut (H' b):=by
 cases e:H b with
 |none=>rw[e]at h;exact h.elim
 |some o=>rw[S b o e,←e];exact h
def P1{b:Addr}(h:Mut (H b)):∃o,H b=some o:=by
 cases e:H b with
 |none=>rw[e]at h;exact h.elim
 |some o=>exact⟨o,rfl⟩
def EnvR.grow (E:EnvR K H0 B H σ γ) (S:Same H H'):EnvR K H0 B H' σ γ where
 same:=E.same.trans S
 len:=E.len
 bm b h:=UV S (E.bm b h)
 own:=E.own
 slot i s h:=by
  obtain⟨v,h1,h2⟩:=E.slot i s h;refine⟨v,h1,?_⟩;cases s with
  |bor d=>exact h2
  |sh d=>exact Rp.mono (Jx S fun _ _ _ z=>z) h2
  |own ds=>
   obtain⟨a,e1,e3,e4⟩:=h2;exact⟨a,e1,e3,e4.mono (Jx S fun _ _ _ z=>z) fun b _ x=>S b x⟩
  |view ds=>exact h2
  |tmp d=>exact h2
def EnvR.zm (E:EnvR K H0 B H σ γ):∀b,zof B γ σ b->Mut (H b):=fun b h=>by
 rcases h with h|⟨i,ds,x,h1,h2,hb⟩
 ·exact E.bm b h
 ·obtain⟨v,e1,a,e2,e3,e4⟩:=E.slot i _ h1;rw[h2]at e1;cases e1
  cases e2
  exact e4.mut b hb
def TV.rp {s:S}{v:V} (h0:Same H0 H') (h:TV K Z H0 H H' s v):Rp K H' s.d v:=by
 cases s with
 |bor d=>exact(Rp.mono h0 h).strip
 |sh d=>exact Rp.mono off_sub h
 |own ds=>
  obtain⟨a,rfl,_,r⟩:=h;exact r.rp off_sub
 |view ds=>
  obtain⟨a,rfl,r⟩:=h;exact r.rp off_sub
 |tmp d=>exact h
def TV.grow {s:S}{v:V} (S1:Same H' H1) (h:TV K Z H0 H H' s v):TV K Z H0 H H1 s v:=by
 cases s with
 |bor d=>exact h
 |sh d=>exact Rp.mono (Jx S1 fun _ _ _ z=>z) h
 |own ds=>
  obtain⟨a,rfl,e0,r⟩:=h;exact⟨a,rfl,e0,r.mono (Jx S1 fun _ _ _ z=>z) fun b _ x=>S1 b x⟩
 |view ds=>
  obtain⟨a,rfl,r⟩:=h;exact⟨a,rfl,r.mono (Jx S1 fun _ _ _ z=>z) fun b _ x=>S1 b x⟩
 |tmp d=>exact Rp.mono S1 h
def TV.weak {s:S}{v:V} (S1:Same H H1) (hz:∀b,Z b->Z' b) (h:TV K Z' H0 H1 H' s v):TV K Z H0 H H' s v:=by
 cases s with
 |bor d=>exact h
 |sh d=>exact Rp.mono (Jx (Same.refl _) fun b _ _ z y=>z (hz b y)) h
 |own ds=>
  obtain⟨a,rfl,e0,r⟩:=h;exact⟨a,rfl,fun b hb=>S1.free (e0 b hb),r.mono (Jx (Same.refl _) fun b _ _ z y=>z (y.imp (hz b) id)) fun _ _ _ q=>q⟩
 |view ds=>
  obtain⟨a,rfl,r⟩:=h;exact⟨a,rfl,r.mono (Jx (Same.refl _) fun b _ _ z y=>z (hz b y)) fun _ _ _ q=>q⟩
 |tmp d=>exact h
def TV.shd {s:S}{v:V}{d:D} (h0:Same H0 H') (hm:∀b,Z b->Mut (H b)) (S1:Same H H') (h:TV K Z H0 H H' s v) (e:s.shd=some d):Rp K (off Z H') d v:=by
 have hm':∀b,Z b->Mut (H' b):=fun b z=>UV S1 (hm b z);cases s with
 |bor d'=>
  unfold S.shd at e;cases q:imm d' with
  |false=>simp[q]at e
  |true=>
   simp[q]at e;subst e;exact Rp.off hm' (Rp.mono h0 h) q
 |sh d'=>cases e;exact h
 |own ds=>
  cases e
  obtain⟨a,rfl,e0,r⟩:=h;exact r.rpIn (Jx (Same.refl _) fun b _ _ z y=>z (.inl y)) fun b hb x e=>JV e fun z=>by have:=hm _ z;rw[e0 b hb]at this;exact this
 |view ds=>cases e
 |tmp d'=>
  unfold S.shd at e;cases q:imm d' with
  |false=>simp[q]at e
  |true=>
   simp[q]at e;subst e;exact Rp.off hm' h q
def argR{d:D}{v:V}(hm:∀b,Z b->Mut (H' b))(h0:Same H0 H')(h:Rp K H0 d v):TV K Z H0 H H' (arg d) v:=by
 unfold arg;cases q:imm d with
 |true=>exact Rp.off hm (Rp.mono h0 h) q
 |false=>exact h
def UR{d:D}{v:V}(hm:∀b,Z b->Mut (H' b))(h:Rp K H' d v):TV K Z H0 H H' (argT d) v:=by
 unfold argT;cases q:imm d with
 |true=>exact Rp.off hm h q
 |false=>exact h
def Rp.lst_inv {ds:List D}{v:V} (h:Rp K H (.lst ds) v):∃a vs,v=.ref a/\H a=some (.lst vs)/\Rps K H ds vs:=by
 cases h with
 |lst h r=>exact⟨_,_,rfl,h,r⟩
def Rp.tup_inv {ds:List D}{v:V} (h:Rp K H (.tup ds) v):∃a vs,v=.ref a/\H a=some (.tup vs)/\Rps K H ds vs:=by
 cases h with
 |tup h r=>exact⟨_,_,rfl,h,r⟩
def TV.part {s:S}{v:V} (h0:Same H0 H') (hm:∀b,Z b->Mut (H b)) (S1:Same H H') (h:TV K Z H0 H H' s v) :
  (∀ds,s.d=.lst ds->∃a vs,v=.ref a/\H' a=some (.lst vs)/\vs.length=ds.length/\∀(i:Nat) d,ds[i]?=some d->∃u,vs[i]?=some u/\TV K Z H0 H H' (s.sub d) u)/\
  (∀ds,s.d=.tup ds->∃a vs,v=.ref a/\H' a=some (.tup vs)/\vs.length=ds.length/\∀(i:Nat) d,ds[i]?=some d->∃u,vs[i]?=some u/\TV K Z H0 H H' (s.sub d) u):=by
 have hm':∀b,Z b->Mut (H' b):=fun b z=>UV S1 (hm b z);cases s with
 |bor d=>
  have h:=Rp.strip h;refine⟨fun ds e=>?_,fun ds e=>?_⟩<;>rw[show d.strip=_ from e]at h
  ·obtain⟨a,vs,rfl,h,r⟩:=Rp.lst_inv h;exact⟨_,_,rfl,h0 _ _ h,r.len,fun i d e=>let ⟨u,h1,h2⟩:=r.get e;⟨u,h1,argR hm' h0 h2⟩⟩
  ·obtain⟨a,vs,rfl,h,r⟩:=Rp.tup_inv h;exact⟨_,_,rfl,h0 _ _ h,r.len,fun i d e=>let ⟨u,h1,h2⟩:=r.get e;⟨u,h1,argR hm' h0 h2⟩⟩
 |sh d=>
  refine⟨fun ds e=>?_,fun ds e=>?_⟩<;>(have e':d=_:=e;subst e')
  ·obtain⟨a,vs,rfl,h,r⟩:=Rp.lst_inv h;exact⟨_,_,rfl,off_sub _ _ h,r.len,fun i d e=>r.get e⟩
  ·obtain⟨a,vs,rfl,h,r⟩:=Rp.tup_inv h;exact⟨_,_,rfl,off_sub _ _ h,r.len,fun i d e=>r.get e⟩
 |own es=>
  cases es with
  |lst es=>
   refine⟨fun ds e=>?_,fun ds e=>by cases e⟩;cases e
   obtain⟨a,rfl,e0,vs,e,r⟩:=h;exact⟨a,vs,rfl,e,r.len,fun i d e=>let ⟨u,h1,h2⟩:=r.get e;⟨u,h1,Rp.mono (Jx (Same.refl _) fun b _ _ z y=>z (.inl y)) h2⟩⟩
  |lsA x es=>
   refine⟨fun ds e=>?_,fun ds e=>by cases e⟩;cases e
   obtain⟨a,rfl,e0,_,vs,e,r⟩:=h;exact⟨a,vs,rfl,e,r.len,fun i d e=>let ⟨u,h1,h2⟩:=r.get e;⟨u,h1,Rp.mono (Jx (Same.refl _) fun b _ _ z y=>z (.inl y)) h2⟩⟩
  |dK es=>exact⟨(fun ds e=>by cases e),(fun ds e=>by cases e)⟩
  |dT es=>exact⟨(fun ds e=>by cases e),(fun ds e=>by cases e)⟩
  |nsl x cs=>
   refine⟨fun ds e=>?_,fun ds e=>by cases e⟩;cases e
   obtain⟨a,rfl,e0,_,e1,e2,e3⟩:=h;have r:Rps K H' (cs.map fun c=>D.lst c.2) (cs.map fun c=>V.ref c.1):=X1 fun c hc=>let ⟨vs,q1,q2⟩:=e2 c hc;⟨vs,q1,Rps.mono off_sub q2⟩;exact⟨a,_,rfl,e1,r.len,fun i d e=>let ⟨u,h1,h2⟩:=r.get e;⟨u,h1,UR hm' h2⟩⟩
  |nst cs=>
   refine⟨(fun ds e=>by cases e),fun ds e=>?_⟩;cases e
   obtain⟨a,rfl,e0,e1,e2,e3⟩:=h;have r:Rps K H' (cs.map fun c=>D.lst c.2) (cs.map fun c=>V.ref c.1):=X1 fun c hc=>let ⟨vs,q1,q2⟩:=e2 c hc;⟨vs,q1,Rps.mono off_sub q2⟩;exact⟨a,_,rfl,off_sub _ _ e1,r.len,fun i d e=>let ⟨u,h1,h2⟩:=r.get e;⟨u,h1,UR hm' h2⟩⟩
  |ins x C xs cs=>exact⟨(fun ds e=>by cases e),(fun ds e=>by cases e)⟩
 |view es=>
  cases es with
  |lst es=>
   refine⟨fun ds e=>?_,fun ds e=>by cases e⟩;cases e
   obtain⟨a,rfl,vs,e,r⟩:=h;exact⟨a,vs,rfl,e,r.len,fun i d e=>r.get e⟩
  |lsA x es=>
   refine⟨fun ds e=>?_,fun ds e=>by cases e⟩;cases e
   obtain⟨a,rfl,_,vs,e,r⟩:=h;exact⟨a,vs,rfl,e,r.len,fun i d e=>r.get e⟩
  |dK es=>exact⟨(fun ds e=>by cases e),(fun ds e=>by cases e)⟩
  |dT es=>exact⟨(fun ds e=>by cases e),(fun ds e=>by cases e)⟩
  |nsl x cs=>
   refine⟨fun ds e=>?_,fun ds e=>by cases e⟩;cases e
   obtain⟨a,rfl,_,e1,e2,e3⟩:=h;have r:Rps K H' (cs.map fun c=>D.lst c.2) (cs.map fun c=>V.ref c.1):=X1 fun c hc=>let ⟨vs,q1,q2⟩:=e2 c hc;⟨vs,q1,Rps.mono off_sub q2⟩;exact⟨a,_,rfl,e1,r.len,fun i d e=>let ⟨u,h1,h2⟩:=r.get e;⟨u,h1,UR hm' h2⟩⟩
  |nst cs=>
   refine⟨(fun ds e=>by cases e),fun ds e=>?_⟩;cases e
   obtain⟨a,rfl,e1,e2,e3⟩:=h;have r:Rps K H' (cs.map fun c=>D.lst c.2) (cs.map fun c=>V.ref c.1):=X1 fun c hc=>let ⟨vs,q1,q2⟩:=e2 c hc;⟨vs,q1,Rps.mono off_sub q2⟩;exact⟨a,_,rfl,off_sub _ _ e1,r.len,fun i d e=>let ⟨u,h1,h2⟩:=r.get e;⟨u,h1,UR hm' h2⟩⟩
  |ins x C xs cs=>exact⟨(fun ds e=>by cases e),(fun ds e=>by cases e)⟩
 |tmp d=>
  refine⟨fun ds e=>?_,fun ds e=>?_⟩<;>(have e':d=_:=e;subst e')
  ·obtain⟨a,vs,rfl,h,r⟩:=Rp.lst_inv h;exact⟨_,_,rfl,h,r.len,fun i d e=>let ⟨u,h1,h2⟩:=r.get e;⟨u,h1,UR hm' h2⟩⟩
  ·obtain⟨a,vs,rfl,h,r⟩:=Rp.tup_inv h;exact⟨_,_,rfl,h,r.len,fun i d e=>let ⟨u,h1,h2⟩:=r.get e;⟨u,h1,UR hm' h2⟩⟩
def Fr(B:Addr->Prop)(H:Hp)(σ:L2.St)(γ:Γ)(H':Hp)(σ':L2.St)(γ':Γ):Prop:=∀b o,H b=some o->¬zof B γ σ b->H' b=some o/\¬zof B γ' σ' b
def Fr.refl:Fr B H σ γ H σ γ:=fun _ _ h z=>⟨h,z⟩
def Fr.trans {H1 H2:Hp}{σ1 σ2:L2.St}{γ1 γ2:Γ} (a:Fr B H σ γ H1 σ1 γ1) (b:Fr B H1 σ1 γ1 H2 σ2 γ2):Fr B H σ γ H2 σ2 γ2:=fun x o h z=>let ⟨h1,z1⟩:=a x o h z;b x o h1 z1
def Fr.grow (S1:Same H H'):Fr B H σ γ H' σ γ:=fun _ _ h z=>⟨S1 _ _ h,z⟩
def Fr.off {H':Hp}{σ':L2.St}{γ':Γ} (f:Fr B H σ γ H' σ' γ'):Same (off (zof B γ σ) H) (Pu.off (zof B γ' σ') H'):=fun b o h=>by
 obtain⟨h1,h2⟩:=Xa h;obtain⟨h3,h4⟩:=f b o h1 h2;exact JV h3 h4
def JK{α:Type}{l:List α}{i j:Nat}{x y:α}(h:(l.set i x)[j]?=some y):(j=i/\x=y/\i<l.length)\/(j≠i/\l[j]?=some y):=by
 rw[Vj]at h;by_cases e:i=j
 ·subst e;rw[Yg rfl]at h;by_cases e2:i<l.length
  ·rw[Yg e2]at h;exact .inl ⟨rfl,Yl h,e2⟩
  ·rw[Ye e2]at h;cases h
 ·rw[Ye e]at h;exact .inr ⟨fun z=>e z.symm,h⟩
def Ta{α:Type}{l:List α}{i:Nat}{x:α}(h:i<l.length):(l.set i x)[i]?=some x:=by rw[Q9 h]
def Xv{α:Type}{l:List α}{i j:Nat}{x:α}(h:j≠i):(l.set i x)[j]?=l[j]?:=Qp fun z=>h z.symm
def EnvR.drop (E:EnvR K H0 B H σ γ) (i:Nat):EnvR K H0 B H σ (γ.set i none)/\Fr B H σ γ H σ (γ.set i none):=by
 have hz:∀b,zof B (γ.set i none) σ b->zof B γ σ b:=fun b z=>z.imp id fun⟨j,ds,a,h1,h2,h3⟩=>by
  rcases JK h1 with⟨_,e,_⟩|⟨_,e⟩
  ·cases e
  ·exact⟨j,ds,a,e,h2,h3⟩
 refine⟨⟨E.same,by rw[W4];exact E.len,E.bm,fun k j a a' ds es b h1 h2=>?_,fun k s h=>?_⟩,fun b o h z=>⟨h,fun y=>z (hz b y)⟩⟩
 ·rcases JK h1 with⟨_,e,_⟩|⟨_,e1⟩
  ·cases e
  ·rcases JK h2 with⟨_,e,_⟩|⟨_,e2⟩
   ·cases e
   ·exact E.own k j a a' ds es b e1 e2
 ·rcases JK h with⟨_,e,_⟩|⟨_,e⟩
  ·cases e
  ·obtain⟨v,h1,h2⟩:=E.slot k s e;refine⟨v,h1,?_⟩;have S1:Same (Pu.off (zof B γ σ) H) (Pu.off (zof B (γ.set i none) σ) H):=Jx (Same.refl _) fun b _ _ z y=>z (hz b y);cases s with
   |bor d=>exact h2
   |sh d=>exact Rp.mono S1 h2
   |own ds=>
    obtain⟨a,e1,e3,e4⟩:=h2;exact⟨a,e1,e3,e4.mono S1 fun _ _ _ q=>q⟩
   |view ds=>exact h2
   |tmp d=>exact h2
def EnvR.put {i:Nat}{s s':S}{v:V} (E:EnvR K H0 B H σ γ) (S1:Same H H') (h:TV K (zof B γ σ) H0 H H' s v) (e:s.slot=some s') (hi:i<γ.length) :
  EnvR K H0 B H' (σ.set i (some v)) (γ.set i (some s'))/\Fr B H σ γ H' (σ.set i (some v)) (γ.set i (some s')):=by
 have hiσ:i<σ.length:=by rw[E.len];exact hi
 have E':=E.grow S1
 have isown:∀ds,s'=.own ds->s=.own ds:=fun ds q=>by
  subst q;cases s with
  |own es=>cases e;rfl
  |bor d=>cases e
  |sh d=>cases e
  |view d=>cases e
  |tmp d=>unfold S.slot at e;cases q:imm d<;>simp[q]at e
 have hown:∀b,zof B (γ.set i (some s')) (σ.set i (some v)) b->zof B γ σ b\/∃ds a,s=.own ds/\v=.ref a/\ds.adr a b:=fun b z=>by
  rcases z with z|⟨j,ds,a,h1,h2,h3⟩
  ·exact .inl (.inl z)
  ·rcases JK h1 with⟨ej,e1,_⟩|⟨nj,e1⟩
   ·subst ej;rw[Ta hiσ]at h2
    have:s'=.own ds:=Yl e1
    exact .inr ⟨ds,a,isown ds this,Yl (Yl h2),h3⟩
   ·rw[Xv nj]at h2;exact .inl (.inr ⟨j,ds,a,e1,h2,h3⟩)
 have fresh:∀ds a b,s=.own ds->v=.ref a->ds.adr a b->H b=none:=fun ds a b es ev hb=>by
  subst es;obtain⟨a',e1,e0,_⟩:=h;rw[ev]at e1;cases e1
  exact e0 b hb
 have hz:∀b o,H b=some o->¬zof B γ σ b->¬zof B (γ.set i (some s')) (σ.set i (some v)) b:=fun b o hb z y=>by
  rcases hown b y with y|⟨ds,a,y1,y2,y3⟩
  ·exact z y
  ·rw[fresh ds a b y1 y2 y3]at hb;cases hb
 have So:Same (off (zof B γ σ) H) (Pu.off (zof B (γ.set i (some s')) (σ.set i (some v))) H'):=Jx S1 hz;refine⟨⟨E'.same,by rw[W4,W4];exact E.len,E'.bm,fun k j a a' ds es b h1 h2 h3 h4 h5 h6=>?_,fun k u hk=>?_⟩,fun b o hb z=>⟨S1 b o hb,hz b o hb z⟩⟩
 ·have old:∀(k:Nat) (ds:O) (a b:Addr),γ[k]?=some (some (.own ds))->σ[k]?=some (some (.ref a))->ds.adr a b->∃o,H b=some o:=fun k ds a b e1 e2 e3=>by
   obtain⟨u,q1,a',q2,_,q3⟩:=E.slot k _ e1;rw[e2]at q1;cases q1
   cases q2
   exact P1 (q3.mut b e3)
  rcases JK h1 with⟨ek,e1,_⟩|⟨nk,e1⟩
  ·rcases JK h2 with⟨ej,e2,_⟩|⟨nj,e2⟩
   ·rw[ek,ej]
   ·subst ek;rw[Ta hiσ]at h3;rw[Xv nj]at h4;obtain⟨o,ho⟩:=old j es a' b e2 h4 h6;rw[fresh ds a b (isown ds (Yl e1)) (Yl (Yl h3)) h5]at ho;cases ho
  ·rcases JK h2 with⟨ej,e2,_⟩|⟨nj,e2⟩
   ·subst ej;rw[Ta hiσ]at h4;rw[Xv nk]at h3;obtain⟨o,ho⟩:=old k ds a b e1 h3 h5;rw[fresh es a' b (isown es (Yl e2)) (Yl (Yl h4)) h6]at ho;cases ho
   ·rw[Xv nk]at h3;rw[Xv nj]at h4;exact E.own k j a a' ds es b e1 e2 h3 h4 h5 h6
 ·rcases JK hk with⟨ek,e1,_⟩|⟨nk,e1⟩
  ·subst ek
   have:u=s':=(Yl e1).symm
   subst this;refine⟨v,Ta hiσ,?_⟩;cases s with
   |own ds=>
    cases e
    obtain⟨a,rfl,e0,r⟩:=h;refine⟨a,rfl,fun b hb=>E.same.free (e0 b hb),r.mono (Jx (Same.refl _) fun b o _ z y=>?_) fun _ _ _ q=>q⟩;rcases hown b y with y|⟨_,_,y1,y,y2⟩
    ·exact z (.inl y)
    ·cases y;cases y1;exact z (.inr y2)
   |sh d=>
    cases e
    refine Rp.mono (Jx (Same.refl _) fun b o _ z y=>?_) h;rcases hown b y with y|⟨_,_,y,_⟩
    ·exact z y
    ·cases y
   |bor d=>cases e;exact h
   |view d=>cases e
   |tmp d=>
    unfold S.slot at e;cases q:imm d with
    |false=>simp[q]at e
    |true=>
     simp[q]at e;subst e;refine Rp.off (fun b y=>?_) h q;rcases hown b y with y|⟨_,_,y,_⟩
     ·exact UV S1 (E.zm b y)
     ·cases y
  ·obtain⟨w,q1,q2⟩:=E.slot k u e1;refine⟨w,by rw[Xv nk];exact q1,?_⟩;cases u with
   |bor d=>exact q2
   |sh d=>exact Rp.mono So q2
   |own ds=>
    obtain⟨a,e1,e3,e4⟩:=q2;exact⟨a,e1,e3,e4.mono So fun b _ x=>S1 b x⟩
   |view ds=>exact q2
   |tmp d=>exact q2
def frz(i:Nat)(γ:Γ):Γ:=match γ[i]? with
 |some (some (.own o))=>γ.set i (some (.sh o.d))
 |_=>γ
def EnvR.frz (E:EnvR K H0 B H σ γ) (hB:∀b,B b->∃o,H0 b=some o) (i:Nat):EnvR K H0 B H σ (frz i γ)/\Fr B H σ γ H σ (Pu.frz i γ):=by
 unfold Pu.frz;split
 ·rename_i ds hi;have hlt:i<γ.length:=(Y2.mp hi).1
  have hz:∀b,zof B (γ.set i (some (.sh ds.d))) σ b->zof B γ σ b:=fun b z=>z.imp id fun⟨j,es,a,h1,h2,h3⟩=>by
   rcases JK h1 with⟨_,e,_⟩|⟨_,e⟩
   ·cases e
   ·exact⟨j,es,a,e,h2,h3⟩
  have S1:Same (Pu.off (zof B γ σ) H) (Pu.off (zof B (γ.set i (some (.sh ds.d))) σ) H):=Jx (Same.refl _) fun b _ _ z y=>z (hz b y);refine⟨⟨E.same,by rw[W4];exact E.len,E.bm,fun k j a a' es es' b h1 h2=>?_,fun k s h=>?_⟩,fun b o h z=>⟨h,fun y=>z (hz b y)⟩⟩
  ·rcases JK h1 with⟨_,e,_⟩|⟨_,e1⟩
   ·cases e
   ·rcases JK h2 with⟨_,e,_⟩|⟨_,e2⟩
    ·cases e
    ·exact E.own k j a a' es es' b e1 e2
  ·rcases JK h with⟨ek,e,_⟩|⟨nk,e⟩
   ·subst ek
    have:=Yl e
    subst this;obtain⟨v,h1,a,rfl,h3,h4⟩:=E.slot k _ hi;refine⟨_,h1,h4.rpIn S1 fun b hb x h2=>JV h2 fun z=>?_⟩;rcases z with z|⟨j,es,a',e1,e2,e3⟩
    ·obtain⟨o,ho⟩:=hB b z;rw[h3 b hb]at ho;cases ho
    ·rcases JK e1 with⟨_,q,_⟩|⟨nj,q⟩
     ·cases q
     ·exact nj (E.own j k a' a es ds b q hi e2 h1 e3 hb)
   ·obtain⟨v,h1,h2⟩:=E.slot k s e;refine⟨v,h1,?_⟩;cases s with
    |bor d=>exact h2
    |sh d=>exact Rp.mono S1 h2
    |own ds=>
     obtain⟨a,e1,e3,e4⟩:=h2;exact⟨a,e1,e3,e4.mono S1 fun _ _ _ q=>q⟩
    |view ds=>exact h2
    |tmp d=>exact h2
 ·exact⟨E,Fr.refl⟩
def EnvR.change {i:Nat}{a:Addr}{o o':O} (E:EnvR K H0 B H σ γ) (hi:γ[i]?=some (some (.own o))) (ha:σ[i]?=some (some (.ref a)))
  (hH:∀b x,H b=some x->¬o.adr a b->H' b=some x) (hm:∀b,o.adr a b->Mut (H' b)) (hadr:∀b,o'.adr a b->o.adr a b\/H b=none) (r:OR K (Pu.off (zof B (γ.set i (some (.own o'))) σ) H') H' a o') :
  EnvR K H0 B H' σ (γ.set i (some (.own o')))/\Fr B H σ γ H' σ (γ.set i (some (.own o'))):=by
 have hlt:i<γ.length:=(Y2.mp hi).1;obtain⟨v,h1,a',rfl,h3,h4⟩:=E.slot i _ hi;rw[ha]at h1;cases h1
 have za:∀b,o.adr a b->zof B γ σ b:=fun b hb=>.inr ⟨i,o,a,hi,ha,hb⟩
 have hz:∀b x,H b=some x->zof B (γ.set i (some (.own o'))) σ b->zof B γ σ b:=fun b x hx z=>by
  rcases z with z|⟨j,fs,a',e1,e2,e3⟩
  ·exact .inl z
  ·rcases JK e1 with⟨ej,q,_⟩|⟨_,e⟩
   ·subst ej;cases q
    rw[ha]at e2;cases e2
    rcases hadr b e3 with k|k
    ·exact za b k
    ·rw[k]at hx;cases hx
   ·exact .inr ⟨j,fs,a',e,e2,e3⟩
 have S1:Same (Pu.off (zof B γ σ) H) (Pu.off (zof B (γ.set i (some (.own o'))) σ) H'):=fun b x h=>by
  obtain⟨q1,q2⟩:=Xa h;exact JV (hH b x q1 fun k=>q2 (za b k)) fun z=>q2 (hz b x q1 z)
 have old:∀(k:Nat) (ds:O) (a b:Addr),γ[k]?=some (some (.own ds))->σ[k]?=some (some (.ref a))->ds.adr a b->∃o,H b=some o:=fun k ds a b e1 e2 e3=>by
  obtain⟨u,q1,a',q2,_,q3⟩:=E.slot k _ e1;rw[e2]at q1;cases q1
  cases q2
  exact P1 (q3.mut b e3)
 refine⟨⟨fun b x h=>?_,by rw[W4];exact E.len,fun b hb=>?_,fun k j x x' fs fs' b e1 e2 e3 e4 e5 e6=>?_,fun k s h=>?_⟩,fun b x h z=>⟨?_,fun y=>z (hz b x h y)⟩⟩
 ·exact hH b x (E.same b x h) fun k=>by rw[h3 b k]at h;cases h
 ·by_cases k:o.adr a b
  ·exact hm b k
  ·have:=E.bm b hb
   obtain⟨x,hx⟩:=P1 this;rw[hH b x hx k,←hx];exact this
 ·rcases JK e1 with⟨ek,q1,_⟩|⟨nk,q1⟩
  ·rcases JK e2 with⟨ej,_,_⟩|⟨nj,q2⟩
   ·rw[ek,ej]
   ·subst ek;cases q1
    rw[ha]at e3;cases e3
    rcases hadr b e5 with w|w
    ·exact E.own k j _ _ _ _ b hi q2 ha e4 w e6
    ·obtain⟨u,hu⟩:=old j fs' x' b q2 e4 e6;rw[w]at hu;cases hu
  ·rcases JK e2 with⟨ej,q2,_⟩|⟨nj,q2⟩
   ·subst ej;cases q2
    rw[ha]at e4;cases e4
    rcases hadr b e6 with w|w
    ·exact E.own k j _ _ _ _ b q1 hi e3 ha e5 w
    ·obtain⟨u,hu⟩:=old k fs x b q1 e3 e5;rw[w]at hu;cases hu
   ·exact E.own k j x x' fs fs' b q1 q2 e3 e4 e5 e6
 ·rcases JK h with⟨ek,e,_⟩|⟨nk,e⟩
  ·subst ek
   have:=Yl e
   subst this;exact⟨_,ha,a,rfl,fun b hb=>(hadr b hb).elim (h3 b) fun w=>E.same.free w,r⟩
  ·obtain⟨v,q1,q2⟩:=E.slot k s e;refine⟨v,q1,?_⟩;cases s with
   |bor d=>exact q2
   |sh d=>exact Rp.mono S1 q2
   |own fs=>
    obtain⟨x,rfl,e3,e4⟩:=q2;exact⟨x,rfl,e3,e4.mono S1 fun b hb y e2=>hH b y e2 fun w=>nk (E.own k i x a fs o b e hi q1 ha hb w)⟩
   |view ds=>exact q2
   |tmp d=>exact q2
 ·exact hH b x h fun k=>z (za b k)
def EnvR.mutate {i:Nat}{a:Addr}{ds es:O}{us:HO} (E:EnvR K H0 B H σ γ) (hi:γ[i]?=some (some (.own ds))) (ha:σ[i]?=some (some (.ref a))) (hu:Mut (some us)) (r:∀F H':Hp,Same (Pu.off (zof B γ σ) H) F->H' a=some us->OR K F H' a es)
  (k1:ds.adr a=fun b=>b=a:=by rfl) (k2:es.adr a=fun b=>b=a:=by rfl) :
  EnvR K H0 B (upd H a us) σ (γ.set i (some (.own es)))/\Fr B H σ γ (upd H a us) σ (γ.set i (some (.own es))):=by
 refine E.change (o:=ds) (o':=es) hi ha (fun b x h n=>by rw[Jv (fun z=>n (by rw[k1];exact z))];exact h) (fun b h=>by rw[k1]at h;rw[show b=a from h,J8];exact hu) (fun b h=>.inl (by rw[k1];rw[k2]at h;exact h)) (r _ _ ?_ J8)
 intro b x h;obtain⟨q1,q2⟩:=Xa h;have nb:b≠a:=fun z=>q2 (.inr ⟨i,ds,a,hi,ha,by rw[k1];exact z⟩);refine JV (by rw[Jv nb];exact q1) fun z=>q2 ?_;rcases z with z|⟨j,fs,a',e1,e2,e3⟩
 ·exact .inl z
 ·rcases JK e1 with⟨ej,q,_⟩|⟨_,e⟩
  ·subst ej;cases q
   rw[ha]at e2;cases e2
   rw[k2]at e3;exact absurd e3 nb
  ·exact .inr ⟨j,fs,a',e,e2,e3⟩
end
end Pu
namespace Pu
open PySem PySem.Spec PyProof.Rows L2 Own
abbrev XR:=Str->Prop
abbrev PTE:=Γ->(S->Prop)->XR->Prop
abbrev PTT:=Γ->(Bool->Prop)->XR->Prop
abbrev PTA:=Γ->(List S->Prop)->XR->Prop
abbrev PTO:=Γ->(Option Int->Prop)->XR->Prop
structure PEnds where
 nx:Γ->Prop
 rt:S->Prop
 ex:Γ->Str->Prop
 bk:Γ->Prop:=fun _=>False
 ct:Γ->Prop:=fun _=>False
 rv:Γ->D->Prop:=fun _ _=>False
abbrev PTS:=PEnds->Γ->Prop
abbrev PTG:=S->Γ->(Γ->Prop)->Prop
abbrev PTGs:=List S->Γ->(Γ->Prop)->Prop
inductive TVs (K:Za) (Z:Addr->Prop) (H0 H H':Hp):List S->List V->Prop
 |nil:TVs K Z H0 H H' [] []
 |cons {s:S} {v:V} {ss:List S} {vs:List V}:TV K Z H0 H H' s v->TVs K Z H0 H H' ss vs->TVs K Z H0 H H' (s::ss) (v::vs)
section
variable (K:Za) (mg:Str->Option Value) (E:L2.St->XK)
def SndE(t:TE)(p:PTE):Prop:=∀(H0:Hp) (B:Addr->Prop) (H:Hp) (σ:L2.St) (γ:Γ) (R:S->Prop) (X:XR) (Q:VK),EnvR K H0 B H σ γ->p γ R X->
 (∀s v H',R s->Same H H'->TV K (zof B γ σ) H0 H H' s v->Q v H')->(∀c H',X c->Same H H'->E σ (.ref (ExcR.Jq mg c)) none H')->t σ H Q
def SndT(t:TT)(p:PTT):Prop:=∀(H0:Hp) (B:Addr->Prop) (H:Hp) (σ:L2.St) (γ:Γ) (R:Bool->Prop) (X:XR) (Q:Bool->Hp->Prop),EnvR K H0 B H σ γ->p γ R X->
 (∀b H',R b->Same H H'->Q b H')->(∀c H',X c->Same H H'->E σ (.ref (ExcR.Jq mg c)) none H')->t σ H Q
def SndA(t:TA)(p:PTA):Prop:=∀(H0:Hp) (B:Addr->Prop) (H:Hp) (σ:L2.St) (γ:Γ) (R:List S->Prop) (X:XR) (Q:List V->Hp->Prop),EnvR K H0 B H σ γ->p γ R X->
 (∀ss vs H',R ss->Same H H'->TVs K (zof B γ σ) H0 H H' ss vs->Q vs H')->(∀c H',X c->Same H H'->E σ (.ref (ExcR.Jq mg c)) none H')->t σ H Q
def SndO(t:TO)(p:PTO):Prop:=∀(H0:Hp) (B:Addr->Prop) (H:Hp) (σ:L2.St) (γ:Γ) (R:Option Int->Prop) (X:XR) (Q:Option Int->Hp->Prop),EnvR K H0 B H σ γ->p γ R X->
 (∀o H',R o->Same H H'->Q o H')->(∀c H',X c->Same H H'->E σ (.ref (ExcR.Jq mg c)) none H')->t σ H Q
structure EndR (H0:Hp) (B:Addr->Prop) (H:Hp) (σ:L2.St) (γ:Γ) (R:PEnds) (D:Ends):Prop where
 nx:∀σ' γ' H',R.nx γ'->EnvR K H0 B H' σ' γ'->Fr B H σ γ H' σ' γ'->D.nx σ' H'
 rt:∀s v H',R.rt s->Same H0 H'->TV K B H0 H0 H' s v->D.rt v H'
 ex:∀σ' γ' c H',R.ex γ' c->EnvR K H0 B H' σ' γ'->Fr B H σ γ H' σ' γ'->E σ' (.ref (ExcR.Jq mg c)) none H'
 bk:∀σ' γ' H',R.bk γ'->EnvR K H0 B H' σ' γ'->Fr B H σ γ H' σ' γ'->D.bk σ' H'
 ct:∀σ' γ' H',R.ct γ'->EnvR K H0 B H' σ' γ'->Fr B H σ γ H' σ' γ'->D.ct σ' H'
 rv:∀σ' γ' d v H',R.rv γ' d->EnvR K H0 B H' σ' γ'->Fr B H σ γ H' σ' γ'->Rp K (off (zof B γ' σ') H') d v->D.rt v H'
def SndS(t:TS)(p:PTS):Prop:=∀(H0:Hp) (B:Addr->Prop) (H:Hp) (σ:L2.St) (γ:Γ) (R:PEnds) (D:Ends),(∀b,B b->∃o,H0 b=some o)->EnvR K H0 B H σ γ->p R γ->EndR K mg E H0 B H σ γ R D->t D σ H
end
section
variable {K:Za}{mg:Str->Option Value}{E:L2.St->XK}{H0 H H1 H':Hp}{B Z Z':Addr->Prop}{σ:L2.St}{γ:Γ}
def TVs.weakG {H1 H2:Hp}:∀{ss:List S}{vs:List V},Same H H1->TVs K Z H0 H1 H2 ss vs->TVs K Z H0 H H2 ss vs
 |_,_,_,.nil=>.nil
 |_,_,S1,.cons h r=>.cons (TV.weak S1 (fun _ z=>z) h) (TVs.weakG S1 r)
def TVs.rps (h0:Same H0 H'):∀{ss:List S}{vs:List V},TVs K Z H0 H H' ss vs->Rps K H' (ss.map S.d) vs
 |_,_,.nil=>.nil
 |_,_,.cons h r=>.cons (h.rp h0) (TVs.rps h0 r)
def TVs.shd {ds:List D} (h0:Same H0 H') (hm:∀b,Z b->Mut (H b)) (S1:Same H H'):∀{ss:List S}{vs:List V}{ds:List D},TVs K Z H0 H H' ss vs->ss.map S.shd=ds.map some->Rps K (off Z H') ds vs
 |_,_,[],.nil,_=>.nil
 |_,_,_::_,.nil,e=>by cases e
 |_,_,[],.cons _ _,e=>by cases e
 |_,_,d::ds,.cons h r,e=>by
  rw[Yq,Yq,QX]at e;exact .cons (h.shd h0 hm S1 e.1) (TVs.shd (ds:=ds) h0 hm S1 r e.2)
def Rp.int_inv {i:Int}{v:V} (h:Rp K H (.int i) v):v=.int i:=by cases h;rfl
def Rp.bl_inv {b:Bool}{v:V} (h:Rp K H (.bl b) v):v=.bl b:=by cases h;rfl
def Rp.str_inv {x:Str}{v:V} (h:Rp K H (.str x) v):v=.str x:=by cases h;rfl
def Rp.non_inv {v:V} (h:Rp K H .non v):v=.non:=by cases h;rfl
def Rp.ty_inv {n:String}{v:V} (h:Rp K H (.ty n) v):v=.ty n:=by cases h;rfl
def pVar(i:Nat):PTE:=fun γ R _=>match γ[i]? with
 |some (some (.own ds))=>R (.view ds)
 |some (some s)=>R s
 |_=>False
def Jg(i:Nat):SndE K mg E (tVar i) (pVar i):=by
 intro H0 B H σ γ R X Q env h q _;unfold pVar at h;split at h
 ·rename_i ds e;obtain⟨v,h1,a,rfl,h3,h4⟩:=env.slot i _ e;exact⟨_,h1,q _ _ H h (Same.refl _) ⟨a,rfl,h4⟩⟩
 ·rename_i s ns e;obtain⟨v,h1,h2⟩:=env.slot i _ e;refine⟨v,h1,q _ _ H h (Same.refl _) ?_⟩;cases s with
  |bor d=>exact h2
  |sh d=>exact h2
  |own ds=>exact absurd rfl (ns ds)
  |view ds=>exact h2.elim
  |tmp d=>exact h2.elim
 ·exact h.elim
def pC(d:D):PTE:=fun _ R _=>R (.sh d)
def se_c{d:D}{v:V}(h:∀H,Rp K H d v):SndE K mg E (tC v) (pC d):=by
 intro H0 B H σ γ R X Q env p q _;exact q _ _ H p (Same.refl _) (h _)
def Jh{i:Int}:SndE K mg E (tC (.int i)) (pC (.int i)):=se_c fun _=>.int i
def Uo{b:Bool}:SndE K mg E (tC (.bl b)) (pC (.bl b)):=se_c fun _=>.bl b
def Ti{x:Str}:SndE K mg E (tC (.str x)) (pC (.str x)):=se_c fun _=>.str x
def Ka{n:String}:SndE K mg E (tC (.ty n)) (pC (.ty n)):=se_c fun _=>.ty n
def p2(a b:PTE)(f:S->S->(S->Prop)->Prop):PTE:=fun γ R X=>a γ (fun x=>b γ (fun y=>f x y R) X) X
def se_2{r:R2}{ta tb:TE}{a b:PTE}{f:S->S->(S->Prop)->Prop}(ha:SndE K mg E ta a)(hb:SndE K mg E tb b)(hr:∀(H0 H H2:Hp) (Z:Addr->Prop) (x y:S) (v u:V) (R:S->Prop) (Q:VK),Same H0 H2->Same H H2->(∀b,Z b->Mut (H b))->TV K Z H0 H H2 x v->TV K Z H0 H H2 y u->f x y R->(∀s z H',R s->Same H2 H'->TV K Z H0 H H' s z->Q z H')->r v u H2 Q) :
  SndE K mg E (tOp r ta tb) (p2 a b f):=by
 intro H0 B H σ γ R X Q env p q qx;refine ha H0 B H σ γ _ X _ env p (fun x v H1 h1 S1 t1=>?_) qx;have env1:=env.grow S1;refine hb H0 B H1 σ γ _ X _ env1 h1 (fun y u H2 h2 S2 t2=>?_) fun c H' hc S'=>qx c H' hc (S1.trans S');exact hr H0 H H2 _ x y v u R Q (env1.same.trans S2) (S1.trans S2) env.zm (t1.grow S2) (TV.weak S1 (fun _ z=>z) t2) h2 fun s z H' hs S3 t3=>q s z H' hs ((S1.trans S2).trans S3) t3
def fI0(g:Int->Int->D):S->S->(S->Prop)->Prop:=fun x y R=>match x.d,y.d with
 | .int i,.int j=>R (.sh (g i j))
 |_,_=>False
def fI(C:Int->Int->Prop)(g:Int->Int->D):S->S->(S->Prop)->Prop:=fun x y R=>match x.d,y.d with
 | .int i,.int j=>C i j/\R (.sh (g i j))
 |_,_=>False
def KJ{g:Int->Int->V}{g':Int->Int->D}{ta tb:TE}{a b:PTE}(hg:∀H i j,Rp K H (g' i j) (g i j))(ha:SndE K mg E ta a)(hb:SndE K mg E tb b):SndE K mg E (tOp (rI0 g) ta tb) (p2 a b (fI0 g')):=by
 refine se_2 ha hb fun H0 H H2 Z x y v u R Q s0 s1 hm tx ty h q=>?_;unfold fI0 at h;have rx:=tx.rp s0;have ry:=ty.rp s0;split at h
 ·rename_i i j e1 e2;rw[e1]at rx;rw[e2]at ry;exact⟨i,j,rx.int_inv,ry.int_inv,q _ _ H2 h (Same.refl _) (hg _ i j)⟩
 ·exact h.elim
def se_I{C:Int->Int->Prop}{g:Int->Int->V}{g':Int->Int->D}{ta tb:TE}{a b:PTE}(hg:∀H i j,Rp K H (g' i j) (g i j))(ha:SndE K mg E ta a)(hb:SndE K mg E tb b):SndE K mg E (tOp (rI C g) ta tb) (p2 a b (fI C g')):=by
 refine se_2 ha hb fun H0 H H2 Z x y v u R Q s0 s1 hm tx ty h q=>?_;unfold fI at h;have rx:=tx.rp s0;have ry:=ty.rp s0;split at h
 ·rename_i i j e1 e2;rw[e1]at rx;rw[e2]at ry;exact⟨i,j,rx.int_inv,ry.int_inv,h.1,q _ _ H2 h.2 (Same.refl _) (hg _ i j)⟩
 ·exact h.elim
section
variable {ta tb tc:TE}{a b c:PTE}
def Ub(ha:SndE K mg E ta a)(hb:SndE K mg E tb b):SndE K mg E (tOp (rI0 fun i j=>.int (i+j)) ta tb) (p2 a b (fI0 fun i j=>.int (i+j))):=KJ (fun _ _ _=>.int _) ha hb
def U5(ha:SndE K mg E ta a)(hb:SndE K mg E tb b):SndE K mg E (tOp (rI0 fun i j=>.int (i-j)) ta tb) (p2 a b (fI0 fun i j=>.int (i-j))):=KJ (fun _ _ _=>.int _) ha hb
def XC(ha:SndE K mg E ta a)(hb:SndE K mg E tb b):SndE K mg E (tOp (rI CMul fun i j=>.int (i*j)) ta tb) (p2 a b (fI CMul fun i j=>.int (i*j))):=se_I (fun _ _ _=>.int _) ha hb
def UG(ha:SndE K mg E ta a)(hb:SndE K mg E tb b):SndE K mg E (tOp (rI CDiv fun i j=>.int (i / j)) ta tb) (p2 a b (fI CDiv fun i j=>.int (i / j))):=se_I (fun _ _ _=>.int _) ha hb
def JU(ha:SndE K mg E ta a)(hb:SndE K mg E tb b):SndE K mg E (tOp (rI (fun _ j=>0<j) fun i j=>.int (i % j)) ta tb) (p2 a b (fI (fun _ j=>0<j) fun i j=>.int (i % j))):=se_I (fun _ _ _=>.int _) ha hb
def To(ha:SndE K mg E ta a)(hb:SndE K mg E tb b):SndE K mg E (tOp (rI0 fun i j=>.bl (decide (i<j))) ta tb) (p2 a b (fI0 fun i j=>.bl (decide (i<j)))):=KJ (fun _ _ _=>.bl _) ha hb
def UK(ha:SndE K mg E ta a)(hb:SndE K mg E tb b):SndE K mg E (tOp (rI0 fun i j=>.bl (decide (j<i))) ta tb) (p2 a b (fI0 fun i j=>.bl (decide (j<i)))):=KJ (fun _ _ _=>.bl _) ha hb
def Ct(ha:SndE K mg E ta a)(hb:SndE K mg E tb b):SndE K mg E (tOp (rI0 fun i j=>.bl (decide (j<=i))) ta tb) (p2 a b (fI0 fun i j=>.bl (decide (j<=i)))):=KJ (fun _ _ _=>.bl _) ha hb
def fEq(neg:Bool):S->S->(S->Prop)->Prop:=fun x y R=>match x.d,y.d with
 | .int i,.int j=>R (.sh (.bl (if neg then !decide (i=j)else decide (i=j))))
 | .str i,.str j=>R (.sh (.bl (if neg then !decide (i=j)else decide (i=j))))
 | .bl i,.bl j=>R (.sh (.bl (if neg then !decide (i=j)else decide (i=j))))
 |_,_=>False
def Kt{α β:Type}[DecidableEq α][DecidableEq β]{f:α->β}(hf:∀a b,f a=f b->a=b)(a b:α):decide (f a=f b)=decide (a=b):=by
 by_cases e:a=b
 ·rw[Yh e,Yh (YS f e)]
 ·rw[Yv e,Yv fun z=>e (hf a b z)]
def fIx:S->S->(S->Prop)->Prop:=fun x y R=>match x.d,y.d with
 | .lst ds,.int k=>∃d,atI ds k=some d/\R (x.sub d)
 | .tup ds,.int k=>∃d,atI ds k=some d/\R (x.sub d)
 | .scr ns,.int k=>∃i,atI ns k=some i/\R (.sh (.int i))
 |_,_=>False
def Fd{ds:List D}{vs:List V}{k:Int}{d:D}{P:D->V->Prop}(hl:vs.length=ds.length)(h:∀(i:Nat) d,ds[i]?=some d->∃u,vs[i]?=some u/\P d u)(e:atI ds k=some d):∃u,atI vs k=some u/\P d u:=by
 unfold atI at e ⊢;rw[hl];cases q:ixN ds.length k with
 |none=>rw[q]at e;cases e
 |some j=>
  rw[q]at e;exact h j d e
def Ju(ha:SndE K mg E ta a)(hb:SndE K mg E tb b):SndE K mg E (tOp (fun x y H Q=>rIxL K x y H Q\/rIxT K x y H Q) ta tb) (p2 a b fIx):=by
 refine se_2 ha hb fun H0 H H2 Z x y v u R Q s0 s1 hm tx ty h q=>?_;unfold fIx at h;have ry:=ty.rp s0;obtain⟨pl,pt⟩:=tx.part s0 hm s1;split at h
 ·rename_i ds k e1 e2;rw[e2]at ry;obtain⟨d,hd,hR⟩:=h;obtain⟨l,vs,rfl,hl,hn,hp⟩:=pl ds e1;obtain⟨z,hz,tz⟩:=Fd hn hp hd;exact .inl ⟨l,vs,k,z,rfl,ry.int_inv,SqL.of hl,hz,q _ _ H2 hR (Same.refl _) tz⟩
 ·rename_i ds k e1 e2;rw[e2]at ry;obtain⟨d,hd,hR⟩:=h;obtain⟨l,vs,rfl,hl,hn,hp⟩:=pt ds e1;obtain⟨z,hz,tz⟩:=Fd hn hp hd;exact .inr ⟨l,vs,k,z,rfl,ry.int_inv,SqT.of hl,hz,q _ _ H2 hR (Same.refl _) tz⟩
 ·rename_i ns k e1 e2;rw[e2]at ry;obtain⟨i,hi,hR⟩:=h;have rx:=tx.rp s0;rw[e1]at rx;cases rx with
  |scr hs=>exact .inl ⟨_,_,k,.int i,rfl,ry.int_inv,hs,Xi hi,q _ _ H2 hR (Same.refl _) (.int i)⟩
 ·exact h.elim
def RS(a b:PTE):PTE:=fun γ R X=>a γ (fun x=>match x.d with | .bl c=>if c=true then b γ R X else R (.sh (.bl false))|_=>False) X
def pOrV(a b:PTE):PTE:=fun γ R X=>a γ (fun x=>match x.d with | .bl c=>if c=true then R (.sh (.bl true))else b γ R X|_=>False) X
def RR(a:PTE):PTE:=fun γ R X=>a γ (fun x=>match x.d with | .bl c=>R (.sh (.bl (!c)))|_=>False) X
def Tn(ha:SndE K mg E ta a)(hb:SndE K mg E tb b):SndE K mg E (Cg ta tb) (RS a b):=by
 intro H0 B H σ γ R X Q env p q qx;refine ha H0 B H σ γ _ X _ env p (fun x v H1 h1 S1 t1=>?_) qx;have env1:=env.grow S1;have rx:=t1.rp env1.same;split at h1
 ·rename_i c e1;rw[e1]at rx;refine⟨c,rx.bl_inv,?_⟩;split at h1
  ·rename_i hc;rw[Yg hc];exact hb H0 B H1 σ γ _ X _ env1 h1 (fun y u H2 h2 S2 t2=>q y u H2 h2 (S1.trans S2) (TV.weak S1 (fun _ z=>z) t2)) fun c H' hc S'=>qx c H' hc (S1.trans S')
  ·rename_i hc;rw[Ye hc];exact q _ _ H1 h1 S1 (.bl _)
 ·exact h1.elim
def E6(ha:SndE K mg E ta a)(hb:SndE K mg E tb b):SndE K mg E (tOrV ta tb) (pOrV a b):=by
 intro H0 B H σ γ R X Q env p q qx;refine ha H0 B H σ γ _ X _ env p (fun x v H1 h1 S1 t1=>?_) qx;have env1:=env.grow S1;have rx:=t1.rp env1.same;split at h1
 ·rename_i c e1;rw[e1]at rx;refine⟨c,rx.bl_inv,?_⟩;split at h1
  ·rename_i hc;rw[Yg hc];exact q _ _ H1 h1 S1 (.bl _)
  ·rename_i hc;rw[Ye hc];exact hb H0 B H1 σ γ _ X _ env1 h1 (fun y u H2 h2 S2 t2=>q y u H2 h2 (S1.trans S2) (TV.weak S1 (fun _ z=>z) t2)) fun c H' hc S'=>qx c H' hc (S1.trans S')
 ·exact h1.elim
def Nw(ha:SndE K mg E ta a):SndE K mg E (DA ta) (RR a):=by
 intro H0 B H σ γ R X Q env p q qx;refine ha H0 B H σ γ _ X _ env p (fun x v H1 h1 S1 t1=>?_) qx;have rx:=t1.rp (env.grow S1).same;split at h1
 ·rename_i c e1;rw[e1]at rx;exact⟨c,rx.bl_inv,q _ _ H1 h1 S1 (.bl _)⟩
 ·exact h1.elim
def pNeg(a:PTE):PTE:=fun γ R X=>a γ (fun x=>match x.d with | .int i=>R (.sh (.int (-i)))|_=>False) X
def K5(ha:SndE K mg E ta a):SndE K mg E (tUn (rU fun i=>.int (-i)) ta) (pNeg a):=by
 intro H0 B H σ γ R X Q env p q qx;refine ha H0 B H σ γ _ X _ env p (fun x v H1 h1 S1 t1=>?_) qx;have rx:=t1.rp (env.grow S1).same;split at h1
 ·rename_i c e1;rw[e1]at rx;exact⟨c,rx.int_inv,q _ _ H1 h1 S1 (.int _)⟩
 ·exact h1.elim
def Aq(a:PTE):PTT:=fun γ R X=>a γ (fun x=>match x.d with | .bl c=>R c|_=>False) X
def Jz(ha:SndE K mg E ta a):SndT K mg E (P4 ta) (Aq a):=by
 intro H0 B H σ γ R X Q env p q qx;refine ha H0 B H σ γ _ X _ env p (fun x v H1 h1 S1 t1=>?_) qx;have rx:=t1.rp (env.grow S1).same;split at h1
 ·rename_i c e1;rw[e1]at rx;exact⟨c,rx.bl_inv,q _ H1 h1 S1⟩
 ·exact h1.elim
def st_b(ha:SndE K mg E ta a):SndT K mg E (tB ta) (Aq a):=Jz ha
variable {sa sb:TT}{pa pb:PTT}
def pAnd(a b:PTT):PTT:=fun γ R X=>a γ (fun c=>if c=true then b γ R X else R false) X
def pOr(a b:PTT):PTT:=fun γ R X=>a γ (fun c=>if c=true then R true else b γ R X) X
def pNot(a:PTT):PTT:=fun γ R X=>a γ (fun c=>R (!c)) X
def XU(ha:SndT K mg E sa pa)(hb:SndT K mg E sb pb):SndT K mg E (tAnd sa sb) (pAnd pa pb):=by
 intro H0 B H σ γ R X Q env p q qx;refine ha H0 B H σ γ _ X _ env p (fun c H1 h1 S1=>?_) qx;split at h1
 ·rename_i hc;rw[Yg hc];exact hb H0 B H1 σ γ _ X _ (env.grow S1) h1 (fun y H2 h2 S2=>q y H2 h2 (S1.trans S2)) fun c H' hc S'=>qx c H' hc (S1.trans S')
 ·rename_i hc;rw[Ye hc];exact q _ H1 h1 S1
def U7(ha:SndT K mg E sa pa)(hb:SndT K mg E sb pb):SndT K mg E (tOr sa sb) (pOr pa pb):=by
 intro H0 B H σ γ R X Q env p q qx;refine ha H0 B H σ γ _ X _ env p (fun c H1 h1 S1=>?_) qx;split at h1
 ·rename_i hc;rw[Yg hc];exact q _ H1 h1 S1
 ·rename_i hc;rw[Ye hc];exact hb H0 B H1 σ γ _ X _ (env.grow S1) h1 (fun y H2 h2 S2=>q y H2 h2 (S1.trans S2)) fun c H' hc S'=>qx c H' hc (S1.trans S')
def U4(ha:SndT K mg E sa pa):SndT K mg E (tNot sa) (pNot pa):=by
 intro H0 B H σ γ R X Q env p q qx;exact ha H0 B H σ γ _ X _ env p (fun c H1 h1 S1=>q _ H1 h1 S1) qx
end
def pNil:PTA:=fun _ R _=>R []
def XS(a:PTE)(r:PTA):PTA:=fun γ R X=>a γ (fun s=>r γ (fun ss=>R (s::ss)) X) X
def J2:SndA K mg E tNil pNil:=by
 intro H0 B H σ γ R X Q env p q _;exact q _ _ H p (Same.refl _) .nil
def JA{te:TE}{ta:TA}{a:PTE}{r:PTA}(ha:SndE K mg E te a)(hr:SndA K mg E ta r):SndA K mg E (JR te ta) (XS a r):=by
 intro H0 B H σ γ R X Q env p q qx;refine ha H0 B H σ γ _ X _ env p (fun s v H1 h1 S1 t1=>?_) qx;refine hr H0 B H1 σ γ _ X _ (env.grow S1) h1 (fun ss vs H2 h2 S2 t2=>?_) fun c H' hc S'=>qx c H' hc (S1.trans S');exact q _ _ H2 h2 (S1.trans S2) (.cons (t1.grow S2) (TVs.weakG S1 t2))
def shds:List S->Option (List D)
 |[]=>some []
 |s::r=>match s.shd,shds r with
  |some d,some ds=>some (d::ds)
  |_,_=>none
def Bz:∀{ss:List S}{ds:List D},shds ss=some ds->ss.map S.shd=ds.map some
 |[],ds,h=>by cases h;rfl
 |s::r,ds,h=>by
  unfold shds at h;split at h
  ·rename_i d es e1 e2;cases h
   rw[Yq,Yq,e1,Bz e2]
  ·cases h
def pTup(r:PTA):PTE:=fun γ R X=>r γ (fun ss=>match shds ss with|some ds=>ds.length<=1000/\R (.sh (.tup ds))|none=>False) X
def pLst(r:PTA):PTE:=fun γ R X=>r γ (fun ss=>match shds ss with|some ds=>ds.length<=1000/\R (.own ds)|none=>False) X
def Sw{n:Nat}(h:n<=1000):n<=sizeLine:=Qk (CH h)
def Uk{ta:TA}{r:PTA}(hr:SndA K mg E ta r):SndE K mg E (tTup ta) (pTup r):=by
 intro H0 B H σ γ R X Q env p q qx;refine hr H0 B H σ γ _ X _ env p (fun ss vs H1 h1 S1 t1=>?_) qx;split at h1
 ·rename_i ds e;have env1:=env.grow S1;have rp:=t1.shd (ds:=ds) env1.same env.zm S1 (Bz e);refine⟨by rw[rp.len];exact Sw h1.1,fun l nl=>?_⟩;have S2:=JT (o:=.tup vs) nl;refine q _ _ _ h1.2 (S1.trans S2) (.tup (JV J8 fun z=>?_) (Rps.mono (Jx S2 fun _ _ _ z=>z) rp))
  have:=env1.zm l z
  rw[nl]at this;exact this
 ·exact h1.elim
def XW{H H1:Hp}{l:Addr}{vs:List V}{ds:List D}(S1:Same H H1)(nl:H1 l=none)(rp:Rps K (off Z H1) ds vs):TV K Z H0 H (upd H1 l (.lst vs)) (.own ds) (.ref l):=
 ⟨l,rfl,(fun _ e=>e▸S1.free nl),vs,J8,Rps.mono (Jx (JT nl) fun b o hb z y=>y.elim z fun e=>by rw[e,nl]at hb;cases hb) rp⟩
def JG{ta:TA}{r:PTA}(hr:SndA K mg E ta r):SndE K mg E (tLst ta) (pLst r):=by
 intro H0 B H σ γ R X Q env p q qx;refine hr H0 B H σ γ _ X _ env p (fun ss vs H1 h1 S1 t1=>?_) qx;split at h1
 ·rename_i ds e;have env1:=env.grow S1;have rp:=t1.shd (ds:=ds) env1.same env.zm S1 (Bz e);refine⟨by rw[rp.len];exact Sw h1.1,fun l nl=>?_⟩;exact q _ _ _ h1.2 (S1.trans (JT nl)) (XW S1 nl rp)
 ·exact h1.elim
abbrev Pc:=List D->(S->Prop)->XR->Prop
def spOf(mg:Str->Option Value)(c:Pc)(K:Za):Sp:=fun vs H Q E=>∃ds R X,Rps K H ds vs/\c ds R X/\(∀s v H',R s->Same H H'->TV K (fun b=>Mut (H b)) H H H' s v->Q v H')/\∀e H',X e->Same H H'->E (.ref (ExcR.Jq mg e)) none H'
def S.back:S->S
 | .bor d=>argT d | .view o=>.tmp o.d|s=>s
def TV.back {s:S}{v:V} (env:EnvR K H0 B H1 σ γ) (S1:Same H H1) (S2:Same H1 H') (h:TV K (fun b=>Mut (H1 b)) H1 H1 H' s v):TV K (zof B γ σ) H0 H H' s.back v:=by
 cases s with
 |bor d=>exact UR (fun b z=>UV S2 (env.zm b z)) (Rp.mono S2 h)
 |sh d=>exact Rp.mono (Jx (Same.refl _) fun b _ _ z y=>z (env.zm b y)) h
 |own ds=>
  obtain⟨a,rfl,e0,r⟩:=h;exact⟨a,rfl,(fun b hb=>S1.free (e0 b hb)),r.mono (Jx (Same.refl _) fun b _ _ z y=>z (y.imp (env.zm b) id)) fun _ _ _ q=>q⟩
 |view ds=>
  obtain⟨a,rfl,r⟩:=h;exact r.rp off_sub
 |tmp d=>exact h
def Io(c:Pc)(r:PTA):PTE:=fun γ R X=>r γ (fun ss=>c (ss.map S.d) (fun s=>R s.back) fun _=>False) X
def EC(c:Pc)(r:PTA):PTE:=fun γ R X=>r γ (fun ss=>c (ss.map S.d) (fun s=>R s.back) X) X
def Js{c:Pc}{ta:TA}{r:PTA}(hr:SndA K mg E ta r):SndE K mg E (Pn (spOf mg c K) [] E0 ta) (Io c r):=by
 intro H0 B H σ γ R X Q env p q qx;refine hr H0 B H σ γ _ X _ env p (fun ss vs H1 h1 S1 t1=>?_) qx;rw[Wd];have env1:=env.grow S1;exact⟨_,_,_,t1.rps env1.same,h1,fun s v H' hs S2 tv=>q _ _ H' hs (S1.trans S2) (tv.back env1 S1 S2),fun _ _ z=>z.elim⟩
def XZ{c:Pc}{ta:TA}{r:PTA}{Ec:XK}(hr:SndA K mg (fun _=>Ec) ta r):SndE K mg (fun _=>Ec) (Pn (spOf mg c K) [] Ec ta) (EC c r):=by
 intro H0 B H σ γ R X Q env p q qx;refine hr H0 B H σ γ _ X _ env p (fun ss vs H1 h1 S1 t1=>?_) qx;rw[Wd];have env1:=env.grow S1;exact⟨_,_,X,t1.rps env1.same,h1,fun s v H' hs S2 tv=>q _ _ H' hs (S1.trans S2) (tv.back env1 S1 S2),fun e H' he S2=>qx e H' he (S1.trans S2)⟩
end
section
variable {K:Za}{mg:Str->Option Value}{E:L2.St->XK}{H0 H H1 H':Hp}{B Z Z':Addr->Prop}{σ:L2.St}{γ:Γ}
def EnvR.set {i:Nat}{s s':S}{v:V} (Ev:EnvR K H0 B H σ γ) (S1:Same H H') (h:TV K (zof B γ σ) H0 H H' s v) (e:s.slot=some s') :
  EnvR K H0 B H' (σ.set i (some v)) (γ.set i (some s'))/\Fr B H σ γ H' (σ.set i (some v)) (γ.set i (some s')):=by
 by_cases hi:i<γ.length
 ·exact Ev.put S1 h e hi
 ·rw[List.set_eq_of_length_le (by rw[Ev.len];omega),List.set_eq_of_length_le (by omega)];exact⟨Ev.grow S1,Fr.grow S1⟩
def Upd(is:List Nat)(σ σ':L2.St):Prop:=(∀j,j∉is->σ'[j]?=σ[j]?)/\σ'.length=σ.length
def Kq(K:Za)(is:List Nat)(t:TG)(p:PTG):Prop:=∀(H0:Hp) (B:Addr->Prop) (H H':Hp) (σ:L2.St) (γ:Γ) (s:S) (v:V) (R:Γ->Prop) (Q:L2.St->Hp->Prop),EnvR K H0 B H σ γ->Same H H'->TV K (zof B γ σ) H0 H H' s v->p s γ R->
 (∀σ' γ',R γ'->EnvR K H0 B H' σ' γ'->Fr B H σ γ H' σ' γ'->Upd is σ σ'->Q σ' H')->t v σ H' Q
def AF(i:Nat):PTG:=fun s γ R=>match s.slot with|some s'=>R (γ.set i (some s'))|none=>False
def Jj(i:Nat):Kq K [i] (XH i) (AF i):=by
 intro H0 B H H' σ γ s v R Q env S1 tv p q;unfold AF at p;split at p
 ·rename_i s' e;obtain⟨e1,f1⟩:=env.set (i:=i) S1 tv e;exact q _ _ p e1 f1 ⟨fun j hj=>Xv fun z=>hj (by rw[z];exact Yf.mpr rfl),W4⟩
 ·exact p.elim
def LI:PTGs:=fun ss γ R=>match ss with|[]=>R γ|_=>False
def HN(g:PTG)(r:PTGs):PTGs:=fun ss γ R=>match ss with|s::t=>g s γ fun γ'=>r t γ' R|[]=>False
def TV.notown {s:S}{v:V}{σ':L2.St}{γ':Γ}{Hb:Hp} (f:Fr B H σ γ H' σ' γ') (hb:Same H H') (n:∀ds,s≠.own ds) (nv:∀ds,s≠.view ds) (h:TV K (zof B γ σ) H0 Hb H s v):TV K (zof B γ' σ') H0 H' H' s v:=by
 cases s with
 |bor d=>exact h
 |sh d=>exact Rp.mono f.off h
 |own ds=>exact absurd rfl (n ds)
 |view ds=>exact absurd rfl (nv ds)
 |tmp d=>exact Rp.mono hb h
def TVs.notown {σ':L2.St}{γ':Γ}{Hb:Hp} (f:Fr B H σ γ H σ' γ'):∀{ss:List S}{vs:List V},(∀s∈ss,∀ds,s≠.own ds/\s≠.view ds)->TVs K (zof B γ σ) H0 Hb H ss vs->TVs K (zof B γ' σ') H0 H H ss vs
 |_,_,_,.nil=>.nil
 |_,_,n,.cons h r=>.cons (h.notown f (Same.refl _) (fun ds=>(n _ Yy ds).1) fun ds=>(n _ Yy ds).2) (TVs.notown f (fun s hs=>n s (Yu _ hs)) r)
def Bb(d:D):arg d=.sh d\/arg d=.bor d:=by unfold arg;cases imm d<;>simp
def Pg(d:D):argT d=.sh d\/argT d=.tmp d:=by unfold argT;cases imm d<;>simp
def Eb(s:S)(d:D):∀ds,s.sub d≠.own ds/\s.sub d≠.view ds:=fun ds=>by
 cases s with
 |bor b=>rcases Bb d with e|e<;>(show arg d≠_/\arg d≠_;rw[e];exact⟨(fun z=>by cases z),(fun z=>by cases z)⟩)
 |tmp b=>rcases Pg d with e|e<;>(show argT d≠_/\argT d≠_;rw[e];exact⟨(fun z=>by cases z),(fun z=>by cases z)⟩)
 |sh b=>exact⟨(fun z=>by cases z),(fun z=>by cases z)⟩
 |own b=>
  cases b with
  |nst cs=>rcases Pg d with e|e<;>(show argT d≠_/\argT d≠_;rw[e];exact⟨(fun z=>by cases z),(fun z=>by cases z)⟩)
  |nsl a cs=>rcases Pg d with e|e<;>(show argT d≠_/\argT d≠_;rw[e];exact⟨(fun z=>by cases z),(fun z=>by cases z)⟩)
  |_=>exact⟨(fun z=>by cases z),(fun z=>by cases z)⟩
 |view b=>
  cases b with
  |nst cs=>rcases Pg d with e|e<;>(show argT d≠_/\argT d≠_;rw[e];exact⟨(fun z=>by cases z),(fun z=>by cases z)⟩)
  |nsl a cs=>rcases Pg d with e|e<;>(show argT d≠_/\argT d≠_;rw[e];exact⟨(fun z=>by cases z),(fun z=>by cases z)⟩)
  |_=>exact⟨(fun z=>by cases z),(fun z=>by cases z)⟩
def Tq(K:Za)(is:List Nat)(t:TGs)(p:PTGs):Prop:=∀(H0:Hp) (B:Addr->Prop) (H:Hp) (σ:L2.St) (γ:Γ) (ss:List S) (vs:List V) (R:Γ->Prop) (Q:L2.St->Hp->Prop),EnvR K H0 B H σ γ->TVs K (zof B γ σ) H0 H H ss vs->(∀s∈ss,∀ds,s≠.own ds/\s≠.view ds)->p ss γ R->
 (∀σ' γ',R γ'->EnvR K H0 B H σ' γ'->Fr B H σ γ H σ' γ'->Upd is σ σ'->Q σ' H)->t vs σ H Q
def Xy:Tq K [] gNil LI:=by
 intro H0 B H σ γ ss vs R Q env tv no p q;cases tv with
 |nil=>exact⟨rfl,q _ _ p env Fr.refl ⟨fun _ _=>rfl,rfl⟩⟩
 |cons _ _=>exact p.elim
def Uj{is js:List Nat}{g:TG}{r:TGs}{pg:PTG}{pr:PTGs}(hg:Kq K is g pg)(hr:Tq K js r pr):Tq K (is++js) (D7 g r) (HN pg pr):=by
 intro H0 B H σ γ ss vs R Q env tv no p q;cases tv with
 |nil=>exact p.elim
 |cons h t=>
  refine⟨_,_,rfl,hg H0 B H H σ γ _ _ _ _ env (Same.refl _) h p fun σ1 γ1 p1 e1 f1 k1=>?_⟩;refine hr H0 B H σ1 γ1 _ _ _ _ e1 (TVs.notown f1 (fun s hs=>no s (Yu _ hs)) t) (fun s hs=>no s (Yu _ hs)) p1 fun σ2 γ2 p2 e2 f2 k2=>?_;exact q σ2 γ2 p2 e2 (f1.trans f2) ⟨fun j hj=>(k2.1 j fun z=>hj (Y0 _ z)).trans (k1.1 j fun z=>hj (WR _ z)),k2.2.trans k1.2⟩
def AQ(n:Nat)(r:PTGs):PTG:=fun s γ R=>match s.d with | .tup ds=>ds.length=n/\r (ds.map s.sub) γ R|_=>False
def TVs.of_part {ds:List D}{s:S}:∀{vs:List V}{ds:List D},vs.length=ds.length->(∀(i:Nat) d,ds[i]?=some d->∃u,vs[i]?=some u/\TV K Z H0 H H' (s.sub d) u)->TVs K Z H0 H H' (ds.map s.sub) vs
 |[],[],_,_=>.nil
 |[],_::_,e,_=>by cases e
 |_::_,[],e,_=>by cases e
 |v::vs,d::ds,e,h=>by
  obtain⟨u,h1,h2⟩:=h 0 d rfl;cases h1
  exact .cons h2 (TVs.of_part (ds:=ds) (by simpa using e) fun i d' hd=>by simpa using h (i+1) d' (by simpa using hd))
def X4{n:Nat}{is:List Nat}{r:TGs}{pr:PTGs}(hr:Tq K is r pr):Kq K is (gTup K n r) (AQ n pr):=by
 intro H0 B H H' σ γ s v R Q env S1 tv p q;unfold AQ at p;have env1:=env.grow S1;obtain⟨_,pt⟩:=tv.part env1.same env.zm S1;split at p
 ·rename_i ds e;obtain⟨a,vs,rfl,ha,hn,hp⟩:=pt ds e;refine⟨a,vs,rfl,SqT.of ha,hn.trans p.1,?_⟩;have tvs:=TVs.of_part (ds:=ds) hn hp;refine hr H0 B H' σ γ _ vs R Q env1 (TVs.notown (Fr.refl) (fun s' hs ds=>?_) tvs) (fun s' hs ds=>?_) p.2 fun σ' γ' hR e1 f1 k1=>q σ' γ' hR e1 (Fr.trans (Fr.grow S1) f1) k1
  ·obtain⟨d,_,rfl⟩:=Y7.mp hs;exact Eb s d ds
  ·obtain⟨d,_,rfl⟩:=Y7.mp hs;exact Eb s d ds
 ·exact p.elim
def EndR.from {R:PEnds}{D:Ends}{σ1:L2.St}{γ1:Γ} (e:EndR K mg E H0 B H σ γ R D) (f:Fr B H σ γ H1 σ1 γ1):EndR K mg E H0 B H1 σ1 γ1 R D:=
 ⟨fun σ' γ' H' h1 h2 h3=>e.nx σ' γ' H' h1 h2 (f.trans h3),e.rt,fun σ' γ' c H' h1 h2 h3=>e.ex σ' γ' c H' h1 h2 (f.trans h3),fun σ' γ' H' h1 h2 h3=>e.bk σ' γ' H' h1 h2 (f.trans h3),fun σ' γ' H' h1 h2 h3=>e.ct σ' γ' H' h1 h2 (f.trans h3),fun σ' γ' d v H' h1 h2 h3=>e.rv σ' γ' d v H' h1 h2 (f.trans h3)⟩
variable {te:TE}{a:PTE}{tt:TT}{c:PTT}{t u:TS}{p q:PTS}
def Re:PTS:=fun R γ=>R.nx γ
def J9:SndS K mg E AE Re:=fun _ _ _ _ _ _ _ _ env h e=>e.nx _ _ _ h env Fr.refl
def pSeq(p q:PTS):PTS:=fun R γ=>p {R with nx:=q R} γ
def Jm(hp:SndS K mg E t p)(hq:SndS K mg E u q):SndS K mg E (tSeq t u) (pSeq p q):=by
 intro H0 B H σ γ R D hB env h e;refine hp H0 B H σ γ _ _ hB env h ⟨fun σ' γ' H' h1 e1 f1=>?_,e.rt,e.ex,e.bk,e.ct,e.rv⟩;exact hq H0 B H' σ' γ' R D hB e1 h1 (e.from f1)
structure JoinW (p q:PTS) (R:PEnds) (γ:Γ):Prop where
 w:∃J:Γ->Prop,p {R with nx:=J} γ/\∀γ',J γ'->q R γ'
def IJ(p q:PTS):PTS:=fun R γ=>JoinW p q R γ
def NQ(hp:SndS K mg E t p)(hq:SndS K mg E u q):SndS K mg E (Cj t u) (IJ p q):=by
 intro H0 B H σ γ R D hB env h e;obtain⟨J,h,k⟩:=h.w;refine⟨fun σ' H'=>∃γ',J γ'/\EnvR K H0 B H' σ' γ'/\Fr B H σ γ H' σ' γ',hp H0 B H σ γ _ _ hB env h ⟨fun σ' γ' H' h1 e1 f1=>⟨γ',h1,e1,f1⟩,e.rt,e.ex,e.bk,e.ct,e.rv⟩,?_⟩;rintro σ' H' ⟨γ',h1,e1,f1⟩;exact hq H0 B H' σ' γ' R D hB e1 (k γ' h1) (e.from f1)
def pFrz(i:Nat)(p:PTS):PTS:=fun R γ=>p R (frz i γ)
def J0(i:Nat)(hp:SndS K mg E t p):SndS K mg E t (pFrz i p):=by
 intro H0 B H σ γ R D hB env h e;obtain⟨e1,f1⟩:=env.frz hB i;exact hp H0 B H σ _ R D hB e1 h (e.from f1)
def pAsg(a:PTE)(g:PTG):PTS:=fun R γ=>a γ (fun s=>g s γ R.nx) (R.ex γ)
def Jr{is:List Nat}{g:TG}{pg:PTG}(ha:SndE K mg E te a)(hg:Kq K is g pg):SndS K mg E (tAsg te g) (pAsg a pg):=by
 intro H0 B H σ γ R D hB env h e;refine ha H0 B H σ γ _ _ _ env h (fun s v H1 h1 S1 t1=>?_) fun c H' hc S'=>e.ex σ γ c H' hc (env.grow S') (Fr.grow S');exact hg H0 B H H1 σ γ s v _ _ env S1 t1 h1 fun σ' γ' h2 e2 f2 _=>e.nx σ' γ' H1 h2 e2 f2
def pAug(i:Nat)(f:Int->Int->Int)(a:PTE):PTS:=fun R γ=>match γ[i]? with
 |some (some (.sh (.int x)))=>a γ (fun y=>match y.d with | .int j=>R.nx (γ.set i (some (.sh (.int (f x j)))))|_=>False) (R.ex γ)
 |_=>False
def Ar{i:Nat}{f:Int->Int->Int}(ha:SndE K mg E te a):SndS K mg E (tAug i te (ipI f)) (pAug i f a):=by
 intro H0 B H σ γ R D hB env h e;unfold pAug at h;split at h
 ·rename_i x hx;obtain⟨v,h1,h2⟩:=env.slot i _ hx;refine⟨v,h1,ha H0 B H σ γ _ _ _ env h (fun y u H1 h3 S1 t1=>?_) fun c H' hc S'=>e.ex σ γ c H' hc (env.grow S') (Fr.grow S')⟩;have rx:=t1.rp (env.grow S1).same;split at h3
  ·rename_i j ej;rw[ej]at rx;refine⟨x,j,Rp.int_inv h2,rx.int_inv,?_⟩;obtain⟨e1,f1⟩:=env.set (i:=i) (s:=.sh (.int (f x j))) (v:=.int (f x j)) S1 (.int _) rfl;exact e.nx _ _ H1 h3 e1 f1
  ·exact h3.elim
 ·exact h.elim
def pRet(a:PTE):PTS:=fun R γ=>a γ R.rt (R.ex γ)
def Jy(ha:SndE K mg E te a):SndS K mg E (tRet te) (pRet a):=by
 intro H0 B H σ γ R D hB env h e;refine ha H0 B H σ γ _ _ _ env h (fun s v H1 h1 S1 t1=>?_) fun c H' hc S'=>e.ex σ γ c H' hc (env.grow S') (Fr.grow S');exact e.rt s v H1 h1 (env.same.trans S1) (TV.weak env.same (fun b z=>.inl z) t1)
def Fx(i:Nat):PTS:=fun R γ=>match γ[i]? with|some (some s)=>R.rt s|_=>False
def U0(i:Nat):SndS K mg E (tRet (tVar i)) (Fx i):=by
 intro H0 B H σ γ R D hB env h e;unfold Fx at h;split at h
 ·rename_i s hs;obtain⟨v,h1,h2⟩:=env.slot i _ hs;refine⟨v,h1,e.rt s v H h env.same ?_⟩;cases s with
  |bor d=>exact h2
  |sh d=>exact Rp.mono (Jx (Same.refl _) fun b _ _ z y=>z (.inl y)) h2
  |own ds=>
   obtain⟨l,rfl,e2,e3⟩:=h2;exact⟨l,rfl,e2,e3.mono (Jx (Same.refl _) fun b _ _ z y=>z (y.elim .inl fun w=>.inr ⟨i,ds,l,hs,h1,w⟩)) fun _ _ _ q=>q⟩
  |view ds=>exact h2.elim
  |tmp d=>exact h2.elim
 ·exact h.elim
def pIfS(c:PTT)(p q:PTS):PTS:=fun R γ=>c γ (fun b=>if b=true then p R γ else q R γ) (R.ex γ)
def J6(hc:SndT K mg E tt c)(hp:SndS K mg E t p)(hq:SndS K mg E u q):SndS K mg E (tIfS tt t u) (pIfS c p q):=by
 intro H0 B H σ γ R D hB env h e;refine hc H0 B H σ γ _ _ _ env h (fun b H1 h1 S1=>?_) fun c H' hc S'=>e.ex σ γ c H' hc (env.grow S') (Fr.grow S');split at h1
 ·rename_i hb;rw[Yg hb];exact hp H0 B H1 σ γ R D hB (env.grow S1) h1 (e.from (Fr.grow S1))
 ·rename_i hb;rw[Ye hb];exact hq H0 B H1 σ γ R D hB (env.grow S1) h1 (e.from (Fr.grow S1))
def Ie(a:PTE):PTS:=fun R γ=>a γ (fun _=>R.nx γ) (R.ex γ)
def UW(ha:SndE K mg E te a):SndS K mg E (KC te) (Ie a):=by
 intro H0 B H σ γ R D hB env h e;exact ha H0 B H σ γ _ _ _ env h (fun s v H1 h1 S1 t1=>e.nx σ γ H1 h1 (env.grow S1) (Fr.grow S1)) fun c H' hc S'=>e.ex σ γ c H' hc (env.grow S') (Fr.grow S')
def Gw:PTS:=fun _ _=>False
def OT:SndS K mg E FK Gw:=fun _ _ _ _ _ _ _ _ _ h _=>h
def MS(x:Str)(r:PTA):PTS:=fun R γ=>r γ (fun ss=>ss.length<=1000/\R.ex γ x) (R.ex γ)
def TVs.len:∀{ss:List S}{vs:List V},TVs K Z H0 H H' ss vs->vs.length=ss.length
 |_,_,.nil=>rfl
 |_,_,.cons _ r=>YS (· + 1) (TVs.len r)
def X0{x:Str}{ta:TA}{r:PTA}{Ec:XK}(hr:SndA K mg (fun _=>Ec) ta r):SndS K mg (fun _=>Ec) (ExcR.D4 (ExcR.Jq mg x) Ec ta) (MS x r):=by
 intro H0 B H σ γ R D hB env h e;refine hr H0 B H σ γ _ _ _ env h (fun ss vs H1 h1 S1 t1=>⟨?_,?_⟩) fun c H' hc S'=>e.ex σ γ c H' hc (env.grow S') (Fr.grow S')
 ·rw[t1.len];exact Sw h1.1
 ·exact e.ex σ γ x H1 h1.2 (env.grow S1) (Fr.grow S1)
def fPar(i j:Nat)(γ:Γ)(R:Γ->Prop):List S->Prop
 |[.sh d,.sh e]=>R ((γ.set i (some (.sh d))).set j (some (.sh e)))
 |_=>False
def pPar(i j:Nat)(r:PTA):PTS:=fun R γ=>r γ (fPar i j γ R.nx) (R.ex γ)
def Ih{i j:Nat}{ta:TA}{r:PTA}(hr:SndA K mg E ta r):SndS K mg E (tPar i j ta) (pPar i j r):=by
 intro H0 B H σ γ R D hB env h e;refine hr H0 B H σ γ _ _ _ env h (fun ss vs H1 h1 S1 t1=>?_) fun c H' hc S'=>e.ex σ γ c H' hc (env.grow S') (Fr.grow S');unfold fPar at h1;split at h1
 ·rename_i d e';cases t1 with
  |cons tx t1=>
   cases t1 with
   |cons ty t1=>
    cases t1
    rename_i vx vy;refine⟨_,_,rfl,?_⟩;obtain⟨e1,f1⟩:=env.set (i:=i) S1 tx rfl
    have ty1:TV K (zof B (γ.set i (some (.sh d))) (σ.set i (some vx))) H0 H1 H1 (.sh e') vy:=by
     refine Rp.mono (Jx (Same.refl _) fun b _ _ hz z=>hz ?_) ty;rcases z with z|⟨k,ds,x,k1,k2,k3⟩
     ·exact .inl z
     ·rcases JK k1 with⟨_,q,_⟩|⟨nk,q⟩
      ·cases q
      ·rw[Xv nk]at k2;exact .inr ⟨k,ds,x,q,k2,k3⟩
    obtain⟨e2,f2⟩:=e1.set (i:=j) (Same.refl _) ty1 rfl;exact e.nx _ _ H1 h1 e2 (f1.trans f2)
 ·exact h1.elim
def clr:List Nat->Γ->Γ
 |[],γ=>γ
 |i::r,γ=>clr r (γ.set i none)
def EnvR.clr:∀(is:List Nat) {γ:Γ},EnvR K H0 B H σ γ->EnvR K H0 B H σ (clr is γ)/\Fr B H σ γ H σ (Pu.clr is γ)
 |[],_,e=>⟨e,Fr.refl⟩
 |i::r,γ,e=>by
  obtain⟨e1,f1⟩:=e.drop i;obtain⟨e2,f2⟩:=EnvR.clr r e1;exact⟨e2,f1.trans f2⟩
def Later(H0:Hp)(Z:Addr->Prop)(H1:Hp)(Z':Addr->Prop)(H':Hp):Prop:=Same H0 H'/\(∀b,Z' b->Mut (H' b))/\∀b o,H1 b=some o->¬Z b->H' b=some o/\¬Z' b
def Later.of {σ':L2.St}{γ':Γ} (e:EnvR K H0 B H' σ' γ') (f:Fr B H1 σ γ H' σ' γ'):Later H0 (zof B γ σ) H1 (zof B γ' σ') H':=⟨e.same,e.zm,f⟩
def Later.off (l:Later H0 Z H1 Z' H'):Same (off Z H1) (Pu.off Z' H'):=fun b o h=>by
 obtain⟨h1,h2⟩:=Xa h;obtain⟨h3,h4⟩:=l.2.2 b o h1 h2;exact JV h3 h4
structure ItOk (K:Za) (H0:Hp) (B:Addr->Prop) (H1:Hp) (σ:L2.St) (γ:Γ) (J:It) (n:Nat) (item:Nat->S):Prop where
 go:∀(i:Nat) (H':Hp) (Z':Addr->Prop),i<n->Later H0 (zof B γ σ) H1 Z' H'->J.go i H'/\∀x H'',J.yld i H' x H''->Same H' H''/\TV K Z' H0 H' H'' (item i) x
 stop:∀(H':Hp) (Z':Addr->Prop),Later H0 (zof B γ σ) H1 Z' H'->J.stop n H'
abbrev PTI:=Γ->(Nat->(Nat->S)->Prop)->XR->Prop
def SndI(K:Za)(mg:Str->Option Value)(E:L2.St->XK)(wi:TI)(it:PTI):Prop:=∀(H0:Hp) (B:Addr->Prop) (H:Hp) (σ:L2.St) (γ:Γ) (R:Nat->(Nat->S)->Prop) (X:XR) (Q:It->Hp->Prop),EnvR K H0 B H σ γ->it γ R X->
 (∀n item J H1,R n item->Same H H1->ItOk K H0 B H1 σ γ J n item->Q J H1)->(∀c H',X c->Same H H'->E σ (.ref (ExcR.Jq mg c)) none H')->wi σ H Q
structure ForW (js:List Nat) (γ:Γ) (g:PTG) (body:PTS) (R:PEnds) (n:Nat) (item:Nat->S):Prop where
 w:∃inv:Nat->Γ->Prop,inv 0 (clr js γ)/\
 (∀i γ',i<n->inv i γ'->g (item i) γ' fun γ2=>body {R with nx:=fun γ3=>inv (i+1) (clr js γ3),ct:=fun γ3=>inv (i+1) (clr js γ3),bk:=R.nx} γ2)/\∀γ',inv n γ'->R.nx γ'
def pFor(js:List Nat)(it:PTI)(g:PTG)(body:PTS):PTS:=fun R γ=>it γ (fun n item=>ForW js γ g body R n item) (R.ex γ)
def JQ{is:List Nat}{wi:TI}{g:TG}{it:PTI}{pg:PTG}(js:List Nat)(hi:SndI K mg E wi it)(hg:Kq K is g pg)(hb:SndS K mg E t p):SndS K mg E (tFor wi g t) (pFor js it pg p):=by
 intro H0 B H σ γ R D hB env h e;refine hi H0 B H σ γ _ _ _ env h (fun n item J H1 h1 S1 ok=>?_) fun c H' hc S'=>e.ex σ γ c H' hc (env.grow S') (Fr.grow S');obtain⟨inv,h0,hs,hd⟩:=h1.w;have env1:=env.grow S1;refine⟨fun i m σ' H'=>m=n-i/\i<=n/\∃γ',inv i γ'/\EnvR K H0 B H' σ' γ'/\Fr B H1 σ γ H' σ' γ',⟨n,by simp,Wb _,_,h0,(env1.clr js).1,(env1.clr js).2⟩,?_⟩;rintro i m σ' H' ⟨rfl,hin,γ',hi',e',f'⟩;by_cases hlt:i<n
 ·obtain⟨go,yl⟩:=ok.go i H' _ hlt (Later.of e' f');refine .inr ⟨go,fun σ2 H2=>∃γ2,inv (i+1) γ2/\EnvR K H0 B H2 σ2 γ2/\Fr B H1 σ γ H2 σ2 γ2,fun σ2 H2 ⟨γ2,a1,a2,a3⟩=>⟨n-(i+1),by omega,rfl,hlt,γ2,a1,a2,a3⟩,fun x H'' y=>?_⟩;obtain⟨S2,tv⟩:=yl x H'' y;refine hg H0 B H' H'' σ' γ' _ _ _ _ e' S2 tv (hs i γ' hlt hi') fun σ2 γ2 q2 e2 f2 _=>?_;have fall:=f'.trans f2;refine hb H0 B H'' σ2 γ2 _ _ hB e2 q2 ⟨fun σ3 γ3 H3 q3 e3 f3=>?_,e.rt,fun σ3 γ3 c H3 q3 e3 f3=>e.ex σ3 γ3 c H3 q3 e3 ((Fr.grow S1).trans (fall.trans f3)),fun σ3 γ3 H3 q3 e3 f3=>e.nx σ3 γ3 H3 q3 e3 ((Fr.grow S1).trans (fall.trans f3)),fun σ3 γ3 H3 q3 e3 f3=>?_,fun σ3 γ3 d v H3 q3 e3 f3=>e.rv σ3 γ3 d v H3 q3 e3 ((Fr.grow S1).trans (fall.trans f3))⟩
  ·exact⟨_,q3,(e3.clr js).1,(fall.trans f3).trans (e3.clr js).2⟩
  ·exact⟨_,q3,(e3.clr js).1,(fall.trans f3).trans (e3.clr js).2⟩
 ·have:i=n:=by omega
  subst this;exact .inl ⟨ok.stop H' _ (Later.of e' f'),e.nx σ' γ' H' (hd γ' hi') e' ((Fr.grow S1).trans f')⟩
def S.fix:S->Bool
 | .bor _=>true | .sh _=>true | .own (.nsl _ _)=>false | .own _=>true|_=>false
def pIL(a:PTE):PTI:=fun γ R X=>a γ (fun s=>match s.d with
 | .lst ds=>s.fix=true/\R ds.length fun i=>s.sub (ds.getD i .non)
 | .scr ns=>s.fix=true/\R ns.length fun i=>.sh (.int (ns.getD i 0))
 |_=>False) X
def TV.last {s:S}{v:V}{ds:List D} (env:EnvR K H0 B H σ γ) (S1:Same H H1) (tv:TV K (zof B γ σ) H0 H H1 s v) (hf:s.fix=true) (hd:s.d=.lst ds):∃l vs,v=.ref l/\vs.length=ds.length/\
  ∀(H':Hp) (Z':Addr->Prop),Later H0 (zof B γ σ) H1 Z' H'->H' l=some (.lst vs)/\∀(i:Nat) d,ds[i]?=some d->∃u,vs[i]?=some u/\TV K Z' H0 H' H' (s.sub d) u:=by
 have env1:=env.grow S1
 have key:∀{s:S},(∀d,s.sub d=.sh d)->Rp K (Pu.off (zof B γ σ) H1) (.lst ds) v->∃l vs,v=.ref l/\vs.length=ds.length/\
   ∀(H':Hp) (Z':Addr->Prop),Later H0 (zof B γ σ) H1 Z' H'->H' l=some (.lst vs)/\∀(i:Nat) d,ds[i]?=some d->∃u,vs[i]?=some u/\TV K Z' H0 H' H' (s.sub d) u:=fun hs h=>by
  obtain⟨l,vs,rfl,h1,h2⟩:=Rp.lst_inv h;refine⟨l,vs,rfl,h2.len,fun H' Z' lt=>⟨off_sub _ _ (lt.off _ _ h1),fun i d hi=>?_⟩⟩;obtain⟨u,h3,h4⟩:=h2.get hi;refine⟨u,h3,?_⟩;rw[hs];exact Rp.mono lt.off h4
 cases s with
 |bor d=>
  have tv:=Rp.strip tv;rw[show d.strip=.lst ds from hd]at tv
  obtain⟨l,vs,rfl,h1,h2⟩:=Rp.lst_inv tv;refine⟨l,vs,rfl,h2.len,fun H' Z' lt=>⟨lt.1 _ _ h1,fun i d hi=>?_⟩⟩;obtain⟨u,h3,h4⟩:=h2.get hi;exact⟨u,h3,argR lt.2.1 lt.1 h4⟩
 |sh d=>
  have:d=.lst ds:=hd
  subst this;exact key (fun _=>rfl) tv
 |own es=>
  cases es with
  |lst es=>
   cases hd
   exact key (fun _=>rfl) (tv.shd env1.same env.zm S1 rfl)
  |lsA x es=>
   cases hd
   exact key (fun _=>rfl) (tv.shd env1.same env.zm S1 rfl)
  |dK es=>cases hd
  |dT es=>cases hd
  |ins x C xs cs=>cases hd
  |nst cs=>cases hd
  |nsl a cs=>cases hf
 |view es=>cases hf
 |tmp d=>cases hf
def Uy{te:TE}{a:PTE}(ha:SndE K mg E te a):SndI K mg E (Tt K te) (pIL a):=by
 intro H0 B H σ γ R X Q env h q qx;refine ha H0 B H σ γ _ X _ env h (fun s v H1 h1 S1 t1=>?_) qx;have env1:=env.grow S1;split at h1
 ·rename_i ds ed;obtain⟨l,vs,rfl,hn,hl⟩:=t1.last env S1 h1.1 ed;obtain⟨hl1,_⟩:=hl H1 _ (Later.of env1 Fr.refl);refine⟨l,rfl,⟨vs,SqL.of hl1⟩,q _ _ _ H1 h1.2 S1 ⟨fun i H' Z' hi lt=>?_,fun H' Z' lt=>?_⟩⟩
  ·obtain⟨k1,k2⟩:=hl H' Z' lt;have hd:ds[i]?=some (ds.getD i .non):=by rw[Yd,ZZ hi];rfl
   obtain⟨u,hu,tu⟩:=k2 i _ hd;refine⟨⟨vs,u,SqL.of k1,hu⟩,fun x H'' y=>?_⟩;obtain⟨rfl,y⟩:=y
   have:=y vs (SqL.of k1)
   rw[hu]at this;cases this
   exact⟨Same.refl _,tu⟩
  ·exact⟨vs,SqL.of (hl H' Z' lt).1,by omega⟩
 ·rename_i ns ed
  have hs:∃l,v=.ref l/\∀(H':Hp) (Z':Addr->Prop),Later H0 (zof B γ σ) H1 Z' H'->SqL K H' l (ns.map V.int):=by
   cases s with
   |bor d=>
    have t1:=Rp.strip t1;rw[show d.strip=.scr ns from ed]at t1
    cases t1 with
    |scr hs=>exact⟨_,rfl,fun H' Z' lt=>lt.1.seq hs⟩
   |sh d=>
    have:d=.scr ns:=ed
    subst this;cases t1 with
    |scr hs=>exact⟨_,rfl,fun H' Z' lt=>off_sub.seq (lt.off.seq hs)⟩
   |own es=>cases es<;>cases ed
   |view es=>cases es<;>cases ed
   |tmp d=>cases h1.1
  obtain⟨l,rfl,hl⟩:=hs;refine⟨l,rfl,⟨_,hl H1 _ (Later.of env1 Fr.refl)⟩,q _ _ _ H1 h1.2 S1 ⟨fun i H' Z' hi lt=>?_,fun H' Z' lt=>?_⟩⟩
  ·have k1:=hl H' Z' lt
   have hu:(ns.map V.int)[i]?=some (.int (ns.getD i 0)):=by
    rw[Yj,ZZ hi,Yd,ZZ hi];rfl
   refine⟨⟨_,_,k1,hu⟩,fun x H'' y=>?_⟩;obtain⟨rfl,y⟩:=y
   have:=y _ k1
   rw[hu]at this;cases this
   exact⟨Same.refl _,.int _⟩
  ·exact⟨_,hl H' Z' lt,by rw[Ya];exact Yi _⟩
 ·exact h1.elim
def fR1(R:Nat->(Nat->S)->Prop):List D->Prop
 |[.int j]=>(-(2 ^ 62)<=j/\j<2 ^ 62)/\R j.toNat fun i=>.sh (.int (0+(i:Int)))
 |_=>False
def fR2(R:Nat->(Nat->S)->Prop):List D->Prop
 |[.int i,.int j]=>(-(2 ^ 62)<=i/\i<2 ^ 62/\-(2 ^ 62)<=j/\j<2 ^ 62)/\R (j-i).toNat fun k=>.sh (.int (i+(k:Int)))
 |_=>False
def pIR1(r:PTA):PTI:=fun γ R X=>r γ (fun ss=>fR1 R (ss.map S.d)) X
def pIR2(r:PTA):PTI:=fun γ R X=>r γ (fun ss=>fR2 R (ss.map S.d)) X
def Rps.one_inv {d:D}{vs:List V} (h:Rps K H [d] vs):∃v,vs=[v]/\Rp K H d v:=by
 cases h with
 |cons h r=>cases r;exact⟨_,rfl,h⟩
def Rps.two_inv {d e:D}{vs:List V} (h:Rps K H [d,e] vs):∃v u,vs=[v,u]/\Rp K H d v/\Rp K H e u:=by
 cases h with
 |cons h r=>cases r with|cons h2 r=>cases r;exact⟨_,_,rfl,h,h2⟩
def Do{lo:Int}{n:Nat}:ItOk K H0 B H1 σ γ (Itr lo n) n fun i=>.sh (.int (lo+(i:Int))):=by
 refine⟨fun i H' Z' hi lt=>⟨hi,fun x H'' y=>?_⟩,fun H' Z' lt=>Yi _⟩;obtain⟨e,y⟩:=y;subst e y;exact⟨Same.refl _,.int _⟩
def Xj{ta:TA}{r:PTA}(hr:SndA K mg E ta r):SndI K mg E (Et ta) (pIR1 r):=by
 intro H0 B H σ γ R X Q env h q qx;refine hr H0 B H σ γ _ X _ env h (fun ss vs H1 h1 S1 t1=>?_) qx;have rv:=t1.rps (env.grow S1).same;unfold fR1 at h1;split at h1
 ·rename_i j ej;rw[ej]at rv;obtain⟨v,rfl,r1⟩:=rv.one_inv;rw[r1.int_inv];exact⟨j,rfl,h1.1.1,h1.1.2,q _ _ _ H1 h1.2 S1 Do⟩
 ·exact h1.elim
def FQ{ta:TA}{r:PTA}(hr:SndA K mg E ta r):SndI K mg E (A6 ta) (pIR2 r):=by
 intro H0 B H σ γ R X Q env h q qx;refine hr H0 B H σ γ _ X _ env h (fun ss vs H1 h1 S1 t1=>?_) qx;have rv:=t1.rps (env.grow S1).same;unfold fR2 at h1;split at h1
 ·rename_i i j ej;rw[ej]at rv;obtain⟨v,u,rfl,r1,r2⟩:=rv.two_inv;rw[r1.int_inv,r2.int_inv];exact⟨i,j,rfl,h1.1,q _ _ _ H1 h1.2 S1 Do⟩
 ·exact h1.elim
structure WhileW (js:List Nat) (γ:Γ) (c:PTT) (body:PTS) (R:PEnds):Prop where
 w:∃(inv:Γ->Prop) (μ:Γ->Nat),inv (clr js γ)/\∀γ',inv γ'->c γ' (fun b=>if b=true then
  body {R with nx:=fun γ3=>inv (clr js γ3)/\μ (clr js γ3)<μ γ',ct:=fun γ3=>inv (clr js γ3)/\μ (clr js γ3)<μ γ',bk:=R.nx} γ' else R.nx γ') (R.ex γ')
def Za6(js:List Nat)(c:PTT)(body:PTS):PTS:=fun R γ=>WhileW js γ c body R
def NG(js:List Nat)(hc:SndT K mg E tt c)(hb:SndS K mg E t p):SndS K mg E (AX tt t) (Za6 js c p):=by
 intro H0 B H σ γ R D hB env h e;obtain⟨inv,μ,h0,hs⟩:=h.w;refine⟨fun m σ' H'=>∃γ',m=μ γ'/\inv γ'/\EnvR K H0 B H' σ' γ'/\Fr B H σ γ H' σ' γ',⟨_,_,rfl,h0,(env.clr js).1,(env.clr js).2⟩,?_⟩;rintro m σ' H' ⟨γ',rfl,hi,e',f'⟩;refine hc H0 B H' σ' γ' _ _ _ e' (hs γ' hi) (fun b H1 h1 S1=>?_) fun c H'' hc S'=>e.ex σ' γ' c H'' hc (e'.grow S') (f'.trans (Fr.grow S'));have e1:=e'.grow S1;have f1:=f'.trans (Fr.grow S1);cases b with
 |false=>
  rw[Ye Yw]at h1 ⊢;exact e.nx σ' γ' H1 h1 e1 f1
 |true=>
  rw[Yg rfl]at h1 ⊢;refine⟨fun σ2 H2=>∃γ2,μ γ2<μ γ'/\inv γ2/\EnvR K H0 B H2 σ2 γ2/\Fr B H σ γ H2 σ2 γ2,fun σ2 H2 ⟨γ2,k,a1,a2,a3⟩=>⟨_,k,γ2,rfl,a1,a2,a3⟩,?_⟩;refine hb H0 B H1 σ' γ' _ _ hB e1 h1 ⟨fun σ3 γ3 H3 q3 e3 f3=>?_,e.rt,fun σ3 γ3 c H3 q3 e3 f3=>e.ex σ3 γ3 c H3 q3 e3 (f1.trans f3),fun σ3 γ3 H3 q3 e3 f3=>e.nx σ3 γ3 H3 q3 e3 (f1.trans f3),fun σ3 γ3 H3 q3 e3 f3=>?_,fun σ3 γ3 d v H3 q3 e3 f3=>e.rv σ3 γ3 d v H3 q3 e3 (f1.trans f3)⟩
  ·exact⟨_,q3.2,q3.1,(e3.clr js).1,(f1.trans f3).trans (e3.clr js).2⟩
  ·exact⟨_,q3.2,q3.1,(e3.clr js).1,(f1.trans f3).trans (e3.clr js).2⟩
end
section
variable {K:Za}{mg:Str->Option Value}{E:L2.St->XK}{H0 H H1 H':Hp}{B Z Z':Addr->Prop}{σ:L2.St}{γ:Γ}
def UT(N:List Str)(ds:List D):Γ:=ds.map (fun d=>some (arg d))++List.replicate (N.length-ds.length) none
def G3{N:List Str}{ds:List D}{vs:List V}(r:Rps K H ds vs)(hn:ds.length<=N.length):EnvR K H (fun b=>Mut (H b)) H (start N vs) (UT N ds):=by
 have hlen:=r.len
 have get:∀(i:Nat) (s:S),(UT N ds)[i]?=some (some s)->∃d,ds[i]?=some d/\s=arg d:=fun i s h=>by
  unfold UT at h;by_cases hi:i<ds.length
  ·rw[YR (by rw[Ya];exact hi),Yj,ZZ hi]at h;exact⟨_,ZZ hi,(Yl (Yl h)).symm⟩
  ·rw[Wn (by rw[Ya];omega),Q1]at h;split at h<;>cases h
 have noown:∀(i:Nat) (es:O),(UT N ds)[i]?≠some (some (.own es)):=fun i es h=>by
  obtain⟨d,_,e⟩:=get i _ h;rcases Bb d with q|q<;>rw[q]at e<;>cases e
 refine⟨Same.refl _,?_,fun b h=>h,fun i j a a' es es' b h=>absurd h (noown i es),fun i s h=>?_⟩
 ·unfold L2.start UT;simp[hlen]
 ·obtain⟨d,hd,rfl⟩:=get i s h;obtain⟨v,hv,rv⟩:=r.get hd;refine⟨v,?_,?_⟩
  ·unfold L2.start;rw[YR (by rw[Ya];exact(Y2.mp hv).1),Yj,hv];rfl
  ·have tv:=argR (K:=K) (Z:=zof (fun b=>Mut (H b)) (UT N ds) (start N vs)) (H0:=H) (H:=H) (H':=H) (fun b z=>z.elim id fun⟨k,es,_,k1,_⟩=>absurd k1 (noown k es)) (Same.refl _) rv;rcases Bb d with q|q<;>rw[q]at tv ⊢<;>exact tv
def Mz{c:Pc}{N:List Str}{t:TS}{p:PTS}{vs:List V}{Q:VK}{Ec:XK}{n:Nat}(h:spOf mg c K vs H Q Ec)(snd:SndS K mg (fun _=>Ec) t p)(hn:n<=N.length)(hp:∀ds R X,c ds R X->ds.length=n/\p {nx:=fun _=>R (.sh .non),rt:=R,ex:=fun _ e=>X e} (UT N ds)):t {nx:=fun _ H'=>Q .non H',rt:=Q} (start N vs) H:=by
 obtain⟨ds,R,X,r,hc,hQ,hX⟩:=h;obtain⟨e,hp⟩:=hp ds R X hc;refine snd H (fun b=>Mut (H b)) H _ _ _ _ (fun b z=>P1 z) (G3 r (by rw[e];exact hn)) hp ⟨fun σ' γ' H' h1 e1 f1=>hQ _ _ H' h1 e1.same .non,fun s v H' h1 S1 tv=>hQ s v H' h1 S1 tv,fun σ' γ' c H' h1 e1 f1=>hX c H' h1 e1.same,fun _ _ _ z=>z.elim,fun _ _ _ z=>z.elim,fun _ _ _ _ _ z=>z.elim⟩
def On{c:Pc}{vs:List V}{Q:VK}{Ec:XK}{n:Nat}(h:spOf mg c K vs H Q Ec)(hn:∀ds R X,c ds R X->ds.length=n):vs.length=n:=by
 obtain⟨ds,R,X,r,hc,_⟩:=h;rw[r.len];exact hn ds R X hc
def atP(φ:List (Option Nat))(γ:Γ):Γ:=φ.map fun o=>o.bind fun j=>(γ[j]?).join
structure CompW (φ:List (Option Nat)) (γ:Γ) (g:PTG) (c:PTT) (e:PTE) (n:Nat) (item:Nat->S) (R:S->Prop):Prop where
 w:n<=100000/\∃f:Nat->Option D,(∀i,i<n->g (item i) (atP φ γ) fun γ2=>c γ2 (fun b=>if b=true then e γ2 (fun s=>∃d,s.shd=some d/\f i=some d) (fun _=>False)else f i=none) (fun _=>False))/\R (.own ((List.range n).filterMap f))
def Im(φ:List (Option Nat))(it:PTI)(g:PTG)(c:PTT)(e:PTE):PTE:=fun γ R X=>it γ (fun n item=>CompW φ γ g c e n item R) X
def X6{φ:List (Option Nat)}{i:Nat}{s:S}(h:(atP φ γ)[i]?=some (some s)):∃j,φ[i]?=some (some j)/\γ[j]?=some (some s):=by
 unfold atP at h;rw[Yj]at h;cases e:φ[i]? with
 |none=>rw[e]at h;cases h
 |some o=>
  rw[e]at h;cases o with
  |none=>simp at h
  |some j=>
   refine⟨j,rfl,?_⟩;simp at h;cases e2:γ[j]? with
   |none=>rw[e2]at h;simp at h
   |some w=>rw[e2]at h;simp at h;rw[h]
def P6:∀{φ:List (Option Nat)},(φ.filterMap id).Nodup->∀(i j k:Nat),φ[i]?=some (some k)->φ[j]?=some (some k)->i=j
 |[],_,i,_,_,h,_=>by simp at h
 |none::r,hn,i,j,k,h1,h2=>by
  cases i with
  |zero=>simp at h1
  |succ i=>
   cases j with
   |zero=>simp at h2
   |succ j=>exact YS (· + 1) (P6 (φ:=r) (by simpa using hn) i j k (by simpa using h1) (by simpa using h2))
 |some m::r,hn,i,j,k,h1,h2=>by
  have hn':m∉r.filterMap id/\(r.filterMap id).Nodup:=by simpa using hn
  have mem:∀{j:Nat},r[j]?=some (some k)->k∈r.filterMap id:=fun h=>Ve.mpr ⟨some k,Y4 h,rfl⟩;cases i with
  |zero=>
   cases j with
   |zero=>rfl
   |succ j=>
    have e:m=k:=by simpa using h1
    subst e;exact absurd (mem (by simpa using h2)) hn'.1
  |succ i=>
   cases j with
   |zero=>
    have e:m=k:=by simpa using h2
    subst e;exact absurd (mem (by simpa using h1)) hn'.1
   |succ j=>exact YS (· + 1) (P6 (φ:=r) hn'.2 i j k (by simpa using h1) (by simpa using h2))
def Xw{φ:List (Option Nat)}{i j:Nat}(h1:φ[i]?=some (some j)){v:V}(h2:σ[j]?=some (some v)):(atStart φ σ)[i]?=some (some v):=by
 unfold atStart;rw[Yj,h1];simp[h2]
def CF{φ:List (Option Nat)}{L:Addr}(env:EnvR K H0 B H σ γ)(nL:H L=none):∀b o,H b=some o->¬zof B γ σ b->¬zof (fun b=>zof B γ σ b\/b=L) (atP φ γ) (atStart φ σ) b:=fun b o hb z y=>by
 rcases y with(y|y)|⟨i',ds,x,y1,y2,y3⟩
 ·exact z y
 ·rw[y,nL]at hb;cases hb
 ·obtain⟨m,m1,m2⟩:=X6 y1;obtain⟨w,w1,_⟩:=env.slot m _ m2;rw[Xw m1 w1]at y2;exact z (.inr ⟨m,ds,x,m2,by rw[w1];exact YS some (Yl y2),y3⟩)
def Mh{φ:List (Option Nat)}{L:Addr}(env:EnvR K H0 B H σ γ)(S1:Same H H')(nL:H L=none)(hL:∃ys,H' L=some (.lst ys))(hφ:(φ.filterMap id).Nodup) :
  EnvR K H0 (fun b=>zof B γ σ b\/b=L) H' (atStart φ σ) (atP φ γ):=by
 refine⟨env.same.trans S1,by unfold atStart atP;simp,fun b z=>?_,fun i j a a' ds es b h1 h2 h3 h4 h5 h6=>?_,fun i s h=>?_⟩
 ·rcases z with z|rfl
  ·exact UV S1 (env.zm b z)
  ·obtain⟨ys,e⟩:=hL;rw[e];trivial
 ·obtain⟨k,k1,k2⟩:=X6 h1;obtain⟨l,l1,l2⟩:=X6 h2;obtain⟨v,v1,_⟩:=env.slot k _ k2;obtain⟨u,u1,_⟩:=env.slot l _ l2;rw[Xw k1 v1]at h3;rw[Xw l1 u1]at h4
  have:=env.own k l a a' ds es b k2 l2 (by rw[v1];exact YS some (Yl h3)) (by rw[u1];exact YS some (Yl h4)) h5 h6
  subst this;exact P6 hφ i j k k1 l1
 ·obtain⟨k,k1,k2⟩:=X6 h;obtain⟨v,v1,v2⟩:=env.slot k _ k2;have So:Same (off (zof B γ σ) H) (off (zof (fun b=>zof B γ σ b\/b=L) (atP φ γ) (atStart φ σ)) H'):=Jx S1 (CF env nL);refine⟨v,Xw k1 v1,?_⟩;cases s with
  |bor d=>exact v2
  |sh d=>exact Rp.mono So v2
  |own ds=>
   obtain⟨a,e1,e3,e4⟩:=v2;exact⟨a,e1,e3,e4.mono So fun b _ x=>S1 b x⟩
  |view ds=>exact v2
  |tmp d=>exact v2
def Sub.of {σ σ':L2.St}{is:List Nat} (hl:σ'.length=σ.length) (h1:∀j,j∉is->σ'[j]?=σ[j]?) (h2:∀j∈is,∀v,σ[j]?≠some (some v)):Sub σ σ':=⟨hl,fun i v e=>by
 by_cases hi:i∈is
 ·exact absurd e (h2 i hi v)
 ·rw[h1 i hi];exact e⟩
structure ItOkC (K:Za) (H0:Hp) (B:Addr->Prop) (H1:Hp) (σ:L2.St) (γ:Γ) (J:It) (n:Nat) (item:Nat->S):Prop where
 go:∀(i:Nat) (H':Hp) (Z':Addr->Prop),i<n->Same H1 H'->Later H0 (zof B γ σ) H1 Z' H'->J.go i H'/\∀x H'',J.yld i H' x H''->Same H' H''/\TV K Z' H0 H' H'' (item i) x
 stop:∀(H':Hp) (Z':Addr->Prop),Same H1 H'->Later H0 (zof B γ σ) H1 Z' H'->J.stop n H'
def By(K:Za)(mg:Str->Option Value)(E:L2.St->XK)(wi:TI)(it:PTI):Prop:=∀(H0:Hp) (B:Addr->Prop) (H:Hp) (σ:L2.St) (γ:Γ) (R:Nat->(Nat->S)->Prop) (X:XR) (Q:It->Hp->Prop),EnvR K H0 B H σ γ->it γ R X->
 (∀n item J H1,R n item->Same H H1->ItOkC K H0 B H1 σ γ J n item->Q J H1)->(∀c H',X c->Same H H'->E σ (.ref (ExcR.Jq mg c)) none H')->wi σ H Q
def SndI.c {wi:TI}{it:PTI} (h:SndI K mg E wi it):By K mg E wi it:=fun H0 B H σ γ R X Q env p q qx=>
 h H0 B H σ γ R X Q env p (fun n item J H1 hR S1 ok=>q n item J H1 hR S1 ⟨fun i H' Z' hi _ lt=>ok.go i H' Z' hi lt,fun H' Z' _ lt=>ok.stop H' Z' lt⟩) qx
def pILc(a:PTE):PTI:=fun γ R X=>a γ (fun s=>match s.d with
 | .lst ds=>R ds.length fun i=>s.sub (ds.getD i .non)
 | .tup ds=>False
 | .scr ns=>R ns.length fun i=>.sh (.int (ns.getD i 0))
 |_=>False) X
def UE{te:TE}{a:PTE}(ha:SndE K mg E te a):By K mg E (Tt K te) (pILc a):=by
 intro H0 B H σ γ R X Q env h q qx;refine ha H0 B H σ γ _ X _ env h (fun s v H1 h1 S1 t1=>?_) qx;have env1:=env.grow S1;split at h1
 ·rename_i ds ed;have rv:=t1.rp env1.same;rw[ed]at rv;obtain⟨l,vs,rfl,hl1,r1⟩:=rv.lst_inv;refine⟨l,rfl,⟨vs,SqL.of hl1⟩,q _ _ _ H1 h1 S1 ⟨fun i H' Z' hi S2 lt=>?_,fun H' Z' S2 lt=>⟨vs,SqL.of (S2 _ _ hl1),by rw[r1.len];exact Yi _⟩⟩⟩;have hd:ds[i]?=some (ds.getD i .non):=by rw[Yd,ZZ hi];rfl
  have hi':∃u,vs[i]?=some u/\TV K Z' H0 H' H' (s.sub (ds.getD i .non)) u:=by
   cases s with
   |bor d=>
    have t1:=Rp.strip t1;rw[show d.strip=.lst ds from ed]at t1
    obtain⟨l',vs',e',h3,r3⟩:=Rp.lst_inv t1;cases e'
    rw[env1.same _ _ h3]at hl1;cases hl1
    obtain⟨u,h4,h5⟩:=r3.get hd;exact⟨u,h4,argR lt.2.1 lt.1 h5⟩
   |sh d=>
    have:d=.lst ds:=ed
    subst this;obtain⟨l',vs',e',h3,r3⟩:=Rp.lst_inv t1;cases e'
    rw[off_sub _ _ h3]at hl1;cases hl1
    obtain⟨u,h4,h5⟩:=r3.get hd;exact⟨u,h4,Rp.mono lt.off h5⟩
   |own es=>
    cases es with
    |dK es=>cases ed
    |dT es=>cases ed
    |ins x C xs cs=>cases ed
    |nst cs=>cases ed
    |nsl x cs=>
     obtain⟨u,h4,h5⟩:=r1.get hd;exact⟨u,h4,UR lt.2.1 (Rp.mono S2 h5)⟩
    |lsA x es=>
     cases ed
     obtain⟨l',e',h0,_,vs',h3,r3⟩:=t1;cases e'
     rw[h3]at hl1;cases hl1
     obtain⟨u,h4,h5⟩:=r3.get hd;exact⟨u,h4,Rp.mono lt.off (Rp.mono (Jx (Same.refl _) fun b _ _ z y=>z (.inl y)) h5)⟩
    |lst es=>
    cases ed
    obtain⟨l',e',h0,vs',h3,r3⟩:=t1;cases e'
    rw[h3]at hl1;cases hl1
    obtain⟨u,h4,h5⟩:=r3.get hd;exact⟨u,h4,Rp.mono lt.off (Rp.mono (Jx (Same.refl _) fun b _ _ z y=>z (.inl y)) h5)⟩
   |view es=>
    cases es with
    |dK es=>cases ed
    |dT es=>cases ed
    |ins x C xs cs=>cases ed
    |nst cs=>cases ed
    |nsl x cs=>
     obtain⟨u,h4,h5⟩:=r1.get hd;exact⟨u,h4,UR lt.2.1 (Rp.mono S2 h5)⟩
    |lsA x es=>
     cases ed
     obtain⟨l',e',_,vs',h3,r3⟩:=t1;cases e'
     rw[h3]at hl1;cases hl1
     obtain⟨u,h4,h5⟩:=r3.get hd;exact⟨u,h4,Rp.mono lt.off h5⟩
    |lst es=>
    cases ed
    obtain⟨l',e',vs',h3,r3⟩:=t1;cases e'
    rw[h3]at hl1;cases hl1
    obtain⟨u,h4,h5⟩:=r3.get hd;exact⟨u,h4,Rp.mono lt.off h5⟩
   |tmp d=>
    have:d=.lst ds:=ed
    subst this;obtain⟨l',vs',e',h3,r3⟩:=Rp.lst_inv t1;cases e'
    rw[h3]at hl1;cases hl1
    obtain⟨u,h4,h5⟩:=r3.get hd;exact⟨u,h4,UR lt.2.1 (Rp.mono S2 h5)⟩
  obtain⟨u,hu,tu⟩:=hi';refine⟨⟨vs,u,SqL.of (S2 _ _ hl1),hu⟩,fun x H'' y=>?_⟩;obtain⟨rfl,y⟩:=y
  have:=y vs (SqL.of (S2 _ _ hl1))
  rw[hu]at this;cases this
  exact⟨Same.refl _,tu⟩
 ·exact h1.elim
 ·rename_i ns ed;have rv:=t1.rp env1.same;rw[ed]at rv;cases rv with
  |scr hs=>
   refine⟨_,rfl,⟨_,hs⟩,q _ _ _ H1 h1 S1 ⟨fun i H' Z' hi S2 lt=>?_,fun H' Z' S2 lt=>⟨_,S2.seq hs,by rw[Ya];exact Yi _⟩⟩⟩
   have hu:(ns.map V.int)[i]?=some (.int (ns.getD i 0)):=by
    rw[Yj,ZZ hi,Yd,ZZ hi];rfl
   refine⟨⟨_,_,S2.seq hs,hu⟩,fun x H'' y=>?_⟩;obtain⟨rfl,y⟩:=y
   have:=y _ (S2.seq hs)
   rw[hu]at this;cases this
   exact⟨Same.refl _,.int _⟩
 ·exact h1.elim
def Ua{φ:List (Option Nat)}{is:List Nat}{wi:TI}{g:TG}{tc:TT}{te:TE}{it:PTI}{pg:PTG}{c:PTT}{a:PTE}(hi:By K mg E wi it)(hg:Kq K is g pg)(hc:SndT K mg E tc c)(he:SndE K mg E te a)(h1:(φ.filterMap id).Nodup:=by decide)(h2:∀j∈is,φ[j]?=some none:=by decide):SndE K mg E (Tf φ wi g tc te) (Im φ it pg c a):=by
 intro H0 B H σ γ R X Q env h q qx;refine hi H0 B H σ γ _ X _ env h (fun n item J H1 h1' S1 ok=>?_) qx;obtain⟨hn,f,hf,hR⟩:=h1'.w;have env1:=env.grow S1;have hbig:n<=sizeLine:=Yx hn (by decide);intro L nL;refine⟨fun i m ys H2=>m=n-i/\i<=n/\Same H1 H2/\H2 L=some (.lst ys)/\Rps K (off (fun b=>zof B γ σ b\/b=L) H2) ((List.range i).filterMap f) ys,⟨n,by simp,Wb _,JT nL,J8,.nil⟩,?_⟩;rintro i m ys H2 ⟨rfl,hin,S2,hL,hys⟩;have env2:=env1.grow S2;by_cases hlt:i<n
 ·have envI2:=Mh (φ:=φ) env1 S2 nL ⟨ys,hL⟩ h1;obtain⟨go,yl⟩:=ok.go i H2 _ hlt S2 ⟨env2.same,envI2.zm,fun b o hb z=>⟨S2 _ _ hb,CF env1 nL b o hb z⟩⟩;refine .inr ⟨go,fun x H3 y=>?_⟩;obtain⟨S3,tv⟩:=yl x H3 y;refine hg H0 _ H2 H3 _ _ _ _ _ _ envI2 S3 tv (hf i hlt) fun σ2 γ2 p2 e2 f2 k2=>⟨?_,?_⟩
  ·refine Sub.of (is:=is) k2.2 k2.1 fun j hj v z=>?_;obtain⟨k,k1,_⟩:=Sl z;rw[h2 j hj]at k1;cases k1
  ·refine hc H0 _ H3 σ2 γ2 _ _ _ e2 p2 (fun b H5 q5 S5=>?_) fun _ _ z=>z.elim;have e5:=e2.grow S5;cases b with
   |false=>
    rw[Ye Yw]at q5 ⊢;refine⟨n-(i+1),by omega,rfl,hlt,(S2.trans S3).trans S5,(S3.trans S5) _ _ hL,?_⟩;rw[List.range_succ,Qn];simp only[WC,q5,List.filterMap_nil,Wd];exact Rps.mono (Jx (S3.trans S5) fun _ _ _ z=>z) hys
   |true=>
    rw[Yg rfl]at q5 ⊢;refine he H0 _ H5 σ2 γ2 _ _ _ e5 q5 (fun s v H6 q6 S6 t6=>?_) fun _ _ z=>z.elim;obtain⟨d,hd,hfd⟩:=q6;have S26:=(S3.trans S5).trans S6;have hr:=t6.shd (e5.grow S6).same e5.zm S6 hd
    have hlen:ys.length<=i:=by
     rw[hys.len];exact Yx (List.length_filterMap_le _ _) (by rw[List.length_range];exact Yi _)
    refine⟨S26 _ _ hL,by omega,n-(i+1),by omega,rfl,hlt,fun b o hb=>?_,J8,?_⟩
    ·rw[Jv (JN hb nL)];exact S26 _ _ (S2 _ _ hb)
    ·rw[List.range_succ,Qn];have ef:[i].filterMap f=[d]:=by simp[hfd]
     rw[ef]
     have So:Same (off (fun b=>zof B γ σ b\/b=L) H6) (off (fun b=>zof B γ σ b\/b=L) (upd H6 L (.lst (ys++[v])))):=fun b o h=>by
      obtain⟨a1,a2⟩:=Xa h;refine JV ?_ a2;rw[Jv fun z=>a2 (.inr z)];exact a1
     refine Rps.append (Rps.mono So (Rps.mono (Jx S26 fun _ _ _ z=>z) hys)) (.cons (Rp.mono So (Rp.mono (Jx (Same.refl _) fun b _ _ z y=>z (.inl y)) hr)) .nil)
 ·have:i=n:=by omega
  subst this;exact .inl ⟨ok.stop H2 _ S2 (Later.of env2 (Fr.grow S2)),q _ _ H2 hR (S1.trans S2) ⟨L,rfl,(fun _ e=>e▸S1.free nL),ys,hL,hys⟩⟩
def pYes:PTT:=fun _ R _=>R true
def Xc:SndT K mg E CN pYes:=fun _ _ H _ _ _ _ _ _ p q _=>q _ H p (Same.refl _)
def ED{α β:Type}(xs:List α)(f:α->Option β):(List.range xs.length).filterMap (fun i=>(xs[i]?).bind f)=xs.filterMap f:=by
 induction xs with
 |nil=>rfl
 |cons x r ih=>
  rw[Y3,List.range_succ_eq_map,WC,List.filterMap_map,WC]
  have e:(fun i=>((x::r)[i]?).bind f)∘Nat.succ=fun i=>(r[i]?).bind f:=by
   funext i;simp
  rw[e,ih];rfl
end
open M
section
variable {K:Za}{mg:Str->Option Value}{E:L2.St->XK}{H0 H H1 H':Hp}{B Z Z':Addr->Prop}{σ:L2.St}{γ:Γ}
def pCB(f:List S->(S->Prop)->Prop)(r:PTA):PTE:=fun γ R X=>r γ (fun ss=>f ss R) X
def Xh{rr:List V->Hp->VK->Prop}{f:List S->(S->Prop)->Prop}{ta:TA}{r:PTA}(hr:SndA K mg E ta r)(h:∀(H0 H H1:Hp) (Z:Addr->Prop) (ss:List S) (vs:List V) (R:S->Prop) (Q:VK),Same H0 H1->Same H H1->(∀b,Z b->Mut (H b))->TVs K Z H0 H H1 ss vs->f ss R->(∀s z H',R s->Same H1 H'->TV K Z H0 H H' s z->Q z H')->rr vs H1 Q) :
  SndE K mg E (tCB rr ta) (pCB f r):=by
 intro H0 B H σ γ R X Q env p q qx;refine hr H0 B H σ γ _ X _ env p (fun ss vs H1 h1 S1 t1=>?_) qx;exact h H0 H H1 _ ss vs R Q (env.grow S1).same S1 env.zm t1 h1 fun s z H' hs S2 tv=>q s z H' hs (S1.trans S2) tv
def S.free:S->List D->Bool
 | .bor _,ds=>imms ds | .tmp _,ds=>imms ds | .view (.nst _),ds=>imms ds | .view (.nsl _ _),ds=>imms ds|_,_=>true
def TVs.one_inv {s:S}{vs:List V} (h:TVs K Z H0 H H' [s] vs):∃v,vs=[v]/\TV K Z H0 H H' s v:=by
 cases h with
 |cons h r=>cases r;exact⟨_,rfl,h⟩
def TVs.two_inv {s t:S}{vs:List V} (h:TVs K Z H0 H H' [s,t] vs):∃v u,vs=[v,u]/\TV K Z H0 H H' s v/\TV K Z H0 H H' t u:=by
 cases h with
 |cons h r=>cases r with|cons h2 r=>cases r;exact⟨_,_,rfl,h,h2⟩
def TV.items {s:S}{v:V}{ds:List D} (h0:Same H0 H') (hm:∀b,Z b->Mut (H b)) (S1:Same H H') (h:TV K Z H0 H H' s v) (hf:s.free ds=true) :
  (s.d=.lst ds->∃a vs,v=.ref a/\H' a=some (.lst vs)/\Rps K (off Z H') ds vs)/\(s.d=.tup ds->∃a vs,v=.ref a/\H' a=some (.tup vs)/\Rps K (off Z H') ds vs):=by
 have hm':∀b,Z b->Mut (H' b):=fun b z=>UV S1 (hm b z);cases s with
 |bor d=>
  have h:=Rp.strip h;refine⟨fun e=>?_,fun e=>?_⟩<;>rw[show d.strip=_ from e]at h
  ·obtain⟨a,vs,rfl,h1,r⟩:=Rp.lst_inv h;exact⟨a,vs,rfl,h0 _ _ h1,Rps.off hm' (Rps.mono h0 r) hf⟩
  ·obtain⟨a,vs,rfl,h1,r⟩:=Rp.tup_inv h;exact⟨a,vs,rfl,h0 _ _ h1,Rps.off hm' (Rps.mono h0 r) hf⟩
 |sh d=>
  refine⟨fun e=>?_,fun e=>?_⟩<;>(have e':d=_:=e;subst e')
  ·obtain⟨a,vs,rfl,h1,r⟩:=Rp.lst_inv h;exact⟨a,vs,rfl,off_sub _ _ h1,r⟩
  ·obtain⟨a,vs,rfl,h1,r⟩:=Rp.tup_inv h;exact⟨a,vs,rfl,off_sub _ _ h1,r⟩
 |own es=>
  cases es with
  |dK es=>exact⟨(fun e=>by cases e),(fun e=>by cases e)⟩
  |dT es=>exact⟨(fun e=>by cases e),(fun e=>by cases e)⟩
  |ins x C xs cs=>exact⟨(fun e=>by cases e),(fun e=>by cases e)⟩
  |nsl x cs=>
   refine⟨fun e=>?_,fun e=>by cases e⟩;have h2:=h.shd h0 hm S1 (d:=.lst (cs.map fun c=>.lst c.2)) rfl;cases e
   obtain⟨a,vs,rfl,h1,r⟩:=Rp.lst_inv h2;exact⟨a,vs,rfl,off_sub _ _ h1,r⟩
  |nst cs=>
   refine⟨(fun e=>by cases e),fun e=>?_⟩;have h2:=h.shd h0 hm S1 (d:=.tup (cs.map fun c=>.lst c.2)) rfl;cases e
   obtain⟨a,vs,rfl,h1,r⟩:=Rp.tup_inv h2;exact⟨a,vs,rfl,off_sub _ _ h1,r⟩
  |lst es=>
   refine⟨fun e=>?_,fun e=>by cases e⟩;cases e
   obtain⟨a,rfl,e0,vs,e,r⟩:=h;exact⟨a,vs,rfl,e,Rps.mono (Jx (Same.refl _) fun b _ _ z y=>z (.inl y)) r⟩
  |lsA x es=>
   refine⟨fun e=>?_,fun e=>by cases e⟩;cases e
   obtain⟨a,rfl,e0,_,vs,e,r⟩:=h;exact⟨a,vs,rfl,e,Rps.mono (Jx (Same.refl _) fun b _ _ z y=>z (.inl y)) r⟩
 |view es=>
  cases es with
  |dK es=>exact⟨(fun e=>by cases e),(fun e=>by cases e)⟩
  |dT es=>exact⟨(fun e=>by cases e),(fun e=>by cases e)⟩
  |ins x C xs cs=>exact⟨(fun e=>by cases e),(fun e=>by cases e)⟩
  |nsl x cs=>
   refine⟨fun e=>?_,fun e=>by cases e⟩;have h2:=h.rp h0;rw[e]at h2;obtain⟨a,vs,rfl,h1,r⟩:=Rp.lst_inv h2;exact⟨a,vs,rfl,h1,Rps.off hm' r hf⟩
  |nst cs=>
   refine⟨(fun e=>by cases e),fun e=>?_⟩;have h2:=h.rp h0;rw[e]at h2;obtain⟨a,vs,rfl,h1,r⟩:=Rp.tup_inv h2;exact⟨a,vs,rfl,h1,Rps.off hm' r hf⟩
  |lst es=>
   refine⟨fun e=>?_,fun e=>by cases e⟩;cases e
   obtain⟨a,rfl,vs,e,r⟩:=h;exact⟨a,vs,rfl,e,r⟩
  |lsA x es=>
   refine⟨fun e=>?_,fun e=>by cases e⟩;cases e
   obtain⟨a,rfl,_,vs,e,r⟩:=h;exact⟨a,vs,rfl,e,r⟩
 |tmp d=>
  refine⟨fun e=>?_,fun e=>?_⟩<;>(have e':d=_:=e;subst e')
  ·obtain⟨a,vs,rfl,h1,r⟩:=Rp.lst_inv h;exact⟨a,vs,rfl,h1,Rps.off hm' r hf⟩
  ·obtain⟨a,vs,rfl,h1,r⟩:=Rp.tup_inv h;exact⟨a,vs,rfl,h1,Rps.off hm' r hf⟩
def fLen:List S->(S->Prop)->Prop
 |[s],R=>(match s.d with
  | .lst ds=>R (.sh (.int ds.length)) | .tup ds=>R (.sh (.int ds.length)) | .scr ns=>R (.sh (.int ns.length)) | .str x=>x.length<=sizeLine/\R (.sh (.int x.length))|_=>False)
 |_,_=>False
def JH{ta:TA}{r:PTA}(hr:SndA K mg E ta r):SndE K mg E (tCB (fun xs H Q=>∃x n,xs=[x]/\LenV K x H n/\Q (.int n) H) ta) (pCB fLen r):=by
 refine Xh hr fun H0 H H1 Z ss vs R Q s0 s1 hm tv h q=>?_;unfold fLen at h;split at h
 ·rename_i s;obtain⟨v,rfl,t1⟩:=tv.one_inv;have rv:=t1.rp s0;split at h
  ·rename_i ds e;rw[e]at rv;obtain⟨a,us,rfl,h1,r1⟩:=rv.lst_inv;exact⟨_,_,rfl,.inl ⟨us,SqL.of h1,rfl⟩,by rw[r1.len];exact q _ _ H1 h (Same.refl _) (.int _)⟩
  ·rename_i ds e;rw[e]at rv;obtain⟨a,us,rfl,h1,r1⟩:=rv.tup_inv;exact⟨_,_,rfl,.inr ⟨us,SqT.of h1,rfl⟩,by rw[r1.len];exact q _ _ H1 h (Same.refl _) (.int _)⟩
  ·rename_i ns e;rw[e]at rv;cases rv with
   |scr hs=>exact⟨_,_,rfl,.inl ⟨_,hs,rfl⟩,by rw[Ya];exact q _ _ H1 h (Same.refl _) (.int _)⟩
  ·rename_i x e;rw[e]at rv;rw[rv.str_inv];exact⟨_,_,rfl,⟨h.1,rfl⟩,q _ _ H1 h.2 (Same.refl _) (.int _)⟩
  ·exact h.elim
 ·exact h.elim
def Cs:List S->(S->Prop)->Prop
 |[s],R=>(match s.d with
  | .lst ds=>s.free ds=true/\R (.own ds) | .tup ds=>s.free ds=true/\R (.own ds)|_=>False)
 |_,_=>False
def Pe{ta:TA}{r:PTA}(hr:SndA K mg E ta r):SndE K mg E (tCB (fun xs H Q=>∃p ys,xs=[.ref p]/\(SqL K H p ys\/SqT K H p ys)/\∀l,H l=none->Q (.ref l) (upd H l (.lst ys))) ta) (pCB Cs r):=by
 refine Xh hr fun H0 H H1 Z ss vs R Q s0 s1 hm tv h q=>?_;unfold Cs at h;split at h
 ·rename_i s;obtain⟨v,rfl,t1⟩:=tv.one_inv;split at h
  ·rename_i ds e;obtain⟨a,us,rfl,h1,r1⟩:=(t1.items s0 hm s1 h.1).1 e;exact⟨a,us,rfl,.inl (SqL.of h1),fun l nl=>q _ _ _ h.2 (JT nl) (XW s1 nl r1)⟩
  ·rename_i ds e;obtain⟨a,us,rfl,h1,r1⟩:=(t1.items s0 hm s1 h.1).2 e;exact⟨a,us,rfl,.inr (SqT.of h1),fun l nl=>q _ _ _ h.2 (JT nl) (XW s1 nl r1)⟩
  ·exact h.elim
 ·exact h.elim
def AM:List S->(S->Prop)->Prop
 |[s],R=>(match s.d with
  | .lst ds=>s.free ds=true/\R (.sh (.tup ds)) | .tup ds=>s.free ds=true/\R (.sh (.tup ds))|_=>False)
 |_,_=>False
def DP{ta:TA}{r:PTA}(hr:SndA K mg E ta r):SndE K mg E (tCB (fun xs H Q=>∃p ys,xs=[.ref p]/\((SqL K H p ys/\∀l,H l=none->Q (.ref l) (upd H l (.tup ys)))\/(SqT K H p ys/\Q (.ref p) H))) ta) (pCB AM r):=by
 refine Xh hr fun H0 H H1 Z ss vs R Q s0 s1 hm tv h q=>?_;have hm':∀b,Z b->Mut (H1 b):=fun b z=>UV s1 (hm b z);unfold AM at h;split at h
 ·rename_i s;obtain⟨v,rfl,t1⟩:=tv.one_inv;split at h
  ·rename_i ds e;obtain⟨a,us,rfl,h1,r1⟩:=(t1.items s0 hm s1 h.1).1 e;refine⟨a,us,rfl,.inl ⟨SqL.of h1,fun l nl=>q _ _ _ h.2 (JT nl) (.tup (JV J8 fun z=>?_) (Rps.mono (Jx (JT nl) fun _ _ _ z=>z) r1))⟩⟩
   have:=hm' l z
   rw[nl]at this;exact this
  ·rename_i ds e;obtain⟨a,us,rfl,h1,r1⟩:=(t1.items s0 hm s1 h.1).2 e;refine⟨a,us,rfl,.inr ⟨SqT.of h1,q _ _ _ h.2 (Same.refl _) (.tup (JV h1 fun z=>?_) r1)⟩⟩
   have:=hm' a z
   rw[h1]at this;exact this
  ·exact h.elim
 ·exact h.elim
def Rps.ints {K:Za}{H:Hp}:∀{js:List Int}{vs:List V},Rps K H (js.map D.int) vs->vs=js.map V.int
 |[],_,.nil=>rfl
 |j::r,_,.cons h t=>by rw[Rp.int_inv h,Rps.ints t];rfl
def Rps.of_ints {K:Za}{H:Hp}:∀(js:List Int),Rps K H (js.map D.int) (js.map V.int)
 |[]=>.nil
 |j::r=>.cons (.int j) (Rps.of_ints r)
def CD:List S->(S->Prop)->Prop
 |[s],R=>∃js:List Int,s.d=.lst (js.map D.int)/\js.length<64/\∀ns:List Int,ns.Perm js->ns.Pairwise (·<=·)->R (.own (ns.map D.int))
 |_,_=>False
def NA{w:World}{ta:TA}{r:PTA}(hr:SndA K mg E ta r):SndE K mg E (tCB (fun xs H Q=>∃(p:Addr) (js:List Int),xs=[.ref p]/\js.length<64/\(SqL K H p (js.map V.int)\/H p=some (SetH w p js))/\
  ∀(l:Addr) (ns:List Int),H l=none->ns.Perm js->ns.Pairwise (·<=·)->Q (.ref l) (upd H l (.lst (ns.map V.int)))) ta) (pCB CD r):=by
 refine Xh hr fun H0 H H1 Z ss vs R Q s0 s1 hm tv h q=>?_;unfold CD at h;split at h
 ·rename_i s;obtain⟨v,rfl,t1⟩:=tv.one_inv;obtain⟨js,e,hz,k⟩:=h;have rv:=t1.rp s0;rw[e]at rv;obtain⟨a,us,rfl,h1,r1⟩:=rv.lst_inv;rw[r1.ints]at h1;exact⟨a,js,rfl,hz,.inl (SqL.of h1),fun l ns nl hp hs=>q _ _ _ (k ns hp hs) (JT nl) (XW s1 nl (Rps.of_ints ns))⟩
 ·exact h.elim
def Ah:List S->(S->Prop)->Prop
 |[s,t],R=>(match s.d,t.d with | .int i,.int j=>R (.sh (.int (if j>i then j else i)))|_,_=>False)
 |_,_=>False
def Gy{ta:TA}{r:PTA}(hr:SndA K mg E ta r):SndE K mg E (tCB (fun xs H Q=>∃i j,xs=[.int i,.int j]/\Q (.int (if j>i then j else i)) H) ta) (pCB Ah r):=by
 refine Xh hr fun H0 H H1 Z ss vs R Q s0 s1 hm tv h q=>?_;unfold Ah at h;split at h
 ·obtain⟨v,u,rfl,t1,t2⟩:=tv.two_inv;have r1:=t1.rp s0;have r2:=t2.rp s0;split at h
  ·rename_i i j e1 e2;rw[e1]at r1;rw[e2]at r2;rw[r1.int_inv,r2.int_inv];exact⟨i,j,rfl,q _ _ H1 h (Same.refl _) (.int _)⟩
  ·exact h.elim
 ·exact h.elim
def fAbs:List S->(S->Prop)->Prop
 |[s],R=>(match s.d with | .int i=>R (.sh (.int (if i<0 then -i else i)))|_=>False)
 |_,_=>False
def tyD:D->Option String
 | .int _=>some "int" | .bl _=>some "bool" | .non=>some "NoneType" | .str _=>some "str" | .tup _=>some "tuple" | .lst _=>some "list" | .dK _=>some "dict" | .dT _=>some "dict" |_=>none
inductive IsiR:String->String->Bool->Prop
 |same (n:String):IsiR n n true
 |ib:IsiR "int" "bool" false
 |bi:IsiR "bool" "int" true
 |tl:IsiR "tuple" "list" false
 |lt:IsiR "list" "tuple" false
 |it:IsiR "int" "tuple" false
 |il:IsiR "int" "list" false
 |bt:IsiR "bool" "tuple" false
 |bL:IsiR "bool" "list" false
 |ti:IsiR "tuple" "int" false
 |li:IsiR "list" "int" false
 |si:IsiR "str" "int" false
 |is:IsiR "int" "str" false
 |ni:IsiR "NoneType" "int" false
 |nl:IsiR "NoneType" "list" false
 |nt:IsiR "NoneType" "tuple" false
def IsiR.kit {m n:String}{b:Bool} (h:IsiR m n b):PySem.W.kitOne K (.type m) (.type n)=some b:=by
 cases h with
 |same=>exact EA K _
 |_=>rfl
def fIsi:List S->(S->Prop)->Prop
 |[s,t],R=>(match tyD s.d,t.d with|some m,.ty n=>∃b,IsiR m n b/\R (.sh (.bl b))|_,_=>False)
 |_,_=>False
def Rq{d:D}{v:V}{m:String}(h:Rp K H d v)(e:tyD d=some m):TyOf K H v (.type m):=by
 cases h with
 |int i=>cases e;exact .int i
 |bl b=>cases e;exact .bl b
 |non=>cases e;exact .non
 |str x=>cases e;exact .str x
 |ty n=>cases e
 |tup h r=>cases e;exact .tup h
 |lst h r=>cases e;exact .lst h
 |scr h=>cases e
 |dK h=>cases e;exact .dK h
 |dT h=>cases e;exact .dT h
 |dF h=>cases e
 |loc h=>cases e
 |err h=>cases e
 |ref a=>cases e
 |ins h q r=>cases e
def Kc{ta:TA}{r:PTA}(hr:SndA K mg E ta r):SndE K mg E (tCB (fun xs H Q=>∃x n t b,xs=[x,.ty n]/\TyOf K H x t/\PySem.W.kitOne K t (.type n)=some b/\Q (.bl b) H) ta) (pCB fIsi r):=by
 refine Xh hr fun H0 H H1 Z ss vs R Q s0 s1 hm tv h q=>?_;unfold fIsi at h;split at h
 ·obtain⟨v,u,rfl,t1,t2⟩:=tv.two_inv;have r1:=t1.rp s0;have r2:=t2.rp s0;split at h
  ·rename_i m n e1 e2;rw[e2]at r2;rw[r2.ty_inv];obtain⟨b,k,hR⟩:=h;exact⟨v,n,_,b,rfl,Rq r1 e1,k.kit,q _ _ H1 hR (Same.refl _) (.bl _)⟩
  ·exact h.elim
 ·exact h.elim
def pBM(f:S->List S->(S->Prop)->Prop)(a:PTE)(r:PTA):PTE:=fun γ R X=>a γ (fun s=>(∃ds,s.d=.lst ds)/\r γ (fun ss=>f s ss R) X) X
def GF{rr:V->List V->Hp->VK->Prop}{f:S->List S->(S->Prop)->Prop}{te:TE}{ta:TA}{a:PTE}{r:PTA}(ha:SndE K mg E te a)(hr:SndA K mg E ta r)(h:∀(H0 H H1:Hp) (Z:Addr->Prop) (s:S) (v:V) (ss:List S) (vs:List V) (R:S->Prop) (Q:VK),Same H0 H1->Same H H1->(∀b,Z b->Mut (H b))->TV K Z H0 H H1 s v->TVs K Z H0 H H1 ss vs->f s ss R->(∀s z H',R s->Same H1 H'->TV K Z H0 H H' s z->Q z H')->rr v vs H1 Q) :
  SndE K mg E (tBM K "list" rr te ta) (pBM f a r):=by
 intro H0 B H σ γ R X Q env p q qx;refine ha H0 B H σ γ _ X _ env p (fun s v H1 h1 S1 t1=>?_) qx;have env1:=env.grow S1;obtain⟨⟨ds,ed⟩,h1⟩:=h1;have rv:=t1.rp env1.same;rw[ed]at rv;obtain⟨l,us,rfl,hl,_⟩:=rv.lst_inv;refine⟨.inl ⟨rfl,us,SqL.of hl⟩,hr H0 B H1 σ γ _ X _ env1 h1 (fun ss vs H2 h2 S2 t2=>?_) fun c H' hc S'=>qx c H' hc (S1.trans S')⟩;exact h H0 H H2 _ s _ ss vs R Q (env1.grow S2).same (S1.trans S2) env.zm (t1.grow S2) (TVs.weakG S1 t2) h2 fun s z H' hs S3 tv=>q s z H' hs ((S1.trans S2).trans S3) tv
def Dk:S->List S->(S->Prop)->Prop:=fun s ss R=>match ss with
 |[t]=>(match t.d with | .int z=>∃xs:List Int,s.d=.lst (xs.map D.int)/\z∈xs/\R (.sh (.int (xs.idxOf z:Nat)))|_=>False)
 |_=>False
def PK{te:TE}{ta:TA}{a:PTE}{r:PTA}(ha:SndE K mg E te a)(hr:SndA K mg E ta r):SndE K mg E (tBM K "list" (T3 K) te ta) (pBM Dk a r):=by
 refine GF ha hr fun H0 H H1 Z s v ss vs R Q s0 s1 hm t1 t2 h q=>?_;unfold Dk at h;split at h
 ·obtain⟨u,rfl,t2'⟩:=t2.one_inv;have r2:=t2'.rp s0;split at h
  ·rename_i z e;rw[e]at r2;obtain⟨xs,ex,hz,hR⟩:=h;have r1:=t1.rp s0;rw[ex]at r1;obtain⟨l,us,rfl,hl,r1⟩:=r1.lst_inv;rw[r1.ints]at hl;exact⟨l,xs,z,rfl,by rw[r2.int_inv],SqL.of hl,hz,q _ _ H1 hR (Same.refl _) (.int _)⟩
  ·exact h.elim
 ·exact h.elim
def prD(p:Int×Int):D:=.tup [.int p.1,.int p.2]
inductive InR:D->D->Bool->Prop
 |li (i:Int) (hs:List Int):InR (.int i) (.lst (hs.map D.int)) (decide (i∈hs))
 |ti (i:Int) (hs:List Int):InR (.int i) (.tup (hs.map D.int)) (decide (i∈hs))
 |lp (q:Int×Int) (ps:List (Int×Int)):InR (prD q) (.lst (ps.map prD)) (decide (q∈ps))
def fIn(neg:Bool):S->S->(S->Prop)->Prop:=fun x y R=>∃b,InR x.d y.d b/\R (.sh (.bl (if neg then !b else b)))
def Rp.pair {q:Int×Int}{v:V} (h:Rp K H (prD q) v):Uu H v q:=by
 obtain⟨a,vs,rfl,h1,r⟩:=Rp.tup_inv h;obtain⟨x,y,rfl,r1,r2⟩:=r.two_inv;rw[r1.int_inv,r2.int_inv]at h1;exact⟨a,rfl,h1⟩
def Rps.lv {K:Za}{H:Hp}{ps:List (Int×Int)}{vs:List V} (h:Rps K H (ps.map prD) vs):LV Uu H vs ps:=by
 refine⟨by rw[h.len,Ya],fun i p hp=>?_⟩;obtain⟨v,h1,h2⟩:=h.get (i:=i) (d:=prD p) (by rw[Yj,hp];rfl);exact⟨v,h1,h2.pair⟩
def UC{neg:Bool}{ta tb:TE}{a b:PTE}(ha:SndE K mg E ta a)(hb:SndE K mg E tb b):SndE K mg E (tOp (fun x y H Q=>rIn K neg x y H Q\/rInP neg x y H Q) ta tb) (p2 a b (fIn neg)):=by
 refine se_2 ha hb fun H0 H H2 Z x y v u R Q s0 s1 hm tx ty h q=>?_;obtain⟨k,hk,hR⟩:=h;have rx:=tx.rp s0;have ry:=ty.rp s0;generalize ex:x.d=dx at hk rx;generalize ey:y.d=dy at hk ry;cases hk with
 |li i hs=>
  obtain⟨l,us,rfl,hl,r⟩:=ry.lst_inv;rw[r.ints]at hl;rw[rx.int_inv];refine .inl ⟨l,_,rfl,.inl (SqL.of hl),rfl,XA _,?_⟩;rw[CJ];exact q _ _ H2 hR (Same.refl _) (.bl _)
 |ti i hs=>
  obtain⟨l,us,rfl,hl,r⟩:=ry.tup_inv;rw[r.ints]at hl;rw[rx.int_inv];refine .inl ⟨l,_,rfl,.inr (SqT.of hl),rfl,XA _,?_⟩;rw[CJ];exact q _ _ H2 hR (Same.refl _) (.bl _)
 |lp p ps=>
  obtain⟨l,us,rfl,hl,r⟩:=ry.lst_inv;exact .inr ⟨l,ps,p,rfl,rx.pair,⟨us,hl,r.lv⟩,q _ _ H2 hR (Same.refl _) (.bl _)⟩
def fEqU(neg:Bool):S->S->(S->Prop)->Prop:=fun x y R=>match x.d,y.d with
 | .lst ds,.lst es=>∃xs ys:List Int,ds=xs.map D.int/\es=ys.map D.int/\R (.sh (.bl (if neg then !decide (xs=ys)else decide (xs=ys))))
 |_,_=>fEq neg x y R
def UA{ta tb:TE}{a b:PTE}(ha:SndE K mg E ta a)(hb:SndE K mg E tb b):SndE K mg E (tOp (fun x y H Q=>rEq x y H Q\/rEqL K false x y H Q) ta tb) (p2 a b (fEqU false)):=by
 refine se_2 ha hb fun H0 H H2 Z x y v u R Q s0 s1 hm tx ty h q=>?_;have rx:=tx.rp s0;have ry:=ty.rp s0;unfold fEqU at h;split at h
 ·rename_i ds es e1 e2;obtain⟨xs,ys,rfl,rfl,hR⟩:=h;rw[e1]at rx;rw[e2]at ry;obtain⟨l,us,rfl,hl,r⟩:=rx.lst_inv;obtain⟨m,ws,rfl,hm,r'⟩:=ry.lst_inv;rw[r.ints]at hl;rw[r'.ints]at hm;refine .inr ⟨l,m,_,_,rfl,rfl,SqL.of hl,SqL.of hm,XA _,XA _,?_⟩;rw[SJ];exact q _ _ H2 hR (Same.refl _) (.bl _)
 ·refine .inl ?_;unfold fEq at h;split at h
  ·rename_i i j e1 e2;rw[e1]at rx;rw[e2]at ry;rw[rx.int_inv,ry.int_inv];refine⟨rfl,?_⟩;rw[Kt (f:=V.int) fun _ _ z=>V.int.inj z];exact q _ _ H2 h (Same.refl _) (.bl _)
  ·rename_i i j e1 e2;rw[e1]at rx;rw[e2]at ry;rw[rx.str_inv,ry.str_inv];refine⟨rfl,?_⟩;rw[Kt (f:=V.str) fun _ _ z=>V.str.inj z];exact q _ _ H2 h (Same.refl _) (.bl _)
  ·rename_i i j e1 e2;rw[e1]at rx;rw[e2]at ry;rw[rx.bl_inv,ry.bl_inv];refine⟨rfl,?_⟩;rw[Kt (f:=V.bl) fun _ _ z=>V.bl.inj z];exact q _ _ H2 h (Same.refl _) (.bl _)
  ·exact h.elim
def UM{ta tb:TE}{a b:PTE}(ha:SndE K mg E ta a)(hb:SndE K mg E tb b):SndE K mg E (tOp (fun x y H Q=>rNe x y H Q\/rEqL K true x y H Q) ta tb) (p2 a b (fEqU true)):=by
 refine se_2 ha hb fun H0 H H2 Z x y v u R Q s0 s1 hm tx ty h q=>?_;have rx:=tx.rp s0;have ry:=ty.rp s0;unfold fEqU at h;split at h
 ·rename_i ds es e1 e2;obtain⟨xs,ys,rfl,rfl,hR⟩:=h;rw[e1]at rx;rw[e2]at ry;obtain⟨l,us,rfl,hl,r⟩:=rx.lst_inv;obtain⟨m,ws,rfl,hm,r'⟩:=ry.lst_inv;rw[r.ints]at hl;rw[r'.ints]at hm;refine .inr ⟨l,m,_,_,rfl,rfl,SqL.of hl,SqL.of hm,XA _,XA _,?_⟩;rw[SJ];exact q _ _ H2 hR (Same.refl _) (.bl _)
 ·refine .inl ?_;unfold fEq at h;split at h
  ·rename_i i j e1 e2;rw[e1]at rx;rw[e2]at ry;rw[rx.int_inv,ry.int_inv];refine⟨rfl,?_⟩;rw[Kt (f:=V.int) fun _ _ z=>V.int.inj z];exact q _ _ H2 h (Same.refl _) (.bl _)
  ·rename_i i j e1 e2;rw[e1]at rx;rw[e2]at ry;rw[rx.str_inv,ry.str_inv];refine⟨rfl,?_⟩;rw[Kt (f:=V.str) fun _ _ z=>V.str.inj z];exact q _ _ H2 h (Same.refl _) (.bl _)
  ·rename_i i j e1 e2;rw[e1]at rx;rw[e2]at ry;rw[rx.bl_inv,ry.bl_inv];refine⟨rfl,?_⟩;rw[Kt (f:=V.bl) fun _ _ z=>V.bl.inj z];exact q _ _ H2 h (Same.refl _) (.bl _)
  ·exact h.elim
abbrev tTru(K:Za)(ta:TE):TT:=fun σ H Q=>ta σ H fun x H'=>∃k,TruV K x H' k/\Q k H'
def pTru(a:PTE):PTT:=fun γ R X=>a γ (fun x=>match x.d with
 | .bl b=>R b | .lst ds=>R (!ds.isEmpty) | .tup ds=>R (!ds.isEmpty) | .int i=>R (i != 0) | .non=>R false|_=>False) X
def CP{α β:Type}{l:List α}{m:List β}(h:l.length=m.length):l.isEmpty=m.isEmpty:=by
 cases l<;>cases m<;>simp at h ⊢
def JX{te:TE}{a:PTE}(ha:SndE K mg E te a):SndT K mg E (tTru K te) (pTru a):=by
 intro H0 B H σ γ R X Q env p q qx;refine ha H0 B H σ γ _ X _ env p (fun x v H1 h1 S1 t1=>?_) qx;have rx:=t1.rp (env.grow S1).same;split at h1
 ·rename_i b e;rw[e]at rx;rw[rx.bl_inv];exact⟨b,rfl,q _ H1 h1 S1⟩
 ·rename_i ds e;rw[e]at rx;obtain⟨l,us,rfl,hl,r⟩:=rx.lst_inv;exact⟨!us.isEmpty,.inl ⟨us,SqL.of hl,rfl⟩,by rw[CP r.len];exact q _ H1 h1 S1⟩
 ·rename_i ds e;rw[e]at rx;obtain⟨l,us,rfl,hl,r⟩:=rx.tup_inv;exact⟨!us.isEmpty,.inr (.inl ⟨us,SqT.of hl,rfl⟩),by rw[CP r.len];exact q _ H1 h1 S1⟩
 ·rename_i i e;rw[e]at rx;rw[rx.int_inv];exact⟨_,rfl,q _ H1 h1 S1⟩
 ·rename_i e;rw[e]at rx;rw[rx.non_inv];exact⟨_,rfl,q _ H1 h1 S1⟩
 ·exact h1.elim
def cutD{α:Type}(xs:List α)(lo hi:Option Int):List α:=(xs.drop (HT.sIx xs.length 0 lo)).take (HT.sIx xs.length xs.length hi-HT.sIx xs.length 0 lo)
def GJ:PTO:=fun _ R _=>R none
def Rg(a:PTE):PTO:=fun γ R X=>a γ (fun s=>match s.d with | .int i=>R (some i)|_=>False) X
def Pd:SndO K mg E Ee GJ:=fun _ _ H _ _ _ _ _ _ p q _=>q _ H p (Same.refl _)
def Pz{te:TE}{a:PTE}(ha:SndE K mg E te a):SndO K mg E (AR te) (Rg a):=by
 intro H0 B H σ γ R X Q env p q qx;refine ha H0 B H σ γ _ X _ env p (fun x v H1 h1 S1 t1=>?_) qx;have rx:=t1.rp (env.grow S1).same;split at h1
 ·rename_i i e;rw[e]at rx;exact⟨i,rx.int_inv,q _ H1 h1 S1⟩
 ·exact h1.elim
def pSl(a:PTE)(l u:PTO):PTE:=fun γ R X=>a γ (fun s=>l γ (fun lo=>u γ (fun hi=>match s.d with | .lst ds=>s.free ds=true/\R (.own (cutD ds lo hi))|_=>False) X) X) X
def Rps.cut {ds:List D}{vs:List V}{lo hi:Option Int} (r:Rps K H ds vs):Rps K H (cutD ds lo hi) (cutV vs lo hi):=by
 unfold cutD cutV;rw[r.len];exact Rps.take _ (Rps.drop _ r)
def KG{te:TE}{tl th:TO}{a:PTE}{l u:PTO}(ha:SndE K mg E te a)(hl:SndO K mg E tl l)(hu:SndO K mg E th u):SndE K mg E (tSl (rSlL K) te tl th) (pSl a l u):=by
 intro H0 B H σ γ R X Q env p q qx;refine ha H0 B H σ γ _ X _ env p (fun x v H1 h1 S1 t1=>?_) qx;refine hl H0 B H1 σ γ _ X _ (env.grow S1) h1 (fun lo H2 h2 S2=>?_) fun c H' hc S'=>qx c H' hc (S1.trans S');refine hu H0 B H2 σ γ _ X _ ((env.grow S1).grow S2) h2 (fun hi H3 h3 S3=>?_) fun c H' hc S'=>qx c H' hc ((S1.trans S2).trans S');have S13:=(S1.trans S2).trans S3;split at h3
 ·rename_i ds e;obtain⟨b,us,rfl,hb,r⟩:=((t1.grow (S2.trans S3)).items (env.grow S13).same env.zm S13 h3.1).1 e;exact⟨b,us,rfl,SqL.of hb,fun m nm=>q _ _ _ h3.2 (S13.trans (JT nm)) (XW S13 nm r.cut)⟩
 ·exact h3.elim
def fCat:S->S->(S->Prop)->Prop:=fun x y R=>match x.d,y.d with
 | .lst ds,.lst es=>x.free ds=true/\y.free es=true/\ds.length+es.length<=100000/\R (.own (ds++es))
 |_,_=>False
def Ki{ta tb:TE}{a b:PTE}(ha:SndE K mg E ta a)(hb:SndE K mg E tb b):SndE K mg E (tOp rCat ta tb) (p2 a b fCat):=by
 refine se_2 ha hb fun H0 H H2 Z x y v u R Q s0 s1 hm tx ty h q=>?_;unfold fCat at h;split at h
 ·rename_i ds es e1 e2;obtain⟨l,us,rfl,hl,r⟩:=(tx.items s0 hm s1 h.1).1 e1;obtain⟨m,ws,rfl,hm',r'⟩:=(ty.items s0 hm s1 h.2.1).1 e2;have hz:us.length+ws.length<=sizeLine:=by rw[r.len,r'.len];exact Yx h.2.2.1 (by decide)
  exact⟨l,m,us,ws,rfl,rfl,hl,hm',hz,fun p np=>q _ _ _ h.2.2.2 (JT np) (XW s1 np (r.append r'))⟩
 ·exact h.elim
def AU(i:Nat)(a:PTE):PTS:=fun R γ=>match γ[i]? with
 |some (some (.own (.lst ds)))=>a γ (fun s=>match s.shd with
  |some d=>ds.length<10000000/\R.nx (γ.set i (some (.own (ds++[d]))))
  |none=>False) (R.ex γ)
 |some (some (.own (.lsA x ds)))=>a γ (fun s=>match s.shd with
  |some d=>ds.length<10000000/\R.nx (γ.set i (some (.own (.lsA x (ds++[d])))))
  |none=>False) (R.ex γ)
 |_=>False
def XG(i:Nat){te:TE}{a:PTE}(ha:SndE K mg E te a):SndS K mg E (KC (tBM K "list" B5 (tVar i) (JR te tNil))) (AU i a):=by
 intro H0 B H σ γ R D hB env h e;unfold AU at h;split at h
 ·rename_i ds hi;obtain⟨v,hv,b,rfl,hb0,us,hb,rb⟩:=env.slot i _ hi;refine⟨_,hv,.inl ⟨rfl,us,SqL.of hb⟩,ha H0 B H σ γ _ _ _ env h (fun s u H1 h1 S1 t1=>?_) fun c H' hc S'=>e.ex σ γ c H' hc (env.grow S') (Fr.grow S')⟩;have env1:=env.grow S1;split at h1
  ·rename_i d e2;have rd:=t1.shd env1.same env.zm S1 e2;refine⟨b,us,u,rfl,rfl,S1 _ _ hb,by rw[rb.len];exact WU h1.1 (by decide),?_⟩;obtain⟨e2,f2⟩:=env1.mutate (es:=.lst (ds++[d])) (us:=.lst (us++[u])) hi hv trivial fun F H' SF hF=>⟨_,hF,Rps.mono SF (Rps.append (Rps.mono (Jx S1 fun _ _ _ z=>z) rb) (.cons rd .nil))⟩;exact e.nx _ _ _ h1.2 e2 ((Fr.grow S1).trans f2)
  ·exact h1.elim
 ·rename_i x ds hi;obtain⟨v,hv,b,rfl,hb0,rfl,us,hb,rb⟩:=env.slot i _ hi;refine⟨_,hv,.inl ⟨rfl,us,SqL.of hb⟩,ha H0 B H σ γ _ _ _ env h (fun s u H1 h1 S1 t1=>?_) fun c H' hc S'=>e.ex σ γ c H' hc (env.grow S') (Fr.grow S')⟩;have env1:=env.grow S1;split at h1
  ·rename_i d e2;have rd:=t1.shd env1.same env.zm S1 e2;refine⟨b,us,u,rfl,rfl,S1 _ _ hb,by rw[rb.len];exact WU h1.1 (by decide),?_⟩;obtain⟨e2,f2⟩:=env1.mutate (es:=.lsA b (ds++[d])) (us:=.lst (us++[u])) hi hv trivial fun F H' SF hF=>⟨rfl,_,hF,Rps.mono SF (Rps.append (Rps.mono (Jx S1 fun _ _ _ z=>z) rb) (.cons rd .nil))⟩;exact e.nx _ _ _ h1.2 e2 ((Fr.grow S1).trans f2)
  ·exact h1.elim
 ·exact h.elim
end
section
variable {X:Cx}{K:Za}
def X3(hu:X.A.in1.units<cLine)(hK:X.K=K:=by rfl):OpR X (compareOp .In) (fun x y H Q=>rIn K false x y H Q\/rInP false x y H Q):=(Zab hK).or (He hu)
def P5(hu:X.A.in1.units<cLine)(hK:X.K=K:=by rfl):OpR X (compareOp .NotIn) (fun x y H Q=>rIn K true x y H Q\/rInP true x y H Q):=(Hz hK).or (OM hu)
def KS(hu:X.A.units<cLine)(hK:X.K=K:=by rfl):OpR X (compareOp .Eq) (fun x y H Q=>rEq x y H Q\/rEqL K false x y H Q):=by subst hK;exact op_eq.or (HJ hu)
def D2(hu:X.A.units<cLine)(hK:X.K=K:=by rfl):OpR X (compareOp .NotEq) (fun x y H Q=>rNe x y H Q\/rEqL K true x y H Q):=by subst hK;exact op_ne.or (Ei hu)
def JW{e:Expr}{te:TE}(ha:PE X e te)(hK:X.K=K:=by rfl)(he:∀whole,isTrue e X.env whole=(do let v ←whole;standAt e.pos;holding [v] (truthy v)):=by intro _;rfl):PT X e (tTru K te):=by
 subst hK;exact Ma ha he
def KL(hK:X.K=K:=by rfl):Ug X (.type "list") (fun xs H Q=>∃p ys,xs=[.ref p]/\(SqL K H p ys\/SqT K H p ys)/\∀l,H l=none->Q (.ref l) (upd H l (.lst ys))):=by subst hK;exact A7
def Ew(hK:X.K=K:=by rfl):Ug X (.type "tuple") (fun xs H Q=>∃p ys,xs=[.ref p]/\((SqL K H p ys/\∀l,H l=none->Q (.ref l) (upd H l (.tup ys)))\/(SqT K H p ys/\Q (.ref p) H))):=by subst hK;exact LF
def XX(hK:X.K=K:=by rfl):Ug X (.builtin "isinstance") (fun xs H Q=>∃x n t b,xs=[x,.ty n]/\TyOf K H x t/\PySem.W.kitOne K t (.type n)=some b/\Q (.bl b) H):=by subst hK;exact Hw
def Pf(hK:X.K=K:=by rfl):SlR X (rSlL K):=by subst hK;exact Oh
def NK(hc:X.calm=true){w:World}(hK:X.K=K:=by rfl)(hw:X.w=w:=by rfl):Ug X (.builtin "sorted") (fun xs H Q=>∃(p:Addr) (js:List Int),xs=[.ref p]/\js.length<64/\(SqL K H p (js.map V.int)\/H p=some (SetH w p js))/\
  ∀(l:Addr) (ns:List Int),H l=none->ns.Perm js->ns.Pairwise (·<=·)->Q (.ref l) (upd H l (.lst (ns.map V.int)))):=by subst hK;subst hw;exact CW hc
def JI{tg l:Expr}{tl:TE}(hl:PE X l tl)(hK:X.K=K:=by rfl):PI X tg l (Tt K tl):=by subst hK;exact CM hl
end
section
variable {P:Program}{w:World}{K:Za}{mg:Str->Option Value}{base:Heap}{H H':Hp}
def DB{CX:CXT}{k:Nat}{x:Str}{ps:List Str}{sp:Sp}{c:Pc}(C:Callee P w K mg base CX k x ps sp)(h:∀ds R X vs H (Q:VK) (E:XK),Rps K H ds vs->c ds R X->(∀s v H',R s->Same H H'->TV K (fun b=>Mut (H b)) H H H' s v->Q v H')->(∀e H',X e->Same H H'->E (.ref (ExcR.Jq mg e)) none H')->sp vs H Q E) :
  Callee P w K mg base CX k x ps (spOf mg c K):=by
 obtain⟨f,fd,F,rest⟩:=C.ex;exact⟨f,fd,F.imp fun vs H Q E ⟨ds,R,X,r,hc,hQ,hX⟩=>h ds R X vs H Q E r hc hQ hX,rest⟩
def Rp.ints_inv {ns:List Int}{v:V} (h:Rp K H (.lst (ns.map D.int)) v):∃a,v=.ref a/\H a=some (.lst (ns.map V.int)):=by
 obtain⟨a,vs,rfl,h1,r⟩:=h.lst_inv;rw[r.ints]at h1;exact⟨a,rfl,h1⟩
def Rp.pairs_inv {ps:List (Int×Int)}{v:V} (h:Rp K H (.lst (ps.map prD)) v):∃a,v=.ref a/\LAt Uu H a ps:=by
 obtain⟨a,vs,rfl,h1,r⟩:=h.lst_inv;exact⟨a,rfl,vs,h1,r.lv⟩
def F3{a:Addr}{ns:List Int}(n:H a=none)(h:H' a=some (.lst (ns.map V.int))):TV K (fun b=>Mut (H b)) H H H' (.own (ns.map D.int)) (.ref a):=⟨a,rfl,(fun _ e=>e▸n),_,h,Rps.of_ints ns⟩
def KP:∀(ns:List Int),imms (ns.map D.int)=true
 |[]=>by unfold List.map imms;rfl
 |n::r=>by rw[Yq];unfold imms;rw[KP r];unfold imm;rfl
def Ol(p:Int×Int):imm (prD p)=true:=by unfold prD imm imms imm imms imm imms;rfl
def PZ:∀(ps:List (Int×Int)),imms (ps.map prD)=true
 |[]=>by unfold List.map imms;rfl
 |p::r=>by rw[Yq];unfold imms;rw[PZ r,Ol];rfl
def Ds{α:Type}{f:α->D}{xs:List α}{i:Nat}(h:i<xs.length):(xs.map f).getD i .non=f xs[i]:=by
 rw[Yd,Yj,ZZ h];rfl
def UX{α:Type}{f:α->D}{xs:List α}{i:Int}(h0:0<=i)(h:i<(xs.length:Int)):atI (xs.map f) i=some (f (xs[i.toNat]'(by omega))):=by
 have h':i.toNat<xs.length:=by omega
 exact Xi (P7 h0 (ZZ h'))
def Tj{α:Type}{f:α->D}{xs:List α}{i:Nat}(h:i<xs.length):atI (xs.map f) (i:Int)=some (f xs[i]):=Xi (Td (ZZ h))
def Uh{α:Type}{φ:List (Option Nat)}{γ:Γ}{g:PTG}{c:PTT}{e:PTE}{s:S}{R:S->Prop}{xs:List α}{emb:α->D}(f:α->Option D)(hz:xs.length<=100000)(turn:∀x∈xs,g (s.sub (emb x)) (atP φ γ) fun γ2=>c γ2 (fun b=>if b=true then e γ2 (fun s=>∃d,s.shd=some d/\f x=some d) (fun _=>False)else f x=none) fun _=>False)(done:R (.own (xs.filterMap f))) :
  CompW φ γ g c e (xs.map emb).length (fun i=>s.sub ((xs.map emb).getD i .non)) R:=by
 rw[Ya];refine⟨⟨hz,fun i=>(xs[i]?).bind f,fun i hi=>?_,by rw[ED];exact done⟩⟩;have e1:(xs[i]?).bind f=f xs[i]:=by rw[ZZ hi];rfl
 have t:=turn xs[i] (Yr hi);rw[←e1]at t;rw[←Ds (f:=emb) hi]at t;exact t
def BD{φ:List (Option Nat)}{γ:Γ}{g:PTG}{c:PTT}{e:PTE}{item:Nat->S}{R:S->Prop}{n:Nat}(f:Nat->Option D)(hz:n<=100000)(turn:∀i,i<n->g (item i) (atP φ γ) fun γ2=>c γ2 (fun b=>if b=true then e γ2 (fun s=>∃d,s.shd=some d/\f i=some d) (fun _=>False)else f i=none) fun _=>False)(done:R (.own ((List.range n).filterMap f))) :
  CompW φ γ g c e n item R:=⟨⟨hz,f,turn,done⟩⟩
def Uv{α:Type}{js:List Nat}{γ:Γ}{g:PTG}{body:PTS}{s:S}{R:PEnds}{xs:List α}{emb:α->D}(inv:Nat->Γ->Prop)(h0:inv 0 (clr js γ))(turn:∀(i:Nat) (hi:i<xs.length) γ',inv i γ'->g (s.sub (emb xs[i])) γ' fun γ2=>body {R with nx:=fun γ3=>inv (i+1) (clr js γ3),ct:=fun γ3=>inv (i+1) (clr js γ3),bk:=R.nx} γ2)(done:∀γ',inv xs.length γ'->R.nx γ') :
  ForW js γ g body R (xs.map emb).length (fun i=>s.sub ((xs.map emb).getD i .non)):=by
 refine⟨⟨inv,h0,fun i γ' hi h=>?_,fun γ' h=>?_⟩⟩
 ·rw[Ya]at hi;have t:=turn i hi γ' h;rw[←Ds (f:=emb) hi]at t;exact t
 ·rw[Ya]at h;exact done γ' h
def X9{js:List Nat}{γ:Γ}{g:PTG}{body:PTS}{R:PEnds}{n:Nat}{item:Nat->S}(inv:Nat->Γ->Prop)(h0:inv 0 (clr js γ))(turn:∀(i:Nat) γ',i<n->inv i γ'->g (item i) γ' fun γ2=>body {R with nx:=fun γ3=>inv (i+1) (clr js γ3),ct:=fun γ3=>inv (i+1) (clr js γ3),bk:=R.nx} γ2)(done:∀γ',inv n γ'->R.nx γ'):ForW js γ g body R n item:=⟨⟨inv,h0,turn,done⟩⟩
def Bm{js:List Nat}{γ:Γ}{c:PTT}{body:PTS}{R:PEnds}(inv:Γ->Prop)(μ:Γ->Nat)(h0:inv (clr js γ))(turn:∀γ',inv γ'->c γ' (fun b=>if b=true then body {R with nx:=fun γ3=>inv (clr js γ3)/\μ (clr js γ3)<μ γ',ct:=fun γ3=>inv (clr js γ3)/\μ (clr js γ3)<μ γ',bk:=R.nx} γ' else R.nx γ') (R.ex γ')):WhileW js γ c body R:=⟨⟨inv,μ,h0,turn⟩⟩
def Sm{p q:PTS}{R:PEnds}{γ:Γ}(J:Γ->Prop)(h1:p {R with nx:=J} γ)(h2:∀γ',J γ'->q R γ'):JoinW p q R γ:=⟨⟨J,h1,h2⟩⟩
def US{α:Type}(c:α->Bool)(emb:α->D):∀ws:List α,ws.filterMap (fun q=>if c q=true then some (emb q)else none)=(ws.filter c).map emb
 |[]=>rfl
 |q::r=>by
  by_cases h:c q=true
  ·rw[List.filterMap_cons_some (b:=emb q) (by rw[Yg h]),List.filter_cons_of_pos h,Yq,US c emb r]
  ·rw[List.filterMap_cons_none (by rw[Ye h]),List.filter_cons_of_neg h,US c emb r]
def mapD{α:Type}(emb:α->D)(ws:List α):ws.filterMap (fun q=>some (emb q))=ws.map emb:=by rw[Qg]
def KQ{α:Type}(f:α->D)(xs:List α)(lo hi:Option Int):cutD (xs.map f) lo hi=(cutD xs lo hi).map f:=by
 unfold cutD;rw[Ya,List.map_take,List.map_drop]
def DO{α:Type}(xs:List α){n:Int}(h:0<=n):cutD xs none (some n)=xs.take n.toNat:=by
 unfold cutD;have e:n=(n.toNat:Int):=by omega
 rw[HT.Er,e,HT.BV,List.drop_zero];rw[Nat.sub_zero,YF];by_cases c:n.toNat<=xs.length
 ·rw[Nat.min_eq_left c]
 ·rw[Nat.min_eq_right (by omega),WH (Yi _),WH (by omega)]
def SL{α:Type}(xs:List α){n:Int}(h:0<=n):cutD xs (some n) none=xs.drop n.toNat:=by
 unfold cutD;have e:n=(n.toNat:Int):=by omega
 rw[HT.Er,e,HT.BV,YF];by_cases c:n.toNat<=xs.length
 ·rw[Nat.min_eq_left c,WH (by rw[List.length_drop];omega)]
 ·rw[Nat.min_eq_right (by omega),List.drop_of_length_le (Yi _),List.drop_of_length_le (by omega)];simp
def SN(K:Za):Sp:=fun vs H Q _=>∃(a:Addr) (ns:List Int),vs=[.ref a]/\SqL K H a (ns.map V.int)/\∀H',Q (.bl true) H'
def Cp:Pc:=fun ds R _=>∃ns:List Int,ds=[.scr ns]/\R (.sh (.bl true))
def NW{vs:List V}{Q:VK}{Ec:XK}(h:SN K vs H Q Ec):spOf mg Cp K vs H Q Ec:=by
 obtain⟨a,ns,rfl,hS,q⟩:=h;refine⟨[.scr ns],fun s=>s=.sh (.bl true),fun _=>False,.cons (.scr hS) .nil,⟨ns,rfl,rfl⟩,fun s v H' e S1 tv=>?_,fun _ _ z=>z.elim⟩;subst e;cases tv
 exact q H'
end
section
variable {K:Za}{mg:Str->Option Value}{E:L2.St->XK}{H0 H H1 H':Hp}{B Z Z':Addr->Prop}{σ:L2.St}{γ:Γ}
def TC:D->Option V
 | .int i=>some (.int i) | .bl b=>some (.bl b) | .non=>some .non | .str x=>some (.str x)|_=>none
def vD:V->D
 | .int i=>.int i | .bl b=>.bl b | .str x=>.str x|_=>.non
def TQ:V->Bool
 | .int _=>true | .bl _=>true | .str _=>true | .non=>true|_=>false
def Bn{v:V}(h:TQ v=true):Rp K H (vD v) v:=by
 cases v with
 |int i=>exact .int i
 |bl b=>exact .bl b
 |str x=>exact .str x
 |non=>exact .non
 |_=>cases h
def N3{d:D}{v u:V}(h:Rp K H d v)(e:TC d=some u):v=u:=by
 cases h with
 |int i=>cases e;rfl
 |bl b=>cases e;rfl
 |non=>cases e;rfl
 |str x=>cases e;rfl
 |_=>cases e
def keyD:D->Option Key
 | .int i=>some (.inl i) | .str x=>some (.inr x)|_=>none
def Ku:List D->Option (List Key)
 |[]=>some []
 |d::r=>match keyD d,Ku r with
  |some k,some ks=>some (k::ks)
  |_,_=>none
def K6:D->Option (List Key)
 | .tup ds=>Ku ds
 |_=>none
def PY{d:D}{v:V}{k:Key}(h:Rp K H d v)(e:keyD d=some k):v=kV k:=by
 cases h with
 |int i=>cases e;rfl
 |str x=>cases e;rfl
 |_=>cases e
def Dd:∀{ds:List D}{vs:List V}{ks:List Key},Rps K H ds vs->Ku ds=some ks->vs=ks.map kV
 |[],_,_,.nil,e=>by cases e;rfl
 |d::r,_,ks,.cons h t,e=>by
  unfold Ku at e;split at e
  ·rename_i k js e1 e2;cases e
   rw[PY h e1,Dd t e2];rfl
  ·cases e
def TN{d:D}{v:V}{ks:List Key}(h:Rp K H d v)(e:K6 d=some ks):∃b,v=.ref b/\H b=some (.tup (ks.map kV)):=by
 cases h with
 |tup h r=>
  rw[Dd r e]at h;exact⟨_,rfl,h⟩
 |_=>cases e
def Rp.dK_inv {kvs:List (Key×V)}{v:V} (h:Rp K H (.dK kvs) v):∃a,v=.ref a/\H a=some (.dK kvs):=by
 cases h with
 |dK h=>exact⟨_,rfl,h⟩
def Rp.dT_inv {kvs:List (List Key×V)}{v:V} (h:Rp K H (.dT kvs) v):∃a,v=.ref a/\H a=some (.dT kvs):=by
 cases h with
 |dT h=>exact⟨_,rfl,h⟩
def MC:PTE:=fun _ R _=>R (.own (.dK []))
def LH:PTE:=fun _ R _=>R (.own (.dT []))
def G9:SndE K mg E En MC:=by
 intro H0 B H σ γ R X Q env p q _;intro l nl;exact q _ _ _ p (JT nl) ⟨l,rfl,(fun _ e=>e▸nl),J8⟩
def Mi:SndE K mg E FC LH:=by
 intro H0 B H σ γ R X Q env p q _;intro l nl;exact q _ _ _ p (JT nl) ⟨l,rfl,(fun _ e=>e▸nl),J8⟩
def Ck:S->S->(S->Prop)->Prop:=fun x y R=>match x.d with
 | .dK kvs=>∃k v,keyD y.d=some k/\valV kvs k=some v/\TQ v=true/\R (.sh (vD v))
 | .dT kvs=>∃k v,K6 y.d=some k/\valV kvs k=some v/\TQ v=true/\R (.sh (vD v))
 |_=>False
def Py{td ty:TE}{a b:PTE}(ha:SndE K mg E td a)(hb:SndE K mg E ty b):SndE K mg E (CC td ty) (p2 a b Ck):=by
 show SndE K mg E (tOp (fun x y H Q=>∃a v,x=.ref a/\DGet H a y (some v)/\Q v H) td ty) _;refine se_2 ha hb fun H0 H H2 Z x y v u R Q s0 s1 hm tx ty h q=>?_;have rx:=tx.rp s0;have ry:=ty.rp s0;unfold Ck at h;split at h
 ·rename_i kvs e;rw[e]at rx;obtain⟨l,rfl,hl⟩:=rx.dK_inv;obtain⟨k,w,h1,h2,h3,h4⟩:=h;refine⟨l,w,rfl,?_,q _ _ H2 h4 (Same.refl _) (Bn h3)⟩;rw[PY ry h1,←h2];exact DGet.k hl
 ·rename_i kvs e;rw[e]at rx;obtain⟨l,rfl,hl⟩:=rx.dT_inv;obtain⟨k,w,h1,h2,h3,h4⟩:=h;obtain⟨b,rfl,hb⟩:=TN ry h1;refine⟨l,w,rfl,?_,q _ _ H2 h4 (Same.refl _) (Bn h3)⟩;rw[←h2];exact DGet.t hl hb
 ·exact h.elim
def fDIn(neg:Bool):S->S->(S->Prop)->Prop:=fun y x R=>match x.d with
 | .dK kvs=>∃k,keyD y.d=some k/\R (.sh (.bl (if neg then !(valV kvs k).isSome else(valV kvs k).isSome)))
 | .dT kvs=>∃k,K6 y.d=some k/\R (.sh (.bl (if neg then !(valV kvs k).isSome else(valV kvs k).isSome)))
 |_=>False
def EL{td ty:TE}{a b:PTE}(ha:SndE K mg E ty a)(hb:SndE K mg E td b):SndE K mg E (BJ ty td) (p2 a b (fDIn true)):=by
 show SndE K mg E (tOp (fun y x H Q=>∃a o,x=.ref a/\DGet H a y o/\Q (.bl (!o.isSome)) H) ty td) _;refine se_2 ha hb fun H0 H H2 Z y x u v R Q s0 s1 hm ty tx h q=>?_;have rx:=tx.rp s0;have ry:=ty.rp s0;unfold fDIn at h;split at h
 ·rename_i kvs e;rw[e]at rx;obtain⟨l,rfl,hl⟩:=rx.dK_inv;obtain⟨k,h1,h4⟩:=h;refine⟨l,_,rfl,?_,q _ _ H2 h4 (Same.refl _) (.bl _)⟩;rw[PY ry h1];exact DGet.k hl
 ·rename_i kvs e;rw[e]at rx;obtain⟨l,rfl,hl⟩:=rx.dT_inv;obtain⟨k,h1,h4⟩:=h;obtain⟨b,rfl,hb⟩:=TN ry h1;exact⟨l,_,rfl,DGet.t hl hb,q _ _ H2 h4 (Same.refl _) (.bl _)⟩
 ·exact h.elim
def Am(i:Nat)(b a:PTE):PTS:=fun R γ=>match γ[i]? with
 |some (some (.own (.dK kvs)))=>a γ (fun s=>b γ (fun y=>∃k u,keyD y.d=some k/\TC s.d=some u/\kvs.length<100000/\R.nx (γ.set i (some (.own (.dK (putK kvs k u)))))) (R.ex γ)) (R.ex γ)
 |some (some (.own (.dT kvs)))=>a γ (fun s=>b γ (fun y=>∃k u,K6 y.d=some k/\TC s.d=some u/\kvs.length<100000/\R.nx (γ.set i (some (.own (.dT (putK kvs k u)))))) (R.ex γ)) (R.ex γ)
 |_=>False
def NO(i:Nat){ty tv:TE}{a b:PTE}(hb:SndE K mg E ty b)(ha:SndE K mg E tv a):SndS K mg E (Fp (tVar i) ty tv) (Am i b a):=by
 intro H0 B H σ γ R D hB env h e;have hx:∀c H',R.ex γ c->Same H H'->E σ (.ref (ExcR.Jq mg c)) none H':=fun c H' hc S'=>e.ex σ γ c H' hc (env.grow S') (Fr.grow S');unfold Am at h;split at h
 ·rename_i kvs hi;obtain⟨v,hv,l,rfl,hb0,hl⟩:=env.slot i _ hi;refine ha H0 B H σ γ _ _ _ env h (fun s u H1 h1 S1 t1=>⟨_,hv,?_⟩) hx;have env1:=env.grow S1;refine hb H0 B H1 σ γ _ _ _ env1 h1 (fun y w H2 h2 S2 t2=>?_) fun c H' hc S'=>hx c H' hc (S1.trans S');obtain⟨k,z,k1,k2,k3,k4⟩:=h2;have env2:=env1.grow S2;have eu:=N3 (t1.rp env1.same) k2;have ew:=PY (t2.rp env2.same) k1;subst eu ew;refine⟨l,_,rfl,DPut.k (S2 _ _ (S1 _ _ hl)) (WU k3 (by decide)),?_⟩;obtain⟨e2,f2⟩:=env2.mutate (es:=.dK (putK kvs k u)) (us:=.dK (putK kvs k u)) hi hv trivial fun F H' SF hF=>hF;exact e.nx _ _ _ k4 e2 ((Fr.grow (S1.trans S2)).trans f2)
 ·rename_i kvs hi;obtain⟨v,hv,l,rfl,hb0,hl⟩:=env.slot i _ hi;refine ha H0 B H σ γ _ _ _ env h (fun s u H1 h1 S1 t1=>⟨_,hv,?_⟩) hx;have env1:=env.grow S1;refine hb H0 B H1 σ γ _ _ _ env1 h1 (fun y w H2 h2 S2 t2=>?_) fun c H' hc S'=>hx c H' hc (S1.trans S');obtain⟨k,z,k1,k2,k3,k4⟩:=h2;have env2:=env1.grow S2;have eu:=N3 (t1.rp env1.same) k2;obtain⟨b',rfl,hb'⟩:=TN (t2.rp env2.same) k1;subst eu;refine⟨l,_,rfl,DPut.t (S2 _ _ (S1 _ _ hl)) hb' (WU k3 (by decide)),?_⟩;obtain⟨e2,f2⟩:=env2.mutate (es:=.dT (putK kvs k u)) (us:=.dT (putK kvs k u)) hi hv trivial fun F H' SF hF=>hF;exact e.nx _ _ _ k4 e2 ((Fr.grow (S1.trans S2)).trans f2)
 ·exact h.elim
def Ry(a:PTE):PTS:=fun R γ=>a γ (fun s=>match s.shd with|some d=>R.rt (.sh d)|none=>False) (R.ex γ)
def AA{te:TE}{a:PTE}(ha:SndE K mg E te a):SndS K mg E (tRet te) (Ry a):=by
 intro H0 B H σ γ R D hB env h e;refine ha H0 B H σ γ _ _ _ env h (fun s v H1 h1 S1 t1=>?_) fun c H' hc S'=>e.ex σ γ c H' hc (env.grow S') (Fr.grow S');split at h1
 ·rename_i d hd;have r:=t1.shd (env.grow S1).same env.zm S1 hd;exact e.rt (.sh d) v H1 h1 (env.same.trans S1) (Rp.mono (Jx (Same.refl _) fun b _ _ z y=>z (.inl y)) r)
 ·exact h1.elim
def AK(i:Nat)(γ:Γ):Nat:=match γ[i]? with
 |some (some (.own (.lst ds)))=>ds.length
 |_=>0
def P0{α:Type}(d:α)(ds:List α):atI (d::ds) 0=some d:=P7 (by decide) rfl
def em(l:Int)(p:List Int):D:=.lst ((l::p).map D.int)
def Ba(l:Int)(p:List Int):atI ((l::p).map D.int) (-1)=some (.int (JB l p)):=by
 refine Xi ?_;unfold atI ixN;rw[Ye (by omega),Yg (by rw[Y3];omega)];have e:(-1+((l::p).length:Int)).toNat=p.length:=by rw[Y3];omega
 rw[e];exact Bf l p
end
section
variable {K:Za}{mg:Str->Option Value}{E:L2.St->XK}{H0 H H1 H':Hp}{B Z Z':Addr->Prop}{σ:L2.St}{γ:Γ}
def Fj:List S->(S->Prop)->Prop
 |[s],R=>∃ns:List Int,s.d=.lst (ns.map D.int)/\R (.sh (.int ns.sum))
 |_,_=>False
def BY{ta:TA}{r:PTA}(hr:SndA K mg E ta r):SndE K mg E (tCB (fun xs H Q=>∃(p:Addr) (ns:List Int),xs=[.ref p]/\SqL K H p (ns.map V.int)/\Q (.int ns.sum) H) ta) (pCB Fj r):=by
 refine Xh hr fun H0 H H1 Z ss vs R Q s0 s1 hm tv h q=>?_;unfold Fj at h;split at h
 ·obtain⟨v,rfl,t1⟩:=tv.one_inv;obtain⟨ns,e,hR⟩:=h;have rv:=t1.rp s0;rw[e]at rv;obtain⟨a,rfl,ha⟩:=rv.ints_inv;exact⟨a,ns,rfl,SqL.of ha,q _ _ H1 hR (Same.refl _) (.int _)⟩
 ·exact h.elim
def As:List S->(S->Prop)->Prop
 |[s],R=>∃ns:List Int,s.d=.lst (ns.map D.int)/\0<ns.length/\∀m,m∈ns->(∀a∈ns,m<=a)->R (.sh (.int m))
 |_,_=>False
def Rl{ta:TA}{r:PTA}(hr:SndA K mg E ta r):SndE K mg E (tCB (fun xs H Q=>∃(p:Addr) (ns:List Int),xs=[.ref p]/\SqL K H p (ns.map V.int)/\0<ns.length/\∀M,M∈ns->(∀a∈ns,M<=a)->Q (.int M) H) ta) (pCB As r):=by
 refine Xh hr fun H0 H H1 Z ss vs R Q s0 s1 hm tv h q=>?_;unfold As at h;split at h
 ·obtain⟨v,rfl,t1⟩:=tv.one_inv;obtain⟨ns,e,hne,hR⟩:=h;have rv:=t1.rp s0;rw[e]at rv;obtain⟨a,rfl,ha⟩:=rv.ints_inv;exact⟨a,ns,rfl,SqL.of ha,hne,fun m h1 h2=>q _ _ H1 (hR m h1 h2) (Same.refl _) (.int _)⟩
 ·exact h.elim
def CU:List S->(S->Prop)->Prop
 |[s],R=>∃bs:List Bool,s.d=.lst (bs.map D.bl)/\R (.sh (.bl (bs.any id)))
 |_,_=>False
def Rps.bls {K:Za}{H:Hp}:∀{js:List Bool}{vs:List V},Rps K H (js.map D.bl) vs->vs=js.map V.bl
 |[],_,.nil=>rfl
 |j::r,_,.cons h t=>by rw[Rp.bl_inv h,Rps.bls t];rfl
def AD{ta:TA}{r:PTA}(hr:SndA K mg E ta r):SndE K mg E (tCB (fun xs H Q=>∃(p:Addr) (bs:List Bool),xs=[.ref p]/\SqL K H p (bs.map V.bl)/\Q (.bl (bs.any id)) H) ta) (pCB CU r):=by
 refine Xh hr fun H0 H H1 Z ss vs R Q s0 s1 hm tv h q=>?_;unfold CU at h;split at h
 ·obtain⟨v,rfl,t1⟩:=tv.one_inv;obtain⟨bs,e,hR⟩:=h;have rv:=t1.rp s0;rw[e]at rv;obtain⟨a,us,rfl,ha,r1⟩:=rv.lst_inv;rw[r1.bls]at ha;exact⟨a,bs,rfl,SqL.of ha,q _ _ H1 hR (Same.refl _) (.bl _)⟩
 ·exact h.elim
def T9{α:Type}(xs:List α)(lo hi:Option Int):(cutD xs lo hi).Sublist xs:=(Q4 _ _).trans (List.drop_sublist _ _)
end
end Pu
namespace PySem
open Sem (wp)
structure VPairs {K:Type} (es:List DictEntry) (kvs:List (K×Value)):Prop where
 length:es.length=kvs.length
 get?:∀{i:Nat} {e:DictEntry} {k:K} {v:Value},es[i]?=some e->kvs[i]?=some (k,v)->True/\e.val=v
def VDict{K:Type}(h:Heap)(a:Addr)(kvs:List (K×Value))(ep:Nat):Prop:=
 ∃o es,h.get? a=some o/\o.ExactDict/\o.data=.dict es ep/\True/\VPairs es.toList kvs/\True
section
variable {prog:Program}{w:World}{K:Type}{A:Around}{E:Value->Shared->Prop}{s:Shared}
def IF(d:Addr)(hd:(d==sysModules)=false) :
  MeetsIn prog w (Builtin.«dict.values» ⟨[.ref d],[]⟩) (fun _ R s=>s.TypeIs (.ref d) "dict"/\
   R (.ok (.ret (.ref s.heap.objs.size))) {s with heap:=s.heap.push {cls:=.type "dict_values",data:=.fields #[.ref d]}}):=
 .of_wp fun A R s ⟨hm,h⟩=>by
  refine ZY ?_;unfold Builtin.Dict.noArgs;refine ZY (wpAny_notOrdered_dict hm ?_);show wpAny _ _ (pure d) _ _ s;refine Yb ?_;show wpAny _ _ (Builtin.Dict.showsAll d >>= _) _ _ s;unfold Builtin.Dict.showsAll;rw[Ye (by rw[hd];exact Yw)];refine ZY (Yb ?_);exact ZY (YT (Yb ⟨_,rfl,h⟩))
def EG{v d:Addr}{kvs:List (K×Value)}{ep:Nat}{Q:Value->Shared->Prop}(hv:s.heap.IsValuesView v d)(hm:VDict s.heap d kvs ep)(hQ:Q (.ref s.heap.objs.size) {s with heap:=s.heap.push {cls:=.type "dict_valueiterator",data:=.fields #[.ref d,.int 0 0,.int kvs.length 0,.int ep 0]}}) :
  wpAny (model prog w) A (pyIter (.ref v)) Q E s:=by
 obtain⟨ov,hov,hcv,hdv⟩:=id hv;obtain⟨o,es,ho,hc,hdat,hk,hp,hn⟩:=id hm;refine wpAny_pyIter_slot hv.typeIs F.slot_dict_values_iter (WG F.slot_dict_values_iter hv.typeIs F.entry_dict_values_iter ?_ (F.args_dict_values_iter_1 _));unfold Builtin.«dict_values.__iter__»;refine ZY (Yb ?_);refine ZY ?_;unfold Builtin.Dict_items.dictOf;refine ZY (Vd hov hdv (x:=.ref d) rfl (Yb ?_));refine ZY ?_;unfold Builtin.Dict_items.newIterator;refine ZY (wpAny_dictEntries ho hdat ?_);refine ZY (wpAny_dictEpoch ho hdat ?_);have hsz:es.size=kvs.length:=by rw[←hp.length];simp
 have hown:Builtin.Dict_items.ownsTuple "dict_valueiterator"=false:=by decide
 simp only[hown,W2,Qf];refine YT (Yb ⟨_,rfl, "dict_valueiterator",_,⟨_,Ym _ rfl,rfl⟩,F.slot_dict_valueiterator_next.lookup,?_⟩);simpa [rawInt,hsz]using hQ
def GD{it d:Addr}{i ep:Nat}{kvs:List (K×Value)}{k:K}{v:Value}{Q:Option Value->Shared->Prop}(hit:s.heap.IsValIter it d i kvs.length ep)(hm:VDict s.heap d kvs ep)(hx:kvs[i]?=some (k,v))(hQ:∀h',h'.IsValIter it d (i+1) kvs.length ep->Heap.SameBut it s.heap h'->Q (some v) {s with heap:=h'}) :
  wpAny (model prog w) A (pyNext (.ref it)) Q E s:=by
 obtain⟨o,ho,hc,hd⟩:=id hit;obtain⟨od,es,hod,hcd,hdd,hk,hp,hn⟩:=id hm;unfold pyNext
 refine ZY (wpAny_attempt (Q3 (name:=Str.ofString "__next__") hit.typeIs W5
  (WG W5 hit.typeIs F.entry_dict_valueiterator_next ?_ (F.args_dict_valueiterator_next_1 _))))
 refine ZY (Yb ?_);refine ZY ?_;refine ZY ?_
 first|refine ZY (W8 hit.typeIs (Yb ?_))|refine ZY (WV hit.typeIs (Yb ?_))
 refine ZY (wpAny_fieldsOf ho hd ?_);have hown:Builtin.Dict_items.ownsTuple "dict_valueiterator"=false:=by decide
 simp only[hown,W2,Qf];show wpAny _ _ (if (Value.ref d==Value.none)=true then _ else _) _ _ s;rw[Ye (show ¬((Value.ref d==Value.none)=true)from Yw)]
 refine ZY (Yb ?_);refine ZY (wpAny_dictEntries hod hdd ?_);have hsz:es.size=kvs.length:=by rw[←hp.length];simp
 rw[Ye (by rw[hsz];simp)];refine ZY (Yb ?_);refine ZY (wpAny_dictEpoch hod hdd ?_);rw[Ye (by simp)];refine Yb ?_
 have hlt:i<kvs.length:=by
  rcases Nat.lt_or_ge i kvs.length with h|h
  ·exact h
  ·simp[Qm h]at hx
 have hlt':i<es.size:=by rw[hsz];exact hlt
 have hval:es[i].val=v:=(hp.get? (e:=es[i]) (by simp[hlt']) hx).2;simp only[show ¬((i:Int)<0)from by omega,Qf,YF,Wo hlt']
 refine ZY ?_
 first|refine ZY (W8 hit.typeIs (Yb ?_))|refine ZY (WV hit.typeIs (Yb ?_))
 refine ZY (QM hit.typeIs ?_);show wpAny _ _ (setField (.ref it) 1 (rawInt ((i:Int)+1)) >>= _) _ _ s;refine ZY (Wz ho hd (by simp) ?_)
 have hit':(s.heap.update it (Obj.mapFields (·.setIfInBounds 1 (rawInt ((i:Int)+1))))).IsValIter it d (i+1) kvs.length ep:=
  ⟨_,Wa _ ho (W1 (We hd _)),(Q7 ..).trans hc,by rw[We hd];simp[rawInt]⟩
 refine ZY (W7 ?_);refine ZY (QM (s:={s with heap:=s.heap.update it (Obj.mapFields (·.setIfInBounds 1 (rawInt ((i:Int)+1))))}) hit'.typeIs ?_)
 refine ZY (QM (s:={s with heap:=s.heap.update it (Obj.mapFields (·.setIfInBounds 1 (rawInt ((i:Int)+1))))}) hit'.typeIs ?_)
 show wpAny _ _ (pure es[i].val) _ _ _;exact Yb (Yb ⟨_,rfl,Yb (hval▸hQ _ hit' (YM ..))⟩)
def OG{it d:Addr}{i ep:Nat}{kvs:List (K×Value)}{Q:Option Value->Shared->Prop}(hh:A.handled=none)(hit:s.heap.IsValIter it d i kvs.length ep)(hm:VDict s.heap d kvs ep)(hx:kvs[i]?=none)(hQ:∀h',Heap.ExtBut it s.heap h'->Q none {s with heap:=h'}):wpAny (model prog w) A (pyNext (.ref it)) Q E s:=by
 obtain⟨o,ho,hc,hd⟩:=id hit;obtain⟨od,es,hod,hcd,hdd,hk,hp,hn⟩:=id hm;unfold pyNext
 refine ZY (wpAny_attempt (Q3 (name:=Str.ofString "__next__") hit.typeIs W5
  (WG W5 hit.typeIs F.entry_dict_valueiterator_next ?_ (F.args_dict_valueiterator_next_1 _))))
 refine ZY (Yb ?_);refine ZY ?_;refine ZY ?_
 first|refine ZY (W8 hit.typeIs (Yb ?_))|refine ZY (WV hit.typeIs (Yb ?_))
 refine ZY (wpAny_fieldsOf ho hd ?_);have hown:Builtin.Dict_items.ownsTuple "dict_valueiterator"=false:=by decide
 simp only[hown,W2,Qf];show wpAny _ _ (if (Value.ref d==Value.none)=true then _ else _) _ _ s;rw[Ye (show ¬((Value.ref d==Value.none)=true)from Yw)]
 refine ZY (Yb ?_);refine ZY (wpAny_dictEntries hod hdd ?_);have hsz:es.size=kvs.length:=by rw[←hp.length];simp
 rw[Ye (by rw[hsz];simp)];refine ZY (Yb ?_);refine ZY (wpAny_dictEpoch hod hdd ?_);rw[Ye (by simp)];refine Yb ?_;have hge:es.size<=i:=by rw[hsz];simpa using hx
 simp only[show ¬((i:Int)<0)from by omega,Qf,YF,QD hge]
 refine ZY ?_
 first|refine ZY (W8 hit.typeIs (Yb ?_))|refine ZY (WV hit.typeIs (Yb ?_))
 show wpAny _ _ (setField (.ref it) 0 .none >>= _) _ _ s;refine ZY (Wz ho hd (by simp) ?_);show wpAny _ _ (newExc (.type "StopIteration") [] >>= _) _ _ _;refine ZY ?_;simp only[newExc,newTuple];refine ZY (YT ?_ (by size_fits));refine ZY (m:=firstArgMember _ _) (wpAny_of_eq (a:=Value.none) (by first|rfl|(simp only[firstArgMember];rfl)) ?_)
 refine YT ?_ (by size_fits);simp only[raiseNew];refine ZY (wpAny_handled ?_);rw[show A.in1.handled=none from hh]
 refine ZY (Yb (wpAny_throw ?_));refine ZY (wpAny_isInstance (T:="StopIteration") (b:=true) ⟨_,Ym _ rfl,rfl⟩ isSubtype_stop ?_);exact Yb (hQ _ (((YM ..).extBut.push _).push _))
end
end PySem
namespace Own
open PySem PySem.Spec PyProof.Rows L2
def FF(K:Za):R2:=fun x y H Q=>∃a b xs ys,x=.ref a/\y=.ref b/\SqT K H a xs/\SqT K H b ys/\xs.length+ys.length<=sizeLine/\
 (xs=[]->Q (.ref b) H)/\(xs≠[]->ys=[]->Q (.ref a) H)/\(xs≠[]->ys≠[]->∀p,H p=none->Q (.ref p) (upd H p (.tup (xs++ys))))
section
variable {X:Cx}{K:Za}
def MZ(hK:X.K=K:=by rfl):OpR X (binaryOp .Add) (FF K):=by
 subst hK;intro pins s σ H x y v u Q I rx ry h;obtain⟨a,b,xs,ys,rfl,rfl,ha,hb,hz,q0,q1,q2⟩:=h;cases rx
 cases ry
 by_cases hx:xs=[]
 ·obtain⟨its,r1,p1,_⟩:=I.tuple ha;obtain⟨its2,r2,p2,_⟩:=I.tuple hb;have e:its=[]:=r1.nil_iff.mpr hx;obtain⟨⟨cls,dd,data,sl⟩,ho,hc,n,hd⟩:=id p1;obtain⟨⟨cls2,dd2,data2,sl2⟩,ho2,hc2,n2,hd2⟩:=id p2;simp only at hc hd hc2 hd2;subst hc hd hc2 hd2
  exact concat_meets ⟨_,ho,rfl⟩ ⟨_,ho2,rfl⟩ noFill_tuple_add seq_tuple_add QC Q2 (Qw _ _)
   (tuple_addW0 a b its.toArray its2.toArray n n2 dd dd2 sl sl2 (by simp[e])) ⟨ho,ho2,⟨.ref b,H,I,rfl,q0 hx⟩⟩
 ·exact L7 pins s σ H (.ref a) (.ref b) _ _ Q I rfl rfl ⟨a,b,xs,ys,rfl,rfl,ha,hb,hx,hz,q1 hx,q2 hx⟩
def OX{b:Addr}{x:V}{ws:List (Value×Value)}(h:VV [(.ref b,x)] ws):∃r,ws=[(.ref b,r)]/\RelV x r:=by
 cases h with
 |cons h t=>
  cases t
  rename_i y;obtain⟨u,r⟩:=y;obtain⟨h1,h2⟩:=h;cases (show u=Value.ref b from h1)
  exact⟨r,rfl,h2⟩
def AO(tk tv:TE):TE:=fun σ H Q=>∀p,H p=none->tk σ (upd H p (.dT [])) fun y H1=>tv σ H1 fun x H2=>H2 p=some (.dT [])/\∃b ks,y=.ref b/\H2 b=some (.tup (ks.map kV))/\Q (.ref p) (upd H2 p (.dT [(ks,x)]))
def Mf{k v:Expr}{tk tv:TE}{pos:Pos}(hu:X.A.units+1<cLine)(hk:PE X k tk)(hv:PE X v tv):PE X (.Dict [some k] [v] pos) (AO tk tv):=by
 intro pins s σ H Q I q;have hn:=I.hok.fresh (Yi s.heap.objs.size);have I1:=I.laid (a:=s.heap.objs.size) (o:=.dT []) (h':=s.heap.push {cls:=.type "dict",data:=.dict #[]}) (t':=s.toks) (fun _ _ q=>Yc _ q) (Yi _) (Av s.heap I.big)
 refine wpAny_Dict_any rfl rfl (by simp) (by simp) (thn ((O6 hk hv EZ) pins _ σ _ (fun ps H2=>match ps with
  |[(y,x)]=>H2 s.heap.objs.size=some (.dT [])/\∃b ks,y=.ref b/\H2 b=some (.tup (ks.map kV))/\Q (.ref s.heap.objs.size) (upd H2 s.heap.objs.size (.dT [(ks,x)]))
  |_=>False) I1 (q _ hn)) fun ws s2 ⟨ps,H2,I2,rel,h2⟩=>?_)
 split at h2
 ·rename_i y x;obtain⟨e,b,ks,ey,eb,q2⟩:=h2;subst ey;obtain⟨wv,ew,rv⟩:=OX rel;subst ew;obtain⟨z,hd,xs,rel',dd⟩:=PV I2.hok e;cases rel'
  unfold storeAll;rw[QV];refine ZY (ZY (wpAny_dictSet_heap (hsz:=Wb _) (show(tupleKind _).room X.A from Nat.lt_of_succ_lt hu) (KH I2.hok eb) dd fun h' dd' hs=>Yb ?_))
  dsimp only
  rw[List.forIn_nil];refine Yb ?_;obtain⟨qo,es,ep,hq,h2,h3,h4,_,h5⟩:=dd';refine⟨.ref s.heap.objs.size,_,SH (ob:=.dT [(ks,x)]) I2 (by rw[e];exact True.intro) hs ⟨qo,hq⟩ ⟨(by show 1<=sizeLine;decide),hd,[(ks,b,wv)],?_,qo,es,ep,hq,h2,h3,h4,h5⟩,rfl,q2⟩;refine .cons ⟨rfl,?_,rv⟩ .nil;rw[Jv (Dg eb e (fun z=>nomatch z))];exact eb
 ·exact h2.elim
end
section
variable {prog:Program}{w:World}{A:Around}{K:Type}{d r:Addr}{kvs:List (K×Value)}{ep:Nat}{h h':Heap}
def VDict.at (x:VDict h d kvs ep) (e:∀o,h.get? d=some o->h'.get? d=some o):VDict h' d kvs ep:=let ⟨o,es,ho,r⟩:=x;⟨o,es,e _ ho,r⟩
def VDict.lt (x:VDict h d kvs ep):d<h.objs.size:=let ⟨_,_,ho,_⟩:=x;Yk ho
def GE(hh:A.handled=none)(I d:Addr)(hne:d≠I)(kvs:List (K×Value))(ep:Nat) :
  Walks prog w A I [I,d] [I] kvs.length (fun i v=>∃k,kvs[i]?=some (k,v)) (fun i h=>h.IsValIter I d i kvs.length ep/\VDict h d kvs ep) where
 sub:=fun b hb=>by simp at hb;simp[hb]
 frame:=fun _ _ _ st hk=>⟨st.1.at fun o e=>hk I (by simp) o e,VDict.at st.2 fun o e=>hk d (by simp) o e⟩
 item:=fun i s Q E hi st hQ=>by
  refine GD (k:=(kvs[i]).1) (v:=(kvs[i]).2) st.1 st.2 (by simp[hi]) fun h' hit' hs'=>?_;exact hQ _ h' s.toks ⟨(kvs[i]).1,by simp[hi]⟩ ⟨hit',VDict.at st.2 fun o e=>hs'.extBut d o hne e⟩ fun b o hb e=>hs'.extBut b o (fun h=>hb (by simp[h])) e
 done:=fun s Q E st hQ=>OG hh st.1 st.2 (by simp) fun h' he'=>hQ h' s.toks fun b o hb e=>he' b o (fun h=>hb (by simp[h])) e
 self:=fun _ _ _ _ st hQ=>wpAny_pyIter_valiter st.1 hQ
def Za7:PySem.W.KdlSrc prog w "dict_values" r d kvs.length (fun i v=>∃k,kvs[i]?=some (k,v)) (fun h=>h.IsValuesView r d/\VDict h d kvs ep) where
 type:=fun _ hm=>hm.1.typeIs
 there:=fun _ hm=>⟨let ⟨_,ho,_⟩:=hm.1;Yk ho,VDict.lt hm.2⟩
 keep:=fun _ _ hm hk=>⟨let ⟨o,ho,x⟩:=hm.1;⟨o,hk r (.inl rfl) o ho,x⟩,VDict.at hm.2 fun o e=>hk d (.inr rfl) o e⟩
 notList:=by decide
 notTuple:=by decide
 hint:=fun _ _ _ _ hm hq=>PySem.W.kdl_hint_values hm.1.typeIs hq
 iter:=fun _ _ hh hm=>⟨_,_,(fun _ _ hq=>EG hm.1 hm.2 hq),GE hh _ d (Y6 (VDict.lt hm.2)) kvs ep,⟨⟨_,Ym _ rfl,rfl,rfl⟩,VDict.at hm.2 fun o e=>Yc _ e⟩⟩
end
def KI(v d:Addr):HO:=.ext fun h=>h.IsValuesView v d
def SC:V->List V->Hp->VK->Prop:=fun x vs H Q=>∃d kvs,x=.ref d/\vs=[]/\H d=some (.dT kvs)/\∀v,H v=none->Q (.ref v) (upd H v (KI v d))
section
variable {X:Cx}
def Hg:MtR X "dict.values" SC:=by
 intro pins s σ H x xs v us Q I rx rv h;obtain⟨d,kvs,rfl,rfl,hd,q⟩:=h;cases rx
 have hus:=rv.zero;subst hus;obtain⟨z,lo,xs,rel,dd⟩:=PV I.hok hd;obtain⟨o,es,ep,ho,hx,_⟩:=id dd;refine call_meetsIn PySem.F.slot_dict_values ⟨o,ho,hx.1⟩ PySem.F.entry_dict_values (PySem.F.args_dict_values_1 _) (IF d lo) ⟨⟨o,ho,hx.1⟩,?_⟩;refine⟨.ref s.heap.objs.size,_,I.laid (a:=s.heap.objs.size) (o:=KI s.heap.objs.size d) (t':=s.toks) (fun _ _ q=>Yc _ q) (Yi _) ⟨⟨_,Ym _ rfl,rfl,rfl⟩,⟨_,Ym _ rfl⟩,fun h1 h2 ⟨o,ho,r⟩ e=>⟨o,e o ho,r⟩⟩,rfl,q _ (I.hok.fresh (Yi _))⟩
def Zar{K:Za}{o:Expr}{to:TE}{name:Str}{apos cpos:Pos}(ho:PE X o to)(hK:X.K=K:=by rfl)(hn:name = "values":=by rfl)(hbase:attributeBase o name X.env (eval o X.env)=eval o X.env:=by rfl)(hline:(apos.endLine==cpos.line)=true:=by rfl):PE X (.Call (.Attribute o name apos) [] [] cpos) (tBM0 K "dict" SC to):=by
 subst hK hn;exact RI PySem.F.plainAttrs_dict PySem.F.slot_dict_values PySem.F.type_dict_values Hg ho hbase hline
def Nq{H:Hp}:∀{kvs:List (List Key×V)}{xs:List (List Key×Addr×Value)},KT H kvs xs->Vals (kvs.map (·.2)) (xs.map (·.2.2))
 |_,_,.nil=>.nil
 |_,_,.cons h r=>.cons h.2.2 (Nq r)
def Of(hc:X.calm=true):Ug X (.type "list") (fun xs H Q=>∃(v d:Addr) (kvs:List (List Key×V)),xs=[.ref v]/\H v=some (KI v d)/\H d=some (.dT kvs)/\∀l,H l=none->Q (.ref l) (upd H l (.lst (kvs.map (·.2))))):=by
 intro pins s σ H xs us Q I rv h;obtain⟨v,d,kvs,rfl,hv,hd,q⟩:=h;obtain⟨u,rfl,ru⟩:=rv.one;obtain rfl:u=Value.ref v:=ru;obtain⟨z,lo,xs,rel,dd⟩:=PV I.hok hd;obtain⟨o,es,ep,ho,hx,hdat,he,hk,hn⟩:=id dd;have view:s.heap.IsValuesView v d:=(I.hok v _ hv).1;have hl:xs.length=kvs.length:=by simpa using(Nq rel).length.symm
 have vd:VDict s.heap d (xs.map fun x=>((),x.2.2)) ep:=by
  refine⟨o,es,ho,hx,hdat,trivial,⟨by rw[he,Ya,Ya],fun {i e k v} h1 h2=>⟨trivial,?_⟩⟩,trivial⟩;rw[he,Yj]at h1;rw[Yj]at h2;cases hi:xs[i]? with
  |none=>rw[hi]at h1;cases h1
  |some x=>
   rw[hi]at h1 h2;cases h1
   cases h2
   rfl
 refine PySem.W.kdl_call Za7 (I.ok.hd hc) ⟨view,vd⟩ (by rw[Ya];omega) fun h' tk acc' c' hk hD hacc=>?_;refine⟨.ref s.heap.objs.size,upd H s.heap.objs.size (.lst (kvs.map (·.2))),?_,rfl,q _ (I.hok.fresh (Yi _))⟩;have ev:=PySem.W.kdl_vals_eq (kvs:=xs.map fun x=>((),x.2.2)) acc'.toList (by rw[YC];exact hacc.1) fun j u hu=>hacc.2 j u (by rw[←hu,Wp]);refine I.laid (t':=tk) hk (Yi _) ⟨by rw[Ya];exact z,acc'.toList,c',?_,by simpa using hD⟩;rw[ev,YK];exact Nq rel
end
end Own
namespace Pu
open PySem PySem.Spec PyProof.Rows L2 Own M
section
variable {K:Za}{mg:Str->Option Value}{E:L2.St->XK}{H0 H H1 H':Hp}{B Z Z':Addr->Prop}{σ:L2.St}{γ:Γ}
def tupD:Option D->Option (List D)
 |some (.tup ds)=>some ds|_=>none
def N6{o:Option D}{ds:List D}(h:tupD o=some ds):o=some (.tup ds):=by
 unfold tupD at h;split at h
 ·cases h;rfl
 ·cases h
def My:S->S->(S->Prop)->Prop:=fun x y R=>∃ds es,tupD x.shd=some ds/\tupD y.shd=some es/\ds.length+es.length<=100000/\R (.sh (.tup (ds++es)))
def OF{ta tb:TE}{a b:PTE}(ha:SndE K mg E ta a)(hb:SndE K mg E tb b):SndE K mg E (tOp (FF K) ta tb) (p2 a b My):=by
 refine se_2 ha hb fun H0 H H2 Z x y v u R Q s0 s1 hm tx ty h q=>?_;obtain⟨ds,es,e1,e2,hz,h⟩:=h;have hm':∀b,Z b->Mut (H2 b):=fun b z=>UV s1 (hm b z);have r1:=tx.shd s0 hm s1 (N6 e1);have r2:=ty.shd s0 hm s1 (N6 e2);obtain⟨l,us,rfl,h1,k1⟩:=Rp.tup_inv r1;obtain⟨m,ws,rfl,h2,k2⟩:=Rp.tup_inv r2;refine⟨l,m,us,ws,rfl,rfl,SqT.of (off_sub _ _ h1),SqT.of (off_sub _ _ h2),by rw[k1.len,k2.len];exact Yx hz (by decide),fun e=>?_,fun _ e=>?_,fun _ _ p np=>?_⟩
 ·subst e;cases k1
  exact q _ _ _ h (Same.refl _) r2
 ·subst e;cases k2
  refine q _ _ _ h (Same.refl _) ?_;rw[Wd];exact r1
 ·refine q _ _ _ h (JT np) (.tup (JV J8 fun z=>?_) (Rps.mono (Jx (JT np) fun _ _ _ z=>z) (k1.append k2)))
  have:=hm' p z
  rw[np]at this;exact this
def pIT(a:PTE):PTI:=fun γ R X=>a γ (fun s=>∃ds,tupD s.shd=some ds/\R ds.length fun i=>.sh (ds.getD i .non)) X
def Px{te:TE}{a:PTE}(ha:SndE K mg E te a):SndI K mg E (iTup K te) (pIT a):=by
 intro H0 B H σ γ R X Q env h q qx;refine ha H0 B H σ γ _ X _ env h (fun s v H1 h1 S1 t1=>?_) qx;have env1:=env.grow S1;obtain⟨ds,ed,h1⟩:=h1;have r1:=t1.shd env1.same env.zm S1 (N6 ed);obtain⟨l,vs,rfl,hl,k1⟩:=Rp.tup_inv r1;refine⟨l,rfl,⟨vs,SqT.of (off_sub _ _ hl)⟩,q _ _ _ H1 h1 S1 ⟨fun i H' Z' hi lt=>?_,fun H' Z' lt=>?_⟩⟩
 ·have hd:ds[i]?=some (ds.getD i .non):=by rw[Yd,ZZ hi];rfl
  obtain⟨u,hu,tu⟩:=k1.get hd;have k:=off_sub _ _ (lt.off _ _ hl);refine⟨⟨vs,u,SqT.of k,hu⟩,fun x H'' y=>?_⟩;obtain⟨rfl,y⟩:=y
  have:=y vs (SqT.of k)
  rw[hu]at this;cases this
  exact⟨Same.refl _,Rp.mono lt.off tu⟩
 ·exact⟨vs,SqT.of (off_sub _ _ (lt.off _ _ hl)),by rw[k1.len];exact Yi _⟩
def Kk:List (List Key×V)->Bool
 |[]=>true
 |p::r=>TQ p.2&&Kk r
def Fl:∀{kvs:List (List Key×V)},Kk kvs=true->Rps K H (kvs.map fun p=>vD p.2) (kvs.map (·.2))
 |[],_=>.nil
 |p::r,h=>by
  unfold Kk at h;rw[YA]at h;exact .cons (Bn h.1) (Fl h.2)
def O8:List V->Hp->VK->Prop:=fun xs H Q=>∃(v d:Addr) (kvs:List (List Key×V)),xs=[.ref v]/\H v=some (KI v d)/\H d=some (.dT kvs)/\∀l,H l=none->Q (.ref l) (upd H l (.lst (kvs.map (·.2))))
def G1(a:PTE):PTE:=fun γ R X=>a γ (fun s=>∃kvs,s.d=.dT kvs/\Kk kvs=true/\R (.own (.lst (kvs.map fun p=>vD p.2)))) X
def MD{te:TE}{a:PTE}(ha:SndE K mg E te a):SndE K mg E (tCB O8 (JR (tBM0 K "dict" SC te) tNil)) (G1 a):=by
 intro H0 B H σ γ R X Q env h q qx;refine ha H0 B H σ γ _ X _ env h (fun s v H1 h1 S1 t1=>?_) qx;obtain⟨kvs,e,hs,hR⟩:=h1;have env1:=env.grow S1;have rx:=t1.rp env1.same;rw[e]at rx;obtain⟨l,rfl,hl⟩:=rx.dT_inv;refine⟨.inr (.inr (.inl ⟨rfl,.inr ⟨kvs,hl⟩⟩)),l,kvs,rfl,rfl,hl,fun p np=>?_⟩;refine⟨p,l,kvs,rfl,J8,by rw[Jv (JN hl np)];exact hl,fun m nm=>?_⟩;have S2:Same H1 (upd H1 p (KI p l)):=JT np;exact q _ _ _ hR ((S1.trans S2).trans (JT nm)) ⟨m,rfl,(fun _ e=>e▸(S1.trans S2).free nm),_,J8,Fl hs⟩
def HI(a b:PTE):PTE:=fun γ R X=>a γ (fun y=>b γ (fun x=>∃ks u,K6 y.d=some ks/\TC x.d=some u/\R (.own (.dT [(ks,u)]))) X) X
def RM{tk tv:TE}{a b:PTE}(ha:SndE K mg E tk a)(hb:SndE K mg E tv b):SndE K mg E (AO tk tv) (HI a b):=by
 intro H0 B H σ γ R X Q env h q qx;intro p np;have S0:Same H (upd H p (.dT [])):=JT np;have env0:=env.grow S0;refine ha H0 B _ σ γ _ X _ env0 h (fun y v H1 h1 S1 t1=>?_) fun c H' hc S'=>qx c H' hc (S0.trans S');have env1:=env0.grow S1;refine hb H0 B H1 σ γ _ X _ env1 h1 (fun x w H2 h2 S2 t2=>?_) fun c H' hc S'=>qx c H' hc ((S0.trans S1).trans S');have env2:=env1.grow S2;obtain⟨ks,u,k1,k2,k3⟩:=h2;have eu:=N3 (t2.rp env2.same) k2;obtain⟨b',rfl,hb'⟩:=TN (Rp.mono S2 (t1.rp env1.same)) k1;subst eu;refine⟨S2 _ _ (S1 _ _ J8),b',ks,rfl,hb',q _ _ _ k3 (fun c o hc=>?_) ⟨p,rfl,(fun _ e=>e▸np),J8⟩⟩
 have:c≠p:=fun e=>by subst e;rw[np]at hc;cases hc
 rw[Jv this];exact S2 _ _ (S1 _ _ (S0 _ _ hc))
end
section
variable {X:Cx}{K:Za}
def KE{tg l:Expr}{tl:TE}(hl:PE X l tl)(hK:X.K=K:=by rfl):PI X tg l (iTup K tl):=by subst hK;exact Rr hl
end
end Pu
namespace M
open PySem PySem.Spec PyProof.Rows L2 Own Pu
def tD(ms:List Int):D:=.tup (ms.map D.int)
def kT(ms:List Int):List Key:=ms.map Sum.inl
def GA(ms:List Int):arg (tD ms)=.sh (tD ms):=by
 unfold arg tD imm;rw[KP]
def Pj{N:List Str}{ms:List Int}{ds:List D}:UT N (tD ms::ds)=some (.sh (tD ms))::(ds.map (fun d=>some (arg d))++List.replicate (N.length-(ds.length+1)) none):=by
 unfold UT;rw[Yq,GA];rfl
def PP(ms:List Int):K6 (tD ms)=some (kT ms):=by
 show Ku (ms.map D.int)=some (ms.map Sum.inl)
 induction ms with
 |nil=>rfl
 |cons m r ih=>
  rw[Yq,Yq];unfold Ku;rw[ih];rfl
def OC(ms:List Int):tupD (some (tD ms))=some (ms.map D.int):=rfl
def Jw(ms:List Int)(h:Int):List Int:=ms.filter fun m=>decide (m≠h)
def UU(ws:List (Int×Int))(ms:List Int)(h:Int):Bool:=!(ws.any fun q=>decide (q.1=h)&&decide (q.2∈ms))
def firstM(ws:List (Int×Int))(ms:List Int)(h:Int):Bool:=!(ws.any fun q=>decide (q.2=h)&&decide (q.1∈ms))
def J3(hs:List Int):List (List Int):=hs.foldl (fun S h=>S++S.map (·++[h])) [[]]
def Kb(hs:List Int)(h:Int):J3 (hs++[h])=J3 hs++(J3 hs).map (·++[h]):=by
 unfold J3;rw[List.foldl_append];rfl
def Xp{P:List Int->Prop}(h0:P [])(h1:∀r h,P r->P (r++[h]))(l:List Int):P l:=by
 have key:∀r:List Int,P r.reverse:=fun r=>by
  induction r with
  |nil=>exact h0
  |cons a r ih=>rw[Vk];exact h1 _ _ ih
 rw[←List.reverse_reverse l];exact key _
def Ex(hs:List Int):(J3 hs).length=2 ^ hs.length:=by
 refine Xp (P:=fun hs=>(J3 hs).length=2 ^ hs.length) rfl (fun r h ih=>?_) hs;rw[Kb,Yn,Ya,ih,Yn,YZ,Nat.pow_succ];omega
def Pb(hs:List Int):∀ms∈J3 hs,ms.Sublist hs:=by
 refine Xp (P:=fun hs=>∀ms∈J3 hs,ms.Sublist hs) (fun ms h=>?_) (fun r h ih ms hm=>?_) hs
 ·have:ms=[]:=by simpa [J3]using h
  subst this;exact .slnil
 ·rw[Kb,Yz]at hm;rcases hm with hm|hm
  ·exact(ih _ hm).trans (List.sublist_append_left _ _)
  ·obtain⟨n,hn,rfl⟩:=Y7.mp hm;exact(ih _ hn).append (List.Sublist.refl _)
def oc(c:Int->Int->Int):List Int->Int
 |[]=>0
 |a::r=>(r.map (c a)).sum+oc c r
def Keeps(ws:List (Int×Int))(o:List Int):Prop:=o.Pairwise fun a b=>(b,a)∉ws
structure Least (ws:List (Int×Int)) (c:Int->Int->Int) (ms:List Int) (v:Int):Prop where
 is:∃o:List Int,o.Perm ms/\Keeps ws o/\oc c o=v
 le:∀o:List Int,o.Perm ms->Keeps ws o->v<=oc c o
def Least.uniq {ws:List (Int×Int)}{c:Int->Int->Int}{ms:List Int}{v u:Int} (h:Least ws c ms v) (k:Least ws c ms u):v=u:=by
 obtain⟨o,o1,o2,o3⟩:=h.is;obtain⟨p,p1,p2,p3⟩:=k.is
 have:=h.le p p1 p2
 have:=k.le o o1 o2
 omega
def T6(c:Int->Int->Int)(l:Int):∀o:List Int,oc c (o++[l])=oc c o+(o.map (c · l)).sum
 |[]=>by simp[oc]
 |a::r=>by
  rw[Wr];unfold oc;rw[T6 c l r];simp only[Yt,Yq,QT,List.sum_append,WN,List.sum_nil];omega
def Kv{f:Int->Int}{xs ys:List Int}(h:xs.Perm ys):(xs.map f).sum=(ys.map f).sum:=by
 induction h with
 |nil=>rfl
 |cons x _ ih=>rw[Yq,Yq,WN,WN,ih]
 |swap x y l=>
  simp only[Yq,WN];omega
 |trans _ _ i1 i2=>exact i1.trans i2
def Xk{ms:List Int}{h:Int}(nd:ms.Nodup)(hm:h∈ms):ms.Perm (h::Jw ms h):=by
 have e:Jw ms h=ms.erase h:=by
  unfold Jw;rw[nd.erase_eq_filter];congr 1;funext m;by_cases z:m=h<;>simp[z,bne]
 rw[e];exact List.perm_cons_erase hm
def less_sub{ms:List Int}{h:Int}:(Jw ms h).Sublist ms:=List.filter_sublist
def lastM_iff{ws:List (Int×Int)}{ms:List Int}{h:Int}:UU ws ms h=true↔∀b∈ms,(h,b)∉ws:=by
 unfold UU;rw[Wi,Vh];constructor
 ·intro k b hb hw;exact k _ hw (by simp[hb])
 ·intro k q hq z;simp only[YA,Qj]at z;obtain⟨z1,z2⟩:=z;subst z1;exact k q.2 z2 hq
def firstM_iff{ws:List (Int×Int)}{ms:List Int}{h:Int}:firstM ws ms h=true↔∀b∈ms,(b,h)∉ws:=by
 unfold firstM;rw[Wi,Vh];constructor
 ·intro k b hb hw;exact k _ hw (by simp[hb])
 ·intro k q hq z;simp only[YA,Qj]at z;obtain⟨z1,z2⟩:=z;subst z1;exact k q.1 z2 hq
def R3{ws:List (Int×Int)}{c:Int->Int->Int}{ms:List Int}{vs:Int->Int}{M:Int}(nd:ms.Nodup)(hw:∀q∈ws,q.1≠q.2)(hv:∀l∈ms,Least ws c (Jw ms l) (vs l))(h1:∃l∈ms,UU ws ms l=true/\M=vs l+((Jw ms l).map (c · l)).sum)(h2:∀l∈ms,UU ws ms l=true->M<=vs l+((Jw ms l).map (c · l)).sum):Least ws c ms M:=by
 constructor
 ·obtain⟨l,hl,hlast,e⟩:=h1;obtain⟨o,o1,o2,o3⟩:=(hv l hl).is;refine⟨o++[l],?_,?_,?_⟩
  ·exact(List.perm_append_singleton l o).trans (((List.Perm.cons l o1)).trans (Xk nd hl).symm)
  ·refine Wm.mpr ⟨o2,WX _ _,fun a ha b hb=>?_⟩;rw[Yf.mp hb];exact lastM_iff.mp hlast a (less_sub.subset (o1.mem_iff.mp ha))
  ·rw[T6,o3,e,Kv o1]
 ·intro o o1 o2;rcases List.eq_nil_or_concat o with rfl|⟨p,l,rfl⟩
  ·obtain⟨l,hl,_⟩:=h1;rw[o1.nil_eq.symm]at hl;cases hl
  ·rw[List.concat_eq_append]at o1 o2 ⊢;have hl:l∈ms:=o1.mem_iff.mp (by simp);obtain⟨k1,_,k2⟩:=Wm.mp o2
   have pp:p.Perm (Jw ms l):=by
    have:=((List.perm_append_singleton l p).symm.trans o1).trans (Xk nd hl)
    exact this.cons_inv
   have hlast:UU ws ms l=true:=lastM_iff.mpr fun b hb=>by
    rcases Yo.mp ((Xk nd hl).mem_iff.mp hb)with e|hb'
    ·subst e;exact fun z=>hw _ z rfl
    ·exact k2 b (pp.mem_iff.mpr hb') l (Yf.mpr rfl)
   have a1:=h2 l hl hlast;have a2:=(hv l hl).le p pp k1;rw[T6,Kv pp];omega
def Ax(a b:List Int)(l:Int):Jw (a++b) l=Jw a l++Jw b l:=List.filter_append ..
def Df{a:List Int}{l:Int}(h:l∉a):Jw a l=a:=List.filter_eq_self.mpr fun m hm=>Yh fun e=>h (e▸hm)
def HG(hs:List Int):∃T,J3 hs=[]::T:=by
 refine Xp (P:=fun hs=>∃T,J3 hs=[]::T) ⟨[],rfl⟩ (fun r h ⟨T,e⟩=>?_) hs;rw[Kb,e];exact⟨_,rfl⟩
def Dq(hs:List Int):(J3 hs).getLast?=some hs:=by
 refine Xp (P:=fun hs=>(J3 hs).getLast?=some hs) rfl (fun r h e=>?_) hs;rw[Kb,List.getLast?_append,List.getLast?_map,e];rfl
def AS{hs:List Int}:hs.Nodup->(J3 hs).Nodup:=by
 refine Xp (P:=fun hs=>hs.Nodup->(J3 hs).Nodup) (fun _=>by simp[J3]) (fun r h ih nd=>?_) hs;obtain⟨n1,_,n2⟩:=Wc.mp nd;rw[Kb];refine Wc.mpr ⟨ih n1,?_,fun a ha b hb e=>?_⟩
 ·exact Vl _ (fun a b hne e=>hne (List.append_cancel_right e)) (ih n1)
 ·obtain⟨c,hc,rfl⟩:=Y7.mp hb;subst e;exact n2 h ((Pb r _ ha).subset (by simp)) h (by simp) rfl
def Cb{hs:List Int}:hs.Nodup->∀(k:Nat) (ms:List Int),(J3 hs)[k]?=some ms->∀l∈ms,∃j:Nat,j<k/\(J3 hs)[j]?=some (Jw ms l):=by
 refine Xp (P:=fun hs=>hs.Nodup->∀(k:Nat) (ms:List Int),(J3 hs)[k]?=some ms->∀l∈ms,∃j:Nat,j<k/\(J3 hs)[j]?=some (Jw ms l)) (fun _ k ms e l hl=>?_) (fun r h ih nd k ms e l hl=>?_) hs
 ·have:ms=[]:=by
   have:=Y4 e
   simpa [J3]using this
  subst this;cases hl
 ·obtain⟨n1,_,n2⟩:=Wc.mp nd;rw[Kb]at e ⊢;by_cases hk:k<(J3 r).length
  ·rw[YR hk]at e;obtain⟨j,hj,ej⟩:=ih n1 k ms e l hl;exact⟨j,hj,by rw[YR (by omega)];exact ej⟩
  ·rw[Wn (by omega),Yj]at e;cases q:(J3 r)[k-(J3 r).length]? with
   |none=>rw[q]at e;cases e
   |some n=>
    rw[q]at e;cases e
    have hh:h∉n:=fun z=>n2 h ((Pb r n (Y4 q)).subset z) h (by simp) rfl;by_cases el:l=h
    ·subst el
     have e1:Jw (n++[l]) l=n:=by
      rw[Ax,Df hh];simp[Jw]
     obtain⟨j,hj,ej⟩:=YJ.mp (Y4 q);refine⟨j,by omega,?_⟩;rw[YR hj,e1,ZZ hj,ej]
    ·have hln:l∈n:=by
      rcases Yz.mp hl with z|z
      ·exact z
      ·exact absurd (Yf.mp z) el
     have e1:Jw (n++[h]) l=Jw n l++[h]:=by
      rw[Ax];congr 1;exact Df fun z=>el (Yf.mp z)
     obtain⟨j,hj,ej⟩:=ih n1 _ n q l hln;refine⟨(J3 r).length+j,by omega,?_⟩;rw[Wn (by omega),Yj,Nat.add_sub_cancel_left,ej,e1];rfl
def PQ{a b:List Int}(h:kT a=kT b):a=b:=List.map_inj_right (fun _ _=>Sum.inl.inj) |>.mp h
def Fb(hs:List Int)(ws:List (Int×Int)):Prop:=∀ms:List Int,ms.Sublist hs->ms≠[]->∃l∈ms,∀b∈ms,(l,b)∉ws
structure Tab (ws:List (Int×Int)) (c:Int->Int->Int) (S:List (List Int)) (kvs:List (List Key×V)):Prop where
 keys:kvs.map (·.1)=S.map kT
 val:∀ms∈S,∃v,valV kvs (kT ms)=some (.int v)/\Least ws c ms v
def Gd(ws:List (Int×Int))(c:Int->Int->Int):Tab ws c [[]] [([],.int 0)]:=by
 refine⟨rfl,fun ms hm=>?_⟩;rw[Yf.mp hm];refine⟨0,rfl,⟨[],.refl _,.nil,rfl⟩,fun o ho _=>?_⟩;rw[ho.eq_nil];exact W3 _
def Tab.put {ws:List (Int×Int)}{c:Int->Int->Int}{S:List (List Int)}{kvs:List (List Key×V)}{ms:List Int}{v:Int} (T:Tab ws c S kvs) (hn:ms∉S) (L:Least ws c ms v):Tab ws c (S++[ms]) (putK kvs (kT ms) (.int v)):=by
 have no:valV kvs (kT ms)=none:=by
  cases e:valV kvs (kT ms)with
  |none=>rfl
  |some u=>
   unfold valV at e;cases q:kvs.find? (fun kv=>decide (kv.1=kT ms))with
   |none=>rw[q]at e;cases e
   |some x=>
    have h1:=List.mem_of_find?_eq_some q;have h2:=List.find?_some q;have h3:x.1∈kvs.map (·.1):=Y7.mpr ⟨x,h1,rfl⟩;rw[T.keys,Ys h2]at h3;obtain⟨n,hn',e'⟩:=Y7.mp h3;rw[PQ e']at hn';exact absurd hn' hn
 constructor
 ·rw[RK _ no,Yt,Yt,T.keys];rfl
 ·intro n hn';rw[TU];by_cases e:n=ms
  ·subst e;exact⟨v,Yg rfl,L⟩
  ·rw[Ye fun z=>e (PQ z)];rcases Yz.mp hn' with z|z
   ·exact T.val n z
   ·exact absurd (Yf.mp z) e
open Classical in
def AZ{ms:List Int}{P:Int->Int->Prop}(h:∀l∈ms,∃v,P l v):∃f:Int->Int,∀l∈ms,P l (f l):=
 ⟨fun l=>if hl:l∈ms then Classical.choose (h l hl)else 0,fun l hl=>by
  simp only[dif_pos hl];exact Classical.choose_spec (h l hl)⟩
def IW{ls:List Int}{ws:List (Int×Int)}{r:List Int}(R:Ring ls (ws.map fun q=>(q.2,q.1)) r):Ring ls ws r.reverse:=by
 have sw:∀{x y:Int},(x,y)∈(ws.map fun q=>(q.2,q.1))->(y,x)∈ws:=fun h=>by
  obtain⟨q,hq,e⟩:=Y7.mp h;cases e
  exact hq
 refine⟨by rw[Va];exact R.two,List.pairwise_reverse.mpr (R.nodup.imp fun h=>Ne.symm h),fun x hx=>R.sub x (List.mem_reverse.mp hx),fun i x y h1 h2=>?_,fun x y h1 h2=>?_⟩
 ·have hi:i+1<r.length:=by
   have:=(Y2.mp h2).1
   rw[Va]at this;exact this
  rw[QN (by omega)]at h1 h2;exact sw (R.chain (r.length-1-(i+1)) y x h2 (by rw[←h1];congr 1;omega))
 ·have two:=R.two;rw[QN (by omega)]at h1;rw[Va,QN (by omega)]at h2;exact sw (R.last y x (by rw[←h2];congr 1;omega) (by rw[←h1];congr 1))
def Ef{hs:List Int}{ws:List (Int×Int)}(hu:∀q∈ws,q.1≠q.2)(h:¬ ∃r,Ring hs ws r):Fb hs ws:=fun ms hm hne=>by
 refine YL fun z=>h ?_
 have h1:∀x∈ms,∃y∈ms,(y,x)∈(ws.map fun q=>(q.2,q.1)):=fun x hx=>by
  refine YL fun k=>z ⟨x,hx,fun b hb hw=>k ⟨b,hb,Y7.mpr ⟨_,hw,rfl⟩⟩⟩
 obtain⟨r,R⟩:=OH (ws:=ws.map fun q=>(q.2,q.1)) (fun q hq=>by
  obtain⟨p,hp,e⟩:=Y7.mp hq;subst e;exact fun e=>hu p hp e.symm) hne h1
 have F:=IW R;exact⟨_,F.two,F.nodup,fun x hx=>hm.subset (F.sub x hx),F.chain,F.last⟩
def An:∀{kvs:List (List Key×V)},(kvs.map (·.1)).Nodup->∀p∈kvs,valV kvs p.1=some p.2
 |[],_,p,h=>by cases h
 |q::r,nd,p,h=>by
  rw[Yq,YG]at nd;rcases Yo.mp h with e|h
  ·rw[e];exact UL rfl
  ·rw[UD fun e=>nd.1 (Y7.mpr ⟨p,h,e.symm⟩)];exact An nd.2 p h
def TabV(ws:List (Int×Int))(c:Int->Int->Int)(S:List (List Int))(vs:List Int):Prop:=vs.length=S.length/\∀(i:Nat) (ms:List Int) (v:Int),S[i]?=some ms->vs[i]?=some v->Least ws c ms v
def Tab.vals {ws:List (Int×Int)}{c:Int->Int->Int}{S:List (List Int)}{kvs:List (List Key×V)} (T:Tab ws c S kvs) (nd:S.Nodup):∃vs:List Int,kvs.map (·.2)=vs.map V.int/\TabV ws c S vs:=by
 have nk:(kvs.map (·.1)).Nodup:=by
  rw[T.keys];exact Vl _ (fun a b hne e=>hne (PQ e)) nd
 have hk:∀p∈kvs,∃ms∈S,p.1=kT ms/\∃v,p.2=.int v/\Least ws c ms v:=fun p hp=>by
  have h1:p.1∈kvs.map (·.1):=Y7.mpr ⟨p,hp,rfl⟩;rw[T.keys]at h1;obtain⟨ms,hm,e⟩:=Y7.mp h1;obtain⟨v,h2,h3⟩:=T.val ms hm;rw[e,An nk p hp]at h2;exact⟨ms,hm,e.symm,v,Yl h2,h3⟩
 have hl:kvs.length=S.length:=by
  have:=YS List.length T.keys
  rw[Ya,Ya]at this;exact this
 refine⟨kvs.map fun p=>match p.2 with | .int v=>v|_=>0,?_,by rw[Ya,hl],fun i ms v h1 h2=>?_⟩
 ·rw[YK];refine Ww fun p hp=>?_;obtain⟨ms,_,_,v,e,_⟩:=hk p hp;show p.2=V.int (match p.2 with | .int v=>v|_=>0)
  rw[e]
 ·rw[Yj]at h2;cases q:kvs[i]? with
  |none=>rw[q]at h2;cases h2
  |some p=>
   rw[q]at h2;obtain⟨ms',hm',e1,u,e2,L⟩:=hk p (Y4 q);have h3:(kvs.map (·.1))[i]?=some p.1:=by rw[Yj,q];rfl
   rw[T.keys,Yj,h1]at h3;have e3:ms=ms':=PQ ((Yl h3).trans e1);subst e3
   have e4:u=v:=by
    have:=Yl h2
    simp only[e2]at this;exact this
   rw[←e4];exact L
def Aw:∀{kvs:List (List Key×V)}{vs:List Int},kvs.map (·.2)=vs.map V.int->Kk kvs=true/\kvs.map (fun p=>vD p.2)=vs.map D.int
 |[],[],_=>⟨rfl,rfl⟩
 |p::r,v::vs,h=>by
  rw[Yq,Yq,QX]at h;obtain⟨h1,h2⟩:=Aw h.2;unfold Kk;rw[h1,Yq,Yq,h2,h.1];exact⟨rfl,rfl⟩
structure Best (ws:List (Int×Int)) (c:Int->Int->Int) (ms o:List Int):Prop where
 perm:o.Perm ms
 keeps:Keeps ws o
 le:∀p:List Int,p.Perm ms->Keeps ws p->oc c o<=oc c p
 first:∀p:List Int,p.Perm ms->Keeps ws p->oc c p=oc c o->o=p\/sl o p
def Lw(ws:List (Int×Int))(c:Int->Int->Int):Best ws c [] []:=by
 refine⟨.refl _,.nil,fun p hp _=>?_,fun p hp _ _=>.inl hp.eq_nil.symm⟩;rw[hp.eq_nil];exact W3 _
def Ae{ws:List (Int×Int)}{c:Int->Int->Int}{ms:List Int}{vs:Int->Int}{V g:Int}{p:List Int}(nd:ms.Nodup)(hu:∀q∈ws,q.1≠q.2)(hv:∀l∈ms,Least ws c (Jw ms l) (vs l))(hV:Least ws c ms V)(hp:(g::p).Perm ms)(hk:Keeps ws (g::p))(e:oc c (g::p)=V):g∈ms/\firstM ws ms g=true/\vs g+((Jw ms g).map (c g)).sum=V/\p.Perm (Jw ms g)/\oc c p=vs g:=by
 have hg:g∈ms:=hp.mem_iff.mp (Yy ..);have pp:p.Perm (Jw ms g):=(hp.trans (Xk nd hg)).cons_inv;obtain⟨k1,k2⟩:=YN.mp hk
 have hf:firstM ws ms g=true:=firstM_iff.mpr fun b hb=>by
  rcases Yo.mp ((Xk nd hg).mem_iff.mp hb)with e|hb'
  ·subst e;exact fun z=>hu _ z rfl
  ·exact k1 b (pp.mem_iff.mpr hb')
 have a1:=(hv g hg).le p pp k2;obtain⟨o,o1,o2,o3⟩:=(hv g hg).is;have a2:=hV.le (g::o) ((List.Perm.cons g o1).trans (Xk nd hg).symm) (YN.mpr ⟨fun b hb=>firstM_iff.mp hf b (less_sub.subset (o1.mem_iff.mp hb)),o2⟩);have e1:oc c (g::p)=(p.map (c g)).sum+oc c p:=rfl;have e2:oc c (g::o)=(o.map (c g)).sum+oc c o:=rfl;have s1:=Kv (f:=c g) pp;have s2:=Kv (f:=c g) o1;exact⟨hg,hf,by omega,pp,by omega⟩
def O7{ws:List (Int×Int)}{c:Int->Int->Int}{ms o:List Int}{vs:Int->Int}{V f:Int}(nd:ms.Nodup)(hu:∀q∈ws,q.1≠q.2)(hv:∀l∈ms,Least ws c (Jw ms l) (vs l))(hV:Least ws c ms V)(hf:f∈ms)(h1:firstM ws ms f=true)(h2:vs f+((Jw ms f).map (c f)).sum=V)(h3:∀g∈ms,firstM ws ms g=true->vs g+((Jw ms g).map (c g)).sum=V->f<=g)(B:Best ws c (Jw ms f) o):Best ws c ms (f::o):=by
 have eo:oc c o=vs f:=by
  obtain⟨p,p1,p2,p3⟩:=(hv f hf).is
  have:=(hv f hf).le o B.perm B.keeps
  have:=B.le p p1 p2
  omega
 have es:=Kv (f:=c f) B.perm
 have e:oc c (f::o)=V:=by
  show(o.map (c f)).sum+oc c o=V;omega
 refine⟨(List.Perm.cons f B.perm).trans (Xk nd hf).symm,YN.mpr ⟨fun b hb=>firstM_iff.mp h1 b (less_sub.subset (B.perm.mem_iff.mp hb)),B.keeps⟩,fun p p1 p2=>?_,fun p p1 p2 p3=>?_⟩
 ·rw[e];exact hV.le p p1 p2
 ·cases p with
  |nil=>rw[p1.nil_eq.symm]at hf;cases hf
  |cons g p=>
   obtain⟨q1,q2,q3,q4,q5⟩:=Ae nd hu hv hV p1 p2 (p3.trans e);have hle:=h3 g q1 q2 q3;by_cases eg:f=g
   ·subst eg;rcases B.first p q4 (YN.mp p2).2 (q5.trans eo.symm)with z|z
    ·exact .inl (by rw[z])
    ·exact .inr (sl_cons.mpr z)
   ·exact .inr (.inl (by omega))
end M
namespace Pu
open PySem PySem.Spec PyProof.Rows L2 Own
section
variable {K:Za}{mg:Str->Option Value}{E:L2.St->XK}{H0 H H1 H':Hp}{B Z Z':Addr->Prop}{σ:L2.St}{γ:Γ}
def O.from:O->O->Prop
 | .ins x _ _ cs,.ins x' _ _ cs'=>x'=x/\∀c∈cs,∃c'∈cs',c'.1=c.1
 | .lsA x _,.lsA x' _=>x'=x
 |_,_=>False
def O.from_adr {o o':O}{a:Addr} (h:o.from o'):∀b,o.adr a b->o'.adr a b:=by
 unfold O.from at h
 split at h
 ·intro b hb;rcases hb with hb|⟨c,hc,hb⟩
  ·exact .inl (hb.trans h.1.symm)
  ·obtain⟨c',q1,q2⟩:=h.2 c hc;exact .inr ⟨c',q1,hb.trans q2.symm⟩
 ·intro b hb;exact(show b=_ from hb).trans h.symm
 ·exact h.elim
def O.from_at {o o':O}{a a':Addr}{F F' H H':Hp} (h:o.from o') (h1:OR K F H a o) (h2:OR K F' H' a' o'):a'=a:=by
 unfold O.from at h
 split at h
 ·exact h2.1.trans (h.1.trans h1.1.symm)
 ·exact h2.1.trans (h.trans h1.1.symm)
 ·exact h.elim
abbrev Pw:=O->List S->(O->D->Prop)->(O->Str->Prop)->Prop
def S.pass:S->Option S
 | .sh d=>some (.sh d) | .own o=>some (.sh o.d)
 | .bor d=>match imm d with|true=>some (.sh d)|false=>some (.bor d)
 | .tmp d=>match imm d with|true=>some (.sh d)|false=>none
 | .view _=>none
def S.flat:S->Prop
 | .sh _=>True | .bor _=>True|_=>False
def passes:List S->Option (List S)
 |[]=>some []
 |s::r=>match s.pass,passes r with|some s',some r'=>some (s'::r')|_,_=>none
structure After (K:Za) (B:Addr->Prop) (H:Hp) (a:Addr) (o o':O) (H':Hp):Prop where
 same:Same (off (o.adr a) H) H'
 old:∀b,o.adr a b->o'.adr a b
 new:∀b,o'.adr a b->o.adr a b\/H b=none
 at_:OR K (off (fun b=>B b\/o'.adr a b) H') H' a o'
def spW(mg:Str->Option Value)(c:Pw)(K:Za):Sp:=fun vs H Q E=>∃(o:O) (a:Addr) (ss:List S) (us:List V) (B:Addr->Prop) (R:O->D->Prop) (X:O->Str->Prop),
 vs=.ref a::us/\(∀b,B b->Mut (H b)/\¬o.adr a b)/\OR K (off (fun b=>B b\/o.adr a b) H) H a o/\TVs K (fun b=>B b\/o.adr a b) (off (o.adr a) H) H H ss us/\(∀s∈ss,s.flat)/\c o ss R X/\
 (∀o' d v H',R o' d->After K B H a o o' H'->Rp K (off (fun b=>B b\/o'.adr a b) H') d v->Q v H')/\∀o' e H',X o' e->After K B H a o o' H'->E (.ref (ExcR.Jq mg e)) none H'
def TVs.get:∀{ss:List S}{vs:List V}{i:Nat}{s:S},TVs K Z H0 H H' ss vs->ss[i]?=some s->∃v,vs[i]?=some v/\TV K Z H0 H H' s v
 |_,_,_,_,.nil,e=>by simp at e
 |_,_,0,_,.cons h _,e=>by simp at e;subst e;exact⟨_,rfl,h⟩
 |_,_,i+1,s,.cons _ r,e=>by
  obtain⟨v,h1,h2⟩:=TVs.get (i:=i) (s:=s) r (by simpa using e);exact⟨v,by simpa using h1,h2⟩
def Xt(N:List Str)(o:O)(ss:List S):Γ:=some (.own o)::(ss.map some++List.replicate (N.length-(ss.length+1)) none)
def ID{N:List Str}{o:O}{a:Addr}{ss:List S}{us:List V}(hB:∀b,B b->Mut (H b)/\¬o.adr a b)(ho:OR K (off (fun b=>B b\/o.adr a b) H) H a o)(r:TVs K (fun b=>B b\/o.adr a b) (off (o.adr a) H) H H ss us)(hf:∀s∈ss,s.flat)(hn:ss.length+1<=N.length) :
  EnvR K (off (o.adr a) H) B H (start N (.ref a::us)) (Xt N o ss):=by
 have hlen:=r.len
 have get:∀(i:Nat) (s:S),(Xt N o ss)[i+1]?=some (some s)->ss[i]?=some s:=fun i s h=>by
  unfold Xt at h;rw[WW]at h;by_cases hi:i<ss.length
  ·rw[YR (by rw[Ya];exact hi),Yj,ZZ hi]at h;rw[ZZ hi];exact YS some (Yl (Yl h))
  ·rw[Wn (by rw[Ya];omega),Q1]at h;split at h<;>cases h
 have noown:∀(i:Nat) (es:O),(Xt N o ss)[i+1]?≠some (some (.own es)):=fun i es h=>hf _ (Y4 (get i _ h))
 have st0:(start N (V.ref a::us))[0]?=some (some (.ref a)):=by
  unfold L2.start;rfl
 have hz:∀b,zof B (Xt N o ss) (start N (V.ref a::us)) b->B b\/o.adr a b:=fun b z=>by
  rcases z with z|⟨i,es,a',h1,h2,h3⟩
  ·exact .inl z
  ·cases i with
   |zero=>
    rw[st0]at h2;cases h2
    have:o=es:=by
     have h1:some (some (S.own o))=some (some (S.own es)):=h1;cases h1
     rfl
    subst this;exact .inr h3
   |succ i=>exact absurd h1 (noown i es)
 refine⟨off_sub,?_,fun b h=>(hB b h).1,fun i j x x' es es' b h1 h2 _ _ _ _=>?_,fun i s h=>?_⟩
 ·unfold L2.start Xt;simp[hlen]
 ·cases i with
  |succ i=>exact absurd h1 (noown i es)
  |zero=>
   cases j with
   |zero=>rfl
   |succ j=>exact absurd h2 (noown j es')
 ·cases i with
  |zero=>
   have h:some (some (S.own o))=some (some s):=h;cases h
   refine⟨_,st0,a,rfl,fun b hb=>?_,ho.mono (Jx (Same.refl _) fun b _ _ z y=>z (hz b y)) fun _ _ _ q=>q⟩;unfold off;rw[Yg hb]
  |succ i=>
   have hs:=get i s h;obtain⟨v,hv,tv⟩:=r.get hs;refine⟨v,?_,?_⟩
   ·unfold L2.start;rw[YR (by rw[Ya,Y3];have:=(Y2.mp hv).1;omega),Yj,WW,hv];rfl
   ·have:=hf s (Y4 hs)
    cases s with
    |bor d=>exact tv
    |sh d=>exact Rp.mono (Jx (Same.refl _) fun b _ _ z y=>z (hz b y)) tv
    |own _=>exact this.elim
    |view _=>exact this.elim
    |tmp _=>exact this.elim
def finW(o:O)(R:O->D->Prop)(γ:Γ)(d:D):Prop:=∃o',γ[0]?=some (some (.own o'))/\o.from o'/\R o' d
def finX(o:O)(X:O->Str->Prop)(γ:Γ)(e:Str):Prop:=∃o',γ[0]?=some (some (.own o'))/\o.from o'/\X o' e
def Cm(o:O)(R:O->D->Prop)(X:O->Str->Prop):PEnds:={nx:=fun γ=>finW o R γ .non,rt:=fun _=>False,ex:=finX o X,rv:=finW o R}
def Bq{a:Addr}{o o':O}{σ':L2.St}{γ':Γ}(ho:OR K (off (fun b=>B b\/o.adr a b) H) H a o)(e:EnvR K (off (o.adr a) H) B H' σ' γ')(h:γ'[0]?=some (some (.own o')))(k:o.from o'):After K B H a o o' H'/\∀b,B b\/o'.adr a b->zof B γ' σ' b:=by
 obtain⟨v,h1,a',rfl,h2,h3⟩:=e.slot 0 _ h;have ea:=O.from_at k ho h3;subst ea;have hz:∀b,B b\/o'.adr a' b->zof B γ' σ' b:=fun b z=>z.imp id fun z=>⟨0,o',a',h,h1,z⟩;refine⟨⟨e.same,O.from_adr k,fun b hb=>?_,h3.mono (Jx (Same.refl _) fun b _ _ z y=>z (hz b y)) fun _ _ _ q=>q⟩,hz⟩
 have:=h2 b hb
 unfold off at this;by_cases q:o.adr a' b
 ·exact .inl q
 ·rw[Ye q]at this;exact .inr this
def Za8{c:Pw}{N:List Str}{t:TS}{p:PTS}{vs:List V}{Q:VK}{Ec:XK}{n:Nat}(h:spW mg c K vs H Q Ec)(snd:SndS K mg (fun _=>Ec) t p)(hn:n+1<=N.length)(hp:∀o ss R X,c o ss R X->ss.length=n/\p (Cm o R X) (Xt N o ss)):t {nx:=fun _ H'=>Q .non H',rt:=Q} (start N vs) H:=by
 obtain⟨o,a,ss,us,B,R,X,rfl,hB,ho,r,hf,hc,hQ,hX⟩:=h;obtain⟨e,hp⟩:=hp o ss R X hc;have env:=ID (N:=N) hB ho r hf (by rw[e];exact hn);refine snd _ B H _ _ _ _ (fun b z=>?_) env hp ⟨fun σ' γ' H' h1 e1 f1=>?_,fun _ _ _ z=>z.elim,fun σ' γ' c H' h1 e1 f1=>?_,fun _ _ _ z=>z.elim,fun _ _ _ z=>z.elim,fun σ' γ' d v H' h1 e1 f1 rd=>?_⟩
 ·obtain⟨q1,q2⟩:=hB b z;obtain⟨x,hx⟩:=P1 q1;exact⟨x,JV hx q2⟩
 ·obtain⟨o',q1,q2,q3⟩:=h1;exact hQ o' .non .non H' q3 (Bq ho e1 q1 q2).1 .non
 ·obtain⟨o',q1,q2,q3⟩:=h1;exact hX o' c H' q3 (Bq ho e1 q1 q2).1
 ·obtain⟨o',q1,q2,q3⟩:=h1;obtain⟨k1,k2⟩:=Bq ho e1 q1 q2;exact hQ o' d v H' q3 k1 (Rp.mono (Jx (Same.refl _) fun b _ _ z y=>z (k2 b y)) rd)
def OD{c:Pw}{vs:List V}{Q:VK}{Ec:XK}{n:Nat}(h:spW mg c K vs H Q Ec)(hn:∀o ss R X,c o ss R X->ss.length=n):vs.length=n+1:=by
 obtain⟨o,a,ss,us,B,R,X,rfl,_,_,r,_,hc,_⟩:=h;rw[Y3,r.len,hn o ss R X hc]
abbrev PTW:=Γ->(Γ->D->Prop)->(Γ->Str->Prop)->Prop
def SndW(K:Za)(mg:Str->Option Value)(E:L2.St->XK)(t:TE)(p:PTW):Prop:=∀(H0:Hp) (B:Addr->Prop) (H:Hp) (σ:L2.St) (γ:Γ) (R:Γ->D->Prop) (X:Γ->Str->Prop) (Q:VK),(∀b,B b->∃o,H0 b=some o)->EnvR K H0 B H σ γ->p γ R X->
 (∀γ' d v H',R γ' d->EnvR K H0 B H' σ γ'->Fr B H σ γ H' σ γ'->Rp K (off (zof B γ' σ) H') d v->Q v H')->(∀γ' c H',X γ' c->EnvR K H0 B H' σ γ'->Fr B H σ γ H' σ γ'->E σ (.ref (ExcR.Jq mg c)) none H')->t σ H Q
variable {te:TE}{w:PTW}
def HP(w:PTW):PTS:=fun R γ=>w γ (fun γ' _=>R.nx γ') R.ex
def PM(hw:SndW K mg E te w):SndS K mg E (KC te) (HP w):=by
 intro H0 B H σ γ R D hB env h e;exact hw H0 B H σ γ _ _ _ hB env h (fun γ' d v H1 h1 e1 f1 _=>e.nx σ γ' H1 h1 e1 f1) fun γ' c H' hc e' f'=>e.ex σ γ' c H' hc e' f'
def Ll(w:PTW):PTS:=fun R γ=>w γ R.rv R.ex
def O5(hw:SndW K mg E te w):SndS K mg E (tRet te) (Ll w):=by
 intro H0 B H σ γ R D hB env h e;exact hw H0 B H σ γ _ _ _ hB env h (fun γ' d v H1 h1 e1 f1 rd=>e.rv σ γ' d v H1 h1 e1 f1 rd) fun γ' c H' hc e' f'=>e.ex σ γ' c H' hc e' f'
def Rh(a:PTE):PTS:=fun R γ=>a γ (fun s=>match s.shd with|some d=>R.rv γ d|none=>False) (R.ex γ)
def Hq{a:PTE}(ha:SndE K mg E te a):SndS K mg E (tRet te) (Rh a):=by
 intro H0 B H σ γ R D hB env h e;refine ha H0 B H σ γ _ _ _ env h (fun s v H1 h1 S1 t1=>?_) fun c H' hc S'=>e.ex σ γ c H' hc (env.grow S') (Fr.grow S');split at h1
 ·rename_i d ed;exact e.rv σ γ d v H1 h1 (env.grow S1) (Fr.grow S1) (t1.shd (env.grow S1).same env.zm S1 ed)
 ·exact h1.elim
def Gx{s s':S}(h:s.pass=some s'):s'.flat:=by
 cases s with
 |sh d=>cases h;trivial
 |own o=>cases h;trivial
 |bor d=>unfold S.pass at h;cases q:imm d<;>simp[q]at h<;>subst h<;>trivial
 |tmp d=>
  unfold S.pass at h;cases q:imm d<;>simp[q]at h
  subst h;trivial
 |view o=>cases h
def Bv:∀{ss ss':List S},passes ss=some ss'->∀s∈ss',s.flat
 |[],_,h=>by cases h;simp
 |s::r,_,h=>by
  unfold passes at h;split at h
  ·rename_i s1 r1 e1 e2;cases h
   intro x hx;rcases Yo.mp hx with rfl|hx
   ·exact Gx e1
   ·exact Bv e2 x hx
  ·cases h
def TV.pass {s s':S}{v:V}{P W:Addr->Prop}{HB:Hp} (h0:Same H0 H') (hm:∀b,Z b->Mut (H b)) (S1:Same H H') (hb:Same H0 (off P HB)) (hs:Same (off Z H') (off W HB)) (h:TV K Z H0 H H' s v) (e:s.pass=some s'):TV K W (off P HB) HB HB s' v:=by
 have shd:∀d,s.shd=some d->Rp K (off W HB) d v:=fun d ed=>Rp.mono hs (h.shd h0 hm S1 ed);cases s with
 |sh d=>cases e;exact shd _ rfl
 |own o=>cases e;exact shd _ rfl
 |view o=>cases e
 |tmp d=>
  unfold S.pass at e;cases q:imm d with
  |false=>simp[q]at e
  |true=>simp[q]at e;subst e;exact shd d (by unfold S.shd;simp[q])
 |bor d=>
  unfold S.pass at e;cases q:imm d with
  |false=>simp[q]at e;subst e;exact Rp.mono hb h
  |true=>simp[q]at e;subst e;exact shd d (by unfold S.shd;simp[q])
def TVs.pass {P W:Addr->Prop}{HB:Hp} (h0:Same H0 H') (hm:∀b,Z b->Mut (H b)) (S1:Same H H') (hb:Same H0 (off P HB)) (hs:Same (off Z H') (off W HB)):∀{ss ss':List S}{vs:List V},TVs K Z H0 H H' ss vs->passes ss=some ss'->TVs K W (off P HB) HB HB ss' vs
 |_,_,_,.nil,e=>by cases e;exact .nil
 |_,_,_,.cons h r,e=>by
  unfold passes at e;split at e
  ·rename_i s1 r1 e1 e2;cases e
   exact .cons (h.pass h0 hm S1 hb hs e1) (TVs.pass h0 hm S1 hb hs r e2)
  ·cases e
def MH{c:Pw}{i:Nat}{o:O}{a:Addr}{ss ss':List S}{us:List V}{R:Γ->D->Prop}{X:Γ->Str->Prop}{Q:VK}{Ec:XK}(env:EnvR K H0 B H σ γ)(hB:∀b,B b->∃o,H0 b=some o)(S1:Same H H1)(hi:γ[i]?=some (some (.own o)))(ha:σ[i]?=some (some (.ref a)))(t1:TVs K (zof B γ σ) H0 H H1 ss us)(hp:passes ss=some ss')(hc:c o ss' (fun o' d=>R (γ.set i (some (.own o'))) d) (fun o' e=>X (γ.set i (some (.own o'))) e))(q:∀γ' d v H',R γ' d->EnvR K H0 B H' σ γ'->Fr B H σ γ H' σ γ'->Rp K (off (zof B γ' σ) H') d v->Q v H')(qx:∀γ' c H',X γ' c->EnvR K H0 B H' σ γ'->Fr B H σ γ H' σ γ'->Ec (.ref (ExcR.Jq mg c)) none H'):spW mg c K (.ref a::us) H1 Q Ec:=by
 have env1:=env.grow S1;obtain⟨v,h1,a',ev,h3,h4⟩:=env1.slot i _ hi;rw[ha]at h1;cases h1
 cases ev
 have za:∀b,o.adr a b->zof B γ σ b:=fun b hb=>.inr ⟨i,o,a,hi,ha,hb⟩
 have aft:∀o' H',After K (fun b=>zof B γ σ b/\¬o.adr a b) H1 a o o' H'->EnvR K H0 B H' σ (γ.set i (some (.own o')))/\Fr B H σ γ H' σ (γ.set i (some (.own o')))/\∀b x,H' b=some x->¬((zof B γ σ b/\¬o.adr a b)\/o'.adr a b)->¬zof B (γ.set i (some (.own o'))) σ b:=fun o' H' A=>by
  have hzz:∀b x,H' b=some x->¬((zof B γ σ b/\¬o.adr a b)\/o'.adr a b)->¬zof B (γ.set i (some (.own o'))) σ b:=fun b x _ n z=>by
   rcases z with z|⟨j,fs,a',e1,e2,e3⟩
   ·refine n (.inl ⟨.inl z,fun w=>?_⟩);obtain⟨u,hu⟩:=hB b z;rw[h3 b w]at hu;cases hu
   ·rcases JK e1 with⟨ej,q,_⟩|⟨nj,q⟩
    ·subst ej;cases q
     rw[ha]at e2;cases e2
     exact n (.inr e3)
    ·exact n (.inl ⟨.inr ⟨j,fs,a',q,e2,e3⟩,fun w=>nj (env.own j i a' a fs o b q hi e2 ha e3 w)⟩)
  obtain⟨k1,k2⟩:=env1.change (o':=o') (H':=H') hi ha (fun b x hx n=>A.same b x (JV hx n)) (fun b hb=>A.at_.mut b (A.old b hb)) A.new (A.at_.mono (Jx (Same.refl _) fun b x hx z=>hzz b x hx z) fun _ _ _ q=>q);exact⟨k1,(Fr.grow S1).trans k2,hzz⟩
 refine⟨o,a,ss',us,fun b=>zof B γ σ b/\¬o.adr a b,_,_,rfl,fun b hb=>⟨env1.zm b hb.1,hb.2⟩,h4.mono (Jx (Same.refl _) fun b _ _ z y=>z (y.elim (fun y=>y.1) (za b))) fun _ _ _ q=>q,?_,Bv hp,hc,fun o' d v H' hR A rd=>?_,fun o' e H' hX A=>?_⟩
 ·refine t1.pass env1.same env.zm S1 (fun b x hx=>JV (env1.same b x hx) fun w=>?_) (Jx (Same.refl _) fun b _ _ z y=>z (y.elim (fun y=>y.1) (za b))) hp;rw[h3 b w]at hx;cases hx
 ·obtain⟨k1,k2,k3⟩:=aft o' H' A;exact q _ d v H' hR k1 k2 (Rp.mono (fun b x h=>let ⟨p1,p2⟩:=Xa h;JV p1 (k3 b x p1 p2)) rd)
 ·obtain⟨k1,k2,_⟩:=aft o' H' A;exact qx _ e H' hX k1 k2
def Zbe(i:Nat)(c:Pw)(r:PTA):PTW:=fun γ R X=>match γ[i]? with
 |some (some (.own o))=>r γ (fun ss=>match passes ss with|some ss'=>c o ss' (fun o' d=>R (γ.set i (some (.own o'))) d) (fun o' e=>X (γ.set i (some (.own o'))) e)|none=>False) (X γ)
 |_=>False
def fFld(C:Addr)(xs:List Str)(j:Nat):S->(S->Prop)->Prop
 | .view (.ins _ C' xs' cs),R=>C'=C/\xs'=xs/\∃c,cs[j]?=some c/\R (.view (.lst c.2))
 | .bor (.ins C' xs' ds),R=>C'=C/\xs'=xs/\∃d,ds[j]?=some d/\R (arg d)
 |_,_=>False
def pFld(C:Addr)(xs:List Str)(j:Nat)(a:PTE):PTE:=fun γ R X=>a γ (fun s=>fFld C xs j s R) X
def Rp.ins_inv {C:Addr}{xs:List Str}{ds:List D}{v:V} (h:Rp K H (.ins C xs ds) v):∃a dx vs,v=.ref a/\H a=some (.ins C dx (xs.zip vs))/\xs.length=vs.length/\Rps K H ds vs:=by
 cases h with
 |ins h e r=>exact⟨_,_,_,rfl,h,e,r⟩
def FldAt(f:Str)(xs:List Str)(j:Nat):Prop:=∀vs:List V,xs.length=vs.length->(xs.zip vs).lookup f=vs[j]?
def Tr{C:Addr}{f:Str}{xs:List Str}(j:Nat){a:PTE}(hc:Cls K C)(hn:NoAttr K C f)(hj:FldAt f xs j)(ha:SndE K mg E te a):SndE K mg E (tFld K te f) (pFld C xs j a):=by
 intro H0 B H σ γ R X Q env p q qx;refine ha H0 B H σ γ _ X _ env p (fun s v H1 h1 S1 t1=>?_) qx;have env1:=env.grow S1;unfold fFld at h1;split at h1
 ·rename_i x C' xs' cs;obtain⟨rfl,rfl,c,ec,hR⟩:=h1;obtain⟨b,rfl,e1,e2,⟨dx,e3⟩,e4,e5⟩:=t1;obtain⟨us,u1,u2⟩:=e4 c (Y4 ec);refine⟨b,_,dx,_,_,rfl,e3,hc,hn,?_,q _ _ H1 hR S1 ⟨c.1,rfl,us,u1,u2⟩⟩;rw[hj _ (by rw[Ya];exact e2),Yj,ec];rfl
 ·rename_i C' xs' ds;obtain⟨rfl,rfl,d,ed,hR⟩:=h1;obtain⟨b,dx,vs,rfl,e1,e2,e3⟩:=Rp.ins_inv (show Rp K H0 (.ins C' xs' ds) v from t1)
  obtain⟨u,hu,ru⟩:=e3.get ed;refine⟨b,_,dx,_,u,rfl,env1.same _ _ e1,hc,hn,by rw[hj _ e2];exact hu,q _ _ H1 hR S1 (argR env1.zm env1.same ru)⟩
 ·exact h1.elim
def CB(C:Addr)(xs:List Str)(c:Pc)(a:PTE)(r:PTA):PTE:=fun γ R X=>a γ (fun s=>match s.d with
 | .ins C' xs' ds=>C'=C/\xs'=xs/\r γ (fun ss=>c (.ins C' xs' ds::ss.map S.d) (fun s=>R s.back) X) X
 |_=>False) X
def NoFld(m:Str)(xs:List Str):Prop:=∀vs:List V,(xs.zip vs).lookup m=none
def HZ(C:Addr)(m:Str)(sp:Sp)(E:L2.St->XK)(ta:TE)(t:TA):TE:=fun σ H Q=>ta σ H fun x H1=>∃a dx fs,x=.ref a/\H1 a=some (.ins C dx fs)/\fs.lookup m=none/\t σ H1 fun vs H2=>sp (x::(vs++[])) H2 Q (E σ)
def MG{C:Addr}{m:Str}{xs:List Str}{c:Pc}{ta:TA}{a:PTE}{r:PTA}(hx:NoFld m xs)(ha:SndE K mg E te a)(hr:SndA K mg E ta r):SndE K mg E (HZ C m (spOf mg c K) E te ta) (CB C xs c a r):=by
 intro H0 B H σ γ R X Q env p q qx;refine ha H0 B H σ γ _ X _ env p (fun s v H1 h1 S1 t1=>?_) qx;have env1:=env.grow S1;split at h1
 ·rename_i C' xs' ds ed;obtain⟨rfl,rfl,h1⟩:=h1;have rs:=t1.rp env1.same;rw[ed]at rs;obtain⟨b,dx,vs,rfl,e1,e2,e3⟩:=Rp.ins_inv rs;refine⟨b,dx,_,rfl,e1,hx vs,hr H0 B H1 σ γ _ X _ env1 h1 (fun ss us H2 h2 S2 t2=>?_) fun c H' hc S'=>qx c H' hc (S1.trans S')⟩;have env2:=env1.grow S2;rw[Wd];refine⟨_,_,X,Rps.cons (Rp.mono S2 rs) (t2.rps env2.same),h2,fun s v H' hs S3 tv=>q _ _ H' hs ((S1.trans S2).trans S3) (tv.back env2 (S1.trans S2) S3),fun e H' he S3=>qx e H' he ((S1.trans S2).trans S3)⟩
 ·exact h1.elim
def Za1{C:Addr}{m:Str}{xs:List Str}{c:Pc}{ta:TA}{a:PTE}{r:PTA}{Ec:XK}(hx:NoFld m xs)(ha:SndE K mg (fun _=>Ec) te a)(hr:SndA K mg (fun _=>Ec) ta r):SndE K mg (fun _=>Ec) (XI C m (spOf mg c K) [] Ec te ta) (CB C xs c a r):=MG (E:=fun _=>Ec) hx ha hr
def Ro(C:Addr)(xs:List Str)(c:Pc)(a:PTE)(r:PTA):PTE:=fun γ R X=>a γ (fun s=>match s.d with
 | .ins C' xs' ds=>C'=C/\xs'=xs/\r γ (fun ss=>c (.ins C' xs' ds::ss.map S.d) (fun s=>R s.back) fun _=>False) X
 |_=>False) X
def Ux{C:Addr}{m:Str}{xs:List Str}{c:Pc}{ta:TA}{a:PTE}{r:PTA}(hx:NoFld m xs)(ha:SndE K mg E te a)(hr:SndA K mg E ta r):SndE K mg E (XI C m (spOf mg c K) [] E0 te ta) (Ro C xs c a r):=by
 intro H0 B H σ γ R X Q env p q qx;refine ha H0 B H σ γ _ X _ env p (fun s v H1 h1 S1 t1=>?_) qx;have env1:=env.grow S1;split at h1
 ·rename_i C' xs' ds ed;obtain⟨rfl,rfl,h1⟩:=h1;have rs:=t1.rp env1.same;rw[ed]at rs;obtain⟨b,dx,vs,rfl,e1,e2,e3⟩:=Rp.ins_inv rs;refine⟨b,dx,_,rfl,e1,hx vs,hr H0 B H1 σ γ _ X _ env1 h1 (fun ss us H2 h2 S2 t2=>?_) fun c H' hc S'=>qx c H' hc (S1.trans S')⟩;have env2:=env1.grow S2;rw[Wd];exact⟨_,_,_,Rps.cons (Rp.mono S2 rs) (t2.rps env2.same),h2,fun s v H' hs S3 tv=>q _ _ H' hs ((S1.trans S2).trans S3) (tv.back env2 (S1.trans S2) S3),fun _ _ z=>z.elim⟩
 ·exact h1.elim
def Zbd(i:Nat)(C:Addr)(xs:List Str)(c:Pw)(r:PTA):PTW:=fun γ R X=>match γ[i]? with
 |some (some (.own (.ins x C' xs' cs)))=>C'=C/\xs'=xs/\r γ (fun ss=>match passes ss with|some ss'=>c (.ins x C' xs' cs) ss' (fun o' d=>R (γ.set i (some (.own o'))) d) (fun o' e=>X (γ.set i (some (.own o'))) e)|none=>False) (X γ)
 |_=>False
def Cq(i:Nat)(C:Addr)(xs:List Str)(c:Pw)(r:PTA):PTW:=fun γ R X=>match γ[i]? with
 |some (some (.own (.ins x C' xs' cs)))=>C'=C/\xs'=xs/\r γ (fun ss=>match passes ss with|some ss'=>c (.ins x C' xs' cs) ss' (fun o' d=>R (γ.set i (some (.own o'))) d) (fun _ _=>False)|none=>False) (X γ)
 |_=>False
def Fg(i:Nat){C:Addr}{m:Str}{xs:List Str}{c:Pw}{ta:TA}{r:PTA}(hx:NoFld m xs)(hr:SndA K mg E ta r):SndW K mg E (XI C m (spW mg c K) [] E0 (tVar i) ta) (Cq i C xs c r):=by
 intro H0 B H σ γ R X Q hB env h q qx;unfold Cq at h;split at h
 ·rename_i x C' xs' cs hi;obtain⟨rfl,rfl,h⟩:=h;obtain⟨v,hv,a,rfl,_,e1,e2,⟨dx,e3⟩,e4⟩:=env.slot i _ hi;refine⟨_,hv,a,dx,_,rfl,e3,hx _,hr H0 B H σ γ _ _ _ env h (fun ss us H1 h1 S1 t1=>?_) fun c H' hc S'=>qx γ c H' hc (env.grow S') (Fr.grow S')⟩;rw[Wd];split at h1
  ·rename_i ss' ep;exact MH (X:=fun _ _=>False) env hB S1 hi hv t1 ep h1 q fun _ _ _ z=>z.elim
  ·exact h1.elim
 ·exact h.elim
def BO{α:Type}:∀{l:List α}{i j:Nat}{x:α},l.Nodup->l[i]?=some x->l[j]?=some x->i=j
 |[],_,_,_,_,h,_=>by simp at h
 |y::r,0,0,_,_,_,_=>rfl
 |y::r,0,j+1,x,hn,h1,h2=>by
  have e:y=x:=by simpa using h1
  exact absurd (e▸Y4 (show r[j]?=some x by simpa using h2)) (YG.mp hn).1
 |y::r,i+1,0,x,hn,h1,h2=>by
  have e:y=x:=by simpa using h2
  exact absurd (e▸Y4 (show r[i]?=some x by simpa using h1)) (YG.mp hn).1
 |y::r,i+1,j+1,x,hn,h1,h2=>YS (· + 1) (BO (l:=r) (YG.mp hn).2 (by simpa using h1) (by simpa using h2))
def EnvR.cell {i j:Nat}{x C:Addr}{xs:List Str}{cs:List (Addr×List D)}{b:Addr}{ds es:List D}{us:List V} (env:EnvR K H0 B H σ γ) (hi:γ[i]?=some (some (.own (.ins x C xs cs)))) (hj:cs[j]?=some (b,ds)) (r:Rps K (off (zof B γ σ) H) es us) :
  EnvR K H0 B (upd H b (.lst us)) σ (γ.set i (some (.own (.ins x C xs (cs.set j (b,es))))))/\Fr B H σ γ (upd H b (.lst us)) σ (γ.set i (some (.own (.ins x C xs (cs.set j (b,es)))))):=by
 obtain⟨v,hv,a,rfl,e0,e1,e2,⟨dx,e3⟩,e4,e5⟩:=env.slot i _ hi;subst e1;have hjl:j<cs.length:=(Y2.mp hj).1;have hbm:(b,ds)∈cs:=Y4 hj
 have hab:a≠b:=fun z=>by
  obtain⟨ws,w1,_⟩:=e4 _ hbm;rw[←show a=b from z,e3]at w1
  cases w1
 have em:(cs.set j (b,es)).map (·.1)=cs.map (·.1):=by
  apply Vi;intro k;rw[Yj,Yj,Vj];by_cases e:j=k
  ·subst e;rw[Yg rfl,Yg hjl,hj];rfl
  ·rw[Ye e]
 have em2:(cs.set j (b,es)).map (fun c=>V.ref c.1)=cs.map fun c=>V.ref c.1:=by
  have:=YS (List.map V.ref) em
  rw[YK,YK]at this;exact this
 have adr:∀c,(O.ins a C xs (cs.set j (b,es))).adr a c->(O.ins a C xs cs).adr a c:=fun c hc=>by
  rcases hc with hc|⟨d,hd,hc⟩
  ·exact .inl hc
  ·have:d.1∈(cs.set j (b,es)).map (·.1):=List.mem_map_of_mem hd
   rw[em]at this;obtain⟨d',q1,q2⟩:=Y7.mp this;exact .inr ⟨d',q1,hc.trans q2.symm⟩
 have zb:∀c,(O.ins a C xs cs).adr a c->zof B γ σ c:=fun c hc=>.inr ⟨i,_,a,hi,hv,hc⟩
 have So:Same (off (zof B γ σ) H) (off (zof B (γ.set i (some (.own (.ins a C xs (cs.set j (b,es)))))) σ) (upd H b (.lst us))):=fun c u h=>by
  obtain⟨q1,q2⟩:=Xa h;have nb:c≠b:=fun z=>q2 (zb c (.inr ⟨_,hbm,z⟩));refine JV (by rw[Jv nb];exact q1) fun z=>q2 ?_;rcases z with z|⟨k,fs,a',k1,k2,k3⟩
  ·exact .inl z
  ·rcases JK k1 with⟨ek,q,_⟩|⟨_,q⟩
   ·subst ek;cases q
    rw[hv]at k2;cases k2
    exact zb c (adr c k3)
   ·exact .inr ⟨k,fs,a',q,k2,k3⟩
 refine env.change hi hv (fun c u hu n=>?_) (fun c hc=>?_) (fun c hc=>.inl (adr c hc)) ⟨rfl,by rw[W4];exact e2,⟨dx,?_⟩,fun c hc=>?_,by rw[em];exact e5⟩
 ·rw[Jv fun z=>n (.inr ⟨_,hbm,z⟩)];exact hu
 ·by_cases z:c=b
  ·rw[z,J8];trivial
  ·rw[Jv z];exact env.zm c (zb c hc)
 ·rw[Jv hab,em2];exact e3
 ·obtain⟨k,hk,ek⟩:=Vb hc;have hk':(cs.set j (b,es))[k]?=some c:=by rw[ZZ hk,ek]
  rcases JK hk' with⟨_,q,_⟩|⟨nk,q⟩
  ·subst q;exact⟨us,J8,Rps.mono So r⟩
  ·obtain⟨ws,w1,w2⟩:=e4 c (Y4 q)
   have nb:c.1≠b:=fun z=>nk (by
    have h1:(cs.map (·.1))[k]?=some b:=by rw[Yj,q];exact YS some z
    have h2:(cs.map (·.1))[j]?=some b:=by rw[Yj,hj];rfl
    exact BO e5 h1 h2)
   exact⟨ws,by rw[Jv nb];exact w1,Rps.mono So w2⟩
def Dp(i j:Nat)(C:Addr)(xs:List Str)(a:PTE):PTW:=fun γ R X=>match γ[i]? with
 |some (some (.own (.ins x C' xs' cs)))=>C'=C/\xs'=xs/\∃c,cs[j]?=some c/\a γ (fun s=>match s.shd with
  |some d=>c.2.length<10000000/\R (γ.set i (some (.own (.ins x C' xs' (cs.set j (c.1,c.2++[d])))))) .non
  |none=>False) (X γ)
 |_=>False
def SW(i j:Nat){C:Addr}{f:Str}{xs:List Str}{a:PTE}(hc:Cls K C)(hn:NoAttr K C f)(hj:FldAt f xs j)(ha:SndE K mg E te a):SndW K mg E (tBM K "list" B5 (tFld K (tVar i) f) (JR te tNil)) (Dp i j C xs a):=by
 intro H0 B H σ γ R X Q hB env h q qx;unfold Dp at h;split at h
 ·rename_i x C' xs' cs hi;obtain⟨rfl,rfl,c,ec,h⟩:=h;obtain⟨v,hv,b,rfl,_,e1,e2,⟨dx,e3⟩,e4,e5⟩:=env.slot i _ hi;obtain⟨us,u1,u2⟩:=e4 c (Y4 ec);refine⟨_,hv,b,_,dx,_,V.ref c.1,rfl,e3,hc,hn,?_,.inl ⟨rfl,us,SqL.of u1⟩,ha H0 B H σ γ _ _ _ env h (fun s u H1 h1 S1 t1=>?_) fun c H' hc S'=>qx γ c H' hc (env.grow S') (Fr.grow S')⟩
  ·rw[hj _ (by rw[Ya];exact e2),Yj,ec];rfl
  ·have env1:=env.grow S1;split at h1
   ·rename_i d ed;have rd:=t1.shd env1.same env.zm S1 ed;refine⟨c.1,us,u,rfl,rfl,S1 _ _ u1,by rw[u2.len];exact WU h1.1 (by decide),?_⟩;obtain⟨k1,k2⟩:=env1.cell (es:=c.2++[d]) (us:=us++[u]) hi ec (Rps.append (Rps.mono (Jx S1 fun _ _ _ z=>z) u2) (.cons rd .nil));exact q _ _ _ _ h1.2 k1 ((Fr.grow S1).trans k2) .non
   ·exact h1.elim
 ·exact h.elim
def PutAt(f:Str)(xs:List Str):Prop:=∀(vs:List V) (y:V),xs.length=vs.length->putF f y (xs.zip vs)=(xs++[f]).zip (vs++[y])
def LK(i:Nat)(C:Addr)(f:Str)(xs:List Str)(a:PTE):PTS:=fun R γ=>a γ (fun s=>match s with
 | .own (.lst ds)=>(match γ[i]? with
  |some (some (.own (.ins x C' xs' cs)))=>C'=C/\xs'=xs/\xs.length<1000/\∀b,R.nx (γ.set i (some (.own (.ins x C' (xs++[f]) (cs++[(b,ds)])))))
  |_=>False)
 |_=>False) (R.ex γ)
def SD(i:Nat){C:Addr}{f:Str}{xs:List Str}{a:PTE}(hc:Cls K C)(hn:NoAttr K C f)(hp:PutAt f xs)(ha:SndE K mg E te a):SndS K mg E (sFld K (tVar i) te f) (LK i C f xs a):=by
 intro H0 B H σ γ R D hB env h e;refine ha H0 B H σ γ _ _ _ env h (fun s v H1 h1 S1 t1=>?_) fun c H' hc S'=>e.ex σ γ c H' hc (env.grow S') (Fr.grow S');have env1:=env.grow S1;split at h1
 ·rename_i ds;split at h1
  ·rename_i x C' xs' cs hi;obtain⟨rfl,rfl,hl,h1⟩:=h1;obtain⟨u,hv,b,rfl,e0,e1,e2,⟨dx,e3⟩,e4,e5⟩:=env.slot i _ hi;subst e1;obtain⟨l,rfl,l0,vs,l1,l2⟩:=t1;have l0:H l=none:=l0 l rfl;have na:b≠l:=JN e3 l0;refine⟨_,hv,b,_,dx,_,rfl,S1 _ _ e3,hc,hn,?_,?_⟩
   ·rw[List.length_zip,Ya];omega
   ·rw[hp _ _ (by rw[Ya];exact e2)]
    have nl:∀c∈cs,c.1≠l:=fun c hc=>by
     obtain⟨ws,w1,_⟩:=e4 c hc;exact JN w1 l0
    have nb:∀c∈cs,c.1≠b:=fun c hc z=>by
     obtain⟨ws,w1,_⟩:=e4 c hc;rw[z,e3]at w1;cases w1
    have zb:∀c,(O.ins b C' xs' cs).adr b c->zof B γ σ c:=fun c hc=>.inr ⟨i,_,b,hi,hv,hc⟩
    have key:∀c u,H1 c=some u->¬(zof B γ σ c\/c=l)->¬zof B (γ.set i (some (.own (.ins b C' (xs'++[f]) (cs++[(l,ds)]))))) σ c:=fun c u _ n z=>by
     rcases z with z|⟨k,fs,a',k1,k2,k3⟩
     ·exact n (.inl (.inl z))
     ·rcases JK k1 with⟨ek,q,_⟩|⟨_,q⟩
      ·subst ek;cases q
       rw[hv]at k2;cases k2
       rcases k3 with k3|⟨d,hd,k3⟩
       ·exact n (.inl (zb c (.inl k3)))
       ·rcases Yz.mp hd with hd|hd
        ·exact n (.inl (zb c (.inr ⟨d,hd,k3⟩)))
        ·rw[Yf]at hd;subst hd;exact n (.inr k3)
      ·exact n (.inl (.inr ⟨k,fs,a',q,k2,k3⟩))
    have So:Same (off (fun c=>zof B γ σ c\/c=l) H1) (off (zof B (γ.set i (some (.own (.ins b C' (xs'++[f]) (cs++[(l,ds)]))))) σ) (upd H1 b (.ins C' dx ((xs'++[f]).zip ((cs.map fun c=>V.ref c.1)++[.ref l]))))):=fun c u h=>by
     obtain⟨q1,q2⟩:=Xa h;exact JV (by rw[Jv fun z=>q2 (.inl (zb c (.inl z)))];exact q1) (key c u q1 q2)
    have S0:Same (off (zof B γ σ) H) (off (fun c=>zof B γ σ c\/c=l) H1):=Jx S1 fun c u hc z y=>y.elim z fun y=>by rw[y,l0]at hc;cases hc
    obtain⟨k1,k2⟩:=env.change (o':=.ins b C' (xs'++[f]) (cs++[(l,ds)])) (H':=upd H1 b (.ins C' dx ((xs'++[f]).zip ((cs.map fun c=>V.ref c.1)++[.ref l])))) hi hv
     (fun c u hu n=>by rw[Jv fun z=>n (.inl z)];exact S1 _ _ hu)
     (fun c hc=>by
      by_cases z:c=b
      ·rw[z,J8];trivial
      ·rw[Jv z];exact env1.zm c (zb c hc))
     (fun c hc=>by
      rcases hc with hc|⟨d,hd,hc⟩
      ·exact .inl (.inl hc)
      ·rcases Yz.mp hd with hd|hd
       ·exact .inl (.inr ⟨d,hd,hc⟩)
       ·rw[Yf]at hd;subst hd;exact .inr (by rw[show c=l from hc];exact l0))
     ⟨rfl,by rw[Yn,Yn,e2];rfl,⟨dx,by rw[J8,Yt];rfl⟩,fun c hc=>by
      rcases Yz.mp hc with hc|hc
      ·obtain⟨ws,w1,w2⟩:=e4 c hc;exact⟨ws,by rw[Jv (nb c hc)];exact S1 _ _ w1,Rps.mono So (Rps.mono S0 w2)⟩
      ·rw[Yf]at hc;subst hc;exact⟨vs,by rw[Jv (fun z=>na z.symm)];exact l1,Rps.mono So l2⟩,by
      rw[Yt,Wc]
      exact⟨e5,by simp,fun c hc d hd z=>by
       obtain⟨c',q1,q2⟩:=Y7.mp hc
       have:d=l:=by simpa using hd
       exact nl c' q1 (q2.trans (z.trans this))⟩⟩
    exact e.nx _ _ _ (h1 l) k1 k2
  ·exact h1.elim
 ·exact h1.elim
def IX{C:Addr}{c:Pw}{ss ss':List S}{us:List V}{R:S->Prop}{X:XR}{Q:VK}{Ec:XK}(env:EnvR K H0 B H σ γ)(S1:Same H H1)(t1:TVs K (zof B γ σ) H0 H H1 ss us)(ep:passes ss=some ss')(h1:∀x,c (.ins x C [] []) ss' (fun o' d=>d=.non/\R (.own o')) (fun _ e=>X e))(q:∀s v H',R s->Same H H'->TV K (zof B γ σ) H0 H H' s v->Q v H')(qx:∀c H',X c->Same H H'->Ec (.ref (ExcR.Jq mg c)) none H') :
  ∀x dx,H1 x=none->H1 dx=none->dx≠x->spW mg c K (.ref x::us) (upd (upd H1 dx (.own x)) x (.ins C dx [])) (fun v H2=>v=.non/\Q (.ref x) H2) Ec:=by
 have env1:=env.grow S1;intro x dx nx ndx nex
 have S2:Same H1 (upd (upd H1 dx (.own x)) x (.ins C dx [])):=fun b o e=>by
  rw[Jv (JN e nx),Jv (JN e ndx)];exact e
 have aft:∀o' H',After K (zof B γ σ) (upd (upd H1 dx (.own x)) x (.ins C dx [])) x (.ins x C [] []) o' H'->Same H1 H'/\∀b,o'.adr x b->H b=none:=fun o' H' A=>by
  refine⟨fun b o e=>A.same b o (JV (S2 b o e) fun z=>?_),fun b hb=>?_⟩
  ·rcases z with z|⟨c,hc,_⟩
   ·rw[z,nx]at e;cases e
   ·cases hc
  ·rcases A.new b hb with(z|⟨c,hc,_⟩)|z
   ·rw[z];exact S1.free nx
   ·cases hc
   ·exact S1.free (S2.free z)
 refine⟨.ins x C [] [],x,ss',us,zof B γ σ,_,_,rfl,fun b hb=>⟨UV S2 (env1.zm b hb),fun z=>?_⟩,⟨rfl,rfl,⟨dx,J8⟩,(fun c hc=>by cases hc),WD⟩,?_,Bv ep,h1 x,fun o' d v H' hR A rd=>?_,fun o' e H' hX A=>?_⟩
 ·rcases z with z|⟨c,hc,_⟩
  ·have:=env1.zm b hb
   rw[z,nx]at this;exact this
  ·cases hc
 ·refine t1.pass env1.same env.zm S1 (fun b o e=>JV (S2 _ _ (env1.same b o e)) fun z=>?_) (Jx S2 fun b o e z y=>?_) ep
  ·rcases z with z|⟨c,hc,_⟩
   ·rw[z,(env1.same).free nx]at e;cases e
   ·cases hc
  ·rcases y with y|y|⟨c,hc,_⟩
   ·exact z y
   ·rw[y,nx]at e;cases e
   ·cases hc
 ·obtain⟨rfl,hR⟩:=hR;obtain⟨k1,k2⟩:=aft o' H' A;exact⟨Rp.non_inv rd,q _ _ H' hR (S1.trans k1) ⟨x,rfl,k2,A.at_⟩⟩
 ·exact qx e H' hX (S1.trans (aft o' H' A).1)
def Rz(C:Addr)(c:Pw)(r:PTA):PTE:=fun γ R X=>r γ (fun ss=>match passes ss with|some ss'=>∀x,c (.ins x C [] []) ss' (fun o' d=>d=.non/\R (.own o')) (fun _ _=>False)|none=>False) X
def RW{C:Addr}{c:Pw}{ta:TA}{r:PTA}(hr:SndA K mg E ta r):SndE K mg E (Be C (spW mg c K) [] E0 ta) (Rz C c r):=by
 intro H0 B H σ γ R X Q env p q qx;refine hr H0 B H σ γ _ X _ env p (fun ss us H1 h1 S1 t1=>?_) qx;split at h1
 ·rename_i ss' ep;rw[Wd];exact IX (X:=fun _=>False) env S1 t1 ep h1 q fun _ _ z=>z.elim
 ·exact h1.elim
end
def len1{α:Type}{us:List α}(h:us.length=1):∃a,us=[a]:=List.length_eq_one_iff.mp h
def len2{α:Type}{us:List α}(h:us.length=2):∃a b,us=[a,b]:=by
 cases us with
 |nil=>cases h
 |cons a r=>obtain⟨b,rfl⟩:=len1 (us:=r) (by simpa using h);exact⟨a,b,rfl⟩
def len3{α:Type}{us:List α}(h:us.length=3):∃a b c,us=[a,b,c]:=by
 cases us with
 |nil=>cases h
 |cons a r=>obtain⟨b,c,rfl⟩:=len2 (us:=r) (by simpa using h);exact⟨a,b,c,rfl⟩
def len4{α:Type}{us:List α}(h:us.length=4):∃a b c d,us=[a,b,c,d]:=by
 cases us with
 |nil=>cases h
 |cons a r=>obtain⟨b,c,d,rfl⟩:=len3 (us:=r) (by simpa using h);exact⟨a,b,c,d,rfl⟩
def len5{α:Type}{us:List α}(h:us.length=5):∃a b c d e,us=[a,b,c,d,e]:=by
 cases us with
 |nil=>cases h
 |cons a r=>obtain⟨b,c,d,e,rfl⟩:=len4 (us:=r) (by simpa using h);exact⟨a,b,c,d,e,rfl⟩
structure DefM (K:Za) (W:Addr->Prop) (x q:Str) (st:Stmt) (ps:List Str):Prop where
 ex:∃f fd,Fun K x q st f fd/\W f/\Binds K fd ps []
structure CalleeM (P:Program) (w:World) (K:Za) (mg:Str->Option Value) (base:Heap) (CX:CXT) (k:Nat) (W:Addr->Prop) (ps:List Str) (sp:Sp):Prop where
 ex:∃f fd,FnOk P w K mg base CX k f fd ps sp/\W f/\Binds K fd ps []
section
variable {P:Program}{w:World}{K:Za}{mg:Str->Option Value}{base:Heap}{W:Addr->Prop}
def DefM.ok {x q:Str}{st:Stmt}{N ps:List Str}{k:Nat}{sp:Sp} (D:DefM K W x q st ps) (S:FnScope N ps (Jn st)) (len:∀vs H Q E,sp vs H Q E->vs.length=ps.length)
  (hbody:∀(f:Addr) (cdv:Value) (A:Around) (outer:List Env) (s:Shared) (H:Hp) (vs:List V) (Q:VK) (E:XK),Room k (A.deeper (envOfC q (Jn st) s.heap.objs.size f cdv))->sp vs H Q E->
   ∃t,PSs (cxOf CX0 P w K mg base N q (Jn st) f cdv A outer s H E).nox (JO st) t/\t {nx:=fun _ H'=>Q .non H',rt:=Q} (start N vs) H):CalleeM P w K mg base CX0 (k+1) W ps sp:=by
 obtain⟨f,fd,F,hm,hb⟩:=D.ex;exact⟨f,fd,F.ok S len fun cdv A outer s H vs Q E hr h=>hbody f cdv A outer s H vs Q E hr h,hm,hb⟩
def DefM.okX {x q:Str}{st:Stmt}{N ps:List Str}{k:Nat}{sp:Sp} (D:DefM K W x q st ps) (S:FnScope N ps (Jn st)) (len:∀vs H Q E,sp vs H Q E->vs.length=ps.length)
  (hbody:∀(f:Addr) (cdv:Value) (A:Around) (outer:List Env) (s:Shared) (H:Hp) (vs:List V) (Q:VK) (E:XK),Room k (A.deeper (envOfC q (Jn st) s.heap.objs.size f cdv))->sp vs H Q E->
   ∃t,PSs (cxOf (ExcR.CXe P w) P w K mg base N q (Jn st) f cdv A outer s H E) (JO st) t/\t {nx:=fun _ H'=>Q .non H',rt:=Q} (start N vs) H):CalleeM P w K mg base (ExcR.CXe P w) (k+1) W ps sp:=by
 obtain⟨f,fd,F,hm,hb⟩:=D.ex;obtain⟨oc,od,kV,doc,pm,an,cdv,ct,osl,rfl,lk,hcd⟩:=F.ex;exact⟨f,_,Ni lk hcd S len fun A outer s H vs Q E hr hsp=>hbody f cdv A outer s H vs Q E hr hsp,hm,hb⟩
def TX{X:Cx}:UB (ExcR.CXe P w) X E0:=fun _ _ _ _ _ _ _ h=>by
 obtain⟨a,T,C,H',_,_,z⟩:=h;exact z.elim
end
section
variable {X:Cx}{CX:CXT}{k:Nat}{Cc:Addr}{ps:List Str}{sp:Sp}{E:XK}{ES:L2.St->XK}{x m:Str}{p pos apos:Pos}{e o:Expr}{es:List Expr}{ta:TE}{t:TA}
def FV{pl:Sem Bool}(C:CalleeM X.prog X.w X.K X.mg X.base CX k (Meth X.K Cc m) ps sp)(c:Cls X.K Cc)(hr:Room k X.A)(hx:UB CX X E)(he:PE X o ta)(ha:PA X (e::es) t)(hst:starEach (e::es) X.env=(false,eval e X.env)::starEach es X.env:=by rfl)(hpl:(backTo pos (starEach es X.env)).any (·.1)=false:=by rfl)
  (ht:eval (.Call (.Attribute o m apos) (e::es) [] pos) X.env=(do
   let ov ←eval o X.env
   standAt apos.atName
   let (f,first) ←holding [ov] (getMethod ov m pl)
   callWith pos f first (backTo pos (starEach (e::es) X.env)) (backToKw pos (keywordEach [] X.env))):=by rfl) :
  PE X (.Call (.Attribute o m apos) (e::es) [] pos) (XI Cc m sp [] E ta t):=by
 obtain⟨f,fd,F,hm,hb⟩:=C.ex;exact LP he c hm F hr hb .nil hx ha hst hpl ht
def Uq{pl:Sem Bool}(C:CalleeM X.prog X.w X.K X.mg X.base CX k (Meth X.K Cc m) ps sp)(c:Cls X.K Cc)(hr:Room k X.A)(hx:UB CX X E)(he:PE X o ta)
  (ht:eval (.Call (.Attribute o m apos) [] [] pos) X.env=(do
   let ov ←eval o X.env
   standAt apos.atName
   let (f,first) ←holding [ov] (getMethod ov m pl)
   callWith pos f first (backTo pos (starEach [] X.env)) (backToKw pos (keywordEach [] X.env))):=by rfl) :
  PE X (.Call (.Attribute o m apos) [] [] pos) (XI Cc m sp [] E ta tNil):=by
 obtain⟨f,fd,F,hm,hb⟩:=C.ex;exact Zac he c hm F hr hb .nil hx ht
def Ml(C:CalleeM X.prog X.w X.K X.mg X.base CX k (Mk X.K Cc) ps sp)(hm:X.mg x=some (.ref Cc))(hr:Room (k+1) X.A)(hx:UB CX X E)(ha:PA X (e::es) t)(hg:Gl X x:=by rfl)(hdb:(x==("__debug__" : Str))=false:=by decide)(he:starEach (e::es) X.env=(false,eval e X.env)::starEach es X.env:=by rfl)(hpl:(backTo pos (starEach es X.env)).any (·.1)=false:=by rfl) :
  PE X (.Call (.Name x p) (e::es) [] pos) (Be Cc sp [] E t):=by
 obtain⟨f,fd,F,M,hb⟩:=C.ex;exact Zaj M F hr hg hm hb .nil hx ha hdb he hpl
end
abbrev PTF:=Γ->Str->(Str->Prop)->XR->Prop
section
variable {K:Za}{mg:Str->Option Value}{E:L2.St->XK}{t:ExcR.TF}{p:PTF}{te:TE}{a:PTE}
def SndF(K:Za)(mg:Str->Option Value)(E:L2.St->XK)(t:ExcR.TF)(p:PTF):Prop:=∀(H0:Hp) (B:Addr->Prop) (H:Hp) (σ:L2.St) (γ:Γ) (out:Str) (R:Str->Prop) (X:XR) (Q:Str->Hp->Prop),EnvR K H0 B H σ γ->p γ out R X->
 (∀x H',R x->Same H H'->Q x H')->(∀c H',X c->Same H H'->E σ (.ref (ExcR.Jq mg c)) none H')->t σ H out Q
def Ig:PTF:=fun _ out R _=>out.length<=sizeLine/\R out
def KB:SndF K mg E ExcR.fNil Ig:=fun H0 B H σ γ out R X Q env h q _=>⟨h.1,q _ H h.2 (Same.refl _)⟩
def IU(x:Str)(p:PTF):PTF:=fun γ out R X=>(out++x).length<=sizeLine/\p γ (out++x) R X
def X5{x:Str}(h:SndF K mg E t p):SndF K mg E (ExcR.fStr x t) (IU x p):=fun H0 B H σ γ out R X Q env hp q qx=>⟨hp.1,h H0 B H σ γ _ R X Q env hp.2 q qx⟩
def Zaw(a:PTE)(p:PTF):PTF:=fun γ out R X=>a γ (fun s=>match s.d with
 | .int i=>i.natAbs.log2<1920/\(out++(Str.ofString (toString i))).length<=sizeLine/\p γ (out++Str.ofString (toString i)) R X
 | .str x=>x.length<=sizeLine/\(out++x).length<=sizeLine/\p γ (out++x) R X
 |_=>False) X
def Pk(ha:SndE K mg E te a)(h:SndF K mg E t p):SndF K mg E (ExcR.fVal te t) (Zaw a p):=fun H0 B H σ γ out R X Q env hp q qx=>by
 refine ha H0 B H σ γ _ X _ env hp (fun s v H1 h1 S1 t1=>?_) qx;have env1:=env.grow S1;have rs:=t1.rp env1.same;split at h1
 ·rename_i i ei;rw[ei]at rs;exact .inl ⟨i,rs.int_inv,h1.1,h1.2.1,h H0 B H1 σ γ _ R X Q env1 h1.2.2 (fun x H' hx S'=>q x H' hx (S1.trans S')) fun c H' hc S'=>qx c H' hc (S1.trans S')⟩
 ·rename_i x ex;rw[ex]at rs;exact .inr ⟨x,rs.str_inv,h1.1,h1.2.1,h H0 B H1 σ γ _ R X Q env1 h1.2.2 (fun x H' hx S'=>q x H' hx (S1.trans S')) fun c H' hc S'=>qx c H' hc (S1.trans S')⟩
 ·exact h1.elim
def pF(p:PTF):PTE:=fun γ R X=>p γ Str.empty (fun x=>R (.sh (.str x))) X
def se_f(h:SndF K mg E t p):SndE K mg E (ExcR.tF t) (pF p):=fun H0 B H σ γ R X Q env hp q qx=>
 h H0 B H σ γ _ _ X _ env hp (fun x H' hx S'=>q _ _ H' hx S' (.str x)) qx
end
open M
abbrev plD(f:List (Int×Int)):D:=.lst (f.map prD)
abbrev dD(q:Str×List Int):D:=.tup (.str q.1::q.2.map D.int)
abbrev vF:List Str:=["book","fields","wished"]
abbrev vO(C x b1 b2 b3:Addr)(bk:List (Str×List Int))(fs ws:List (List (Int×Int))):O:=.ins x C vF [(b1,bk.map dD),(b2,fs.map plD),(b3,ws.map plD)]
abbrev vilD(C:Addr)(bk:List (Str×List Int))(fs ws:List (List (Int×Int))):D:=.ins C vF [.lst (bk.map dD),.lst (fs.map plD),.lst (ws.map plD)]
def TL{α:Type}(f:α->D)(xs:List α)(x:α):atI ((xs++[x]).map f) (-1)=some (f x):=by
 refine Xi ?_;unfold atI ixN;rw[Ye (by omega),Yg (by rw[Yn,YZ];omega)];show(xs++[x])[_]?=some x;have e:((-1:Int)+((xs++[x]).length:Int)).toNat=xs.length:=by rw[Yn,YZ];omega
 rw[e,Wn (Yi _),Nat.sub_self];rfl
def Xl(e:Option Str)(X:Str->Prop)(R:Prop):Prop:=match e with|some c=>X c|none=>R
def KF(h:Int):Option Str:=if 1<=h/\h<=10 then none else some "BadHolder"
def Xx:List (Int×Int)->Option Str
 |[]=>none
 |q::r=>if ¬(1<=q.1/\q.1<=10)then some "BadHolder" else if ¬(1<=q.2/\q.2<=1000)then some "BadWidth" else Xx r
def K7(ps:List (Int×Int)):Option Str:=if 40<ps.length then some "TooManyStrips" else Xx ps
def BP:∀{ps:List (Int×Int)},Field ps->Xx ps=none
 |[],_=>rfl
 |q::r,h=>by
  obtain⟨h1,h2,h3,h4⟩:=h q Yy;unfold Xx;rw[Ye (fun z=>z ⟨h1,h2⟩),Ye (fun z=>z ⟨h3,h4⟩)];exact BP fun x hx=>h x (Yu _ hx)
def LQ{ps:List (Int×Int)}(h:Field ps)(hl:ps.length<=40):K7 ps=none:=by
 unfold K7;rw[Ye (by omega)];exact BP h
def Rx(q:Int×Int)(r:List (Int×Int)):Xx (q::r)=if ¬(1<=q.1/\q.1<=10)then some ("BadHolder" : Str)else if ¬(1<=q.2/\q.2<=1000)then some ("BadWidth" : Str)else Xx r:=rfl
section
variable {K:Za}{mg:Str->Option Value}{E:L2.St->XK}
def FH(i:Nat)(a:PTE):PTS:=fun R γ=>match γ[i]? with
 |some (some (.own (.lst ds)))=>a γ (fun s=>match s.shd with
  |some (.lst es)=>ds.length+es.length<=10000000/\R.nx (γ.set i (some (.own (ds++es))))
  |_=>False) (R.ex γ)
 |_=>False
def Ip(i:Nat){te:TE}{a:PTE}(ha:SndE K mg E te a):SndS K mg E (KC (tBM K "list" Ab (tVar i) (JR te tNil))) (FH i a):=by
 intro H0 B H σ γ R D hB env h e;unfold FH at h;split at h
 ·rename_i ds hi;obtain⟨v,hv,b,rfl,hb0,us,hb,rb⟩:=env.slot i _ hi;refine⟨_,hv,.inl ⟨rfl,us,SqL.of hb⟩,ha H0 B H σ γ _ _ _ env h (fun s u H1 h1 S1 t1=>?_) fun c H' hc S'=>e.ex σ γ c H' hc (env.grow S') (Fr.grow S')⟩;have env1:=env.grow S1;split at h1
  ·rename_i es e2;have rd:=t1.shd env1.same env.zm S1 e2;obtain⟨a',vs,rfl,ha',rvs⟩:=Rp.lst_inv rd;refine⟨b,a',us,vs,rfl,rfl,S1 _ _ hb,off_sub _ _ ha',by rw[rb.len,rvs.len];exact Yx h1.1 (by decide),?_⟩;obtain⟨e2,f2⟩:=env1.mutate (es:=.lst (ds++es)) (us:=.lst (us++vs)) hi hv trivial fun F H' SF hF=>⟨_,hF,Rps.mono SF (Rps.append (Rps.mono (Jx S1 fun _ _ _ z=>z) rb) rvs)⟩;exact e.nx _ _ _ h1.2 e2 ((Fr.grow S1).trans f2)
  ·exact h1.elim
 ·exact h.elim
end
def AW:∀{a b:List Int},sl a b->¬sl b a
 |[],_,h,_=>by cases h
 |_::_,[],h,_=>by cases h
 |a::r,b::t,h,k=>by
  rcases h with h|⟨e,h⟩
  ·rcases k with k|⟨e,_⟩<;>omega
  ·rcases k with k|⟨_,k⟩
   ·omega
   ·exact AW h k
def Best.uniq {ws:List (Int×Int)}{c:Int->Int->Int}{ms o p:List Int} (h:Best ws c ms o) (k:Best ws c ms p):o=p:=by
 have e:oc c p=oc c o:=by
  have h1:=h.le p k.perm k.keeps;have h2:=k.le o h.perm h.keeps;omega
 rcases h.first p k.perm k.keeps e with z|z
 ·exact z
 ·rcases k.first o h.perm h.keeps e.symm with y|y
  ·exact y.symm
  ·exact absurd y (AW z)
end Pu
namespace Own
open PySem PySem.Spec PyProof.Rows L2
section
variable {prog:Program}{w:World}{A:Around}{s:Shared}{E:Value->Shared->Prop}
def gotH(hp:Heap)(vs:List Value):Heap:=
 (hp.push (seqObj "list" #[] 0)).update hp.objs.size
  (Obj.mapSeq (·++vs.toArray))
def M3{hp:Heap}{vs:List Value}{b:Addr}{o:Obj}(g:hp.get? b=some o):(gotH hp vs).get? b=some o:=by
 unfold gotH;rw[Heap.get?_update_ne _ _ _ _ (Y6 (Yk g))];exact Yc _ g
end
end Own
namespace Pu
open PySem PySem.Spec PyProof.Rows L2 Own M
def Xg(ws:List (Int×Int))(a b:Int):Option Str:=if ¬(1<=a/\a<=10)then some "BadHolder" else if ¬(1<=b/\b<=10)then some "BadHolder" else if a=b then some "LikeHolders" else if (a,b)∈ws then some "WishStands" else if 20<=ws.length then some "TooManyWishes" else none
def Gj{ws:List (Int×Int)}{a b:Int}(h:X8 ws)(e:Xg ws a b=none):X8 (ws++[(a,b)]):=by
 unfold Xg at e;split at e
 ·cases e
 split at e
 ·cases e
 split at e
 ·cases e
 split at e
 ·cases e
 split at e
 ·cases e
 rename_i c1 c2 c3 c4 c5;obtain⟨h1,h2,h3⟩:=h;have k1:=Vm.mp c1;have k2:=Vm.mp c2;refine⟨by rw[Yn,YZ];omega,?_,fun q hq=>?_⟩
 ·rw[Wc];exact⟨h2,by simp,fun x hx y hy z=>by rw[Yf]at hy;subst hy;exact c4 (z▸hx)⟩
 ·rcases Yz.mp hq with hq|hq
  ·exact h3 q hq
  ·rw[Yf]at hq;subst hq;exact⟨⟨k1.1,k1.2,k2.1,k2.2⟩,c3⟩
def EV:X8 []:=⟨by decide,WD,fun q hq=>by cases hq⟩
def Na(m:List Int)(k:Int):Int:=1+(k*m.getD 1 0+m.getD 2 0) % 10
def E1{m:List Int}(hM:Menu m){x y:Int}(hx:0<=x/\x<=9)(hy:0<=y/\y<=9)(h:x≠y):Na m x≠Na m y:=by
 obtain⟨a,b,c,d,e,rfl,ha,⟨_,_,hb⟩,hc,hd,he⟩:=hM;intro z;apply h;have z':1+(x*b+c) % 10=1+(y*b+c) % 10:=z;rcases hb with rfl|rfl|rfl|rfl<;>omega
def two_ne{o r p:Int}(h1:0<=o/\o<p)(h2:0<=r/\r<p-1):(0<=(o+1+r) % p/\(o+1+r) % p<p)/\o≠(o+1+r) % p:=by
 refine⟨⟨Qd _ (by omega),WJ _ (by omega)⟩,?_⟩;by_cases h:o+1+r<p
 ·rw[Int.emod_eq_of_lt (by omega) h];omega
 ·rw[←Int.sub_emod_right,Int.emod_eq_of_lt (by omega) (by omega)];omega
def FS{ws:List (Int×Int)}{a b:Int}(h1:1<=a/\a<=10)(h2:1<=b/\b<=10)(h3:a≠b)(h4:(a,b)∉ws)(h5:ws.length<20):Xg ws a b=none:=by
 unfold Xg;rw[Ye (fun z=>z h1),Ye (fun z=>z h2),Ye h3,Ye h4,Ye (by omega)]
def K0(ps:List (Int×Int))(os:List Int):Option Str:=if os.isPerm (Jp ps)=true then none else some "BadOrder"
def A5{ps:List (Int×Int)}{os:List Int}(h:os.Perm (Jp ps)):K0 ps os=none:=by
 unfold K0;rw[Yg (List.isPerm_iff.mpr h)]
def MK{ps:List (Int×Int)}{os ns:List Int}(h1:ns.Perm os)(h2:ns.Pairwise (·<=·)):(ns=Jp ps)↔os.isPerm (Jp ps)=true:=by
 rw[List.isPerm_iff];exact⟨fun z=>z▸h1.symm,fun z=>Mg z h1 h2⟩
def L8{ws:List (Int×Int)}(h:X8 ws){i:Nat}(hi:i<ws.length):Xg (ws.take i) ws[i].1 ws[i].2=none:=by
 obtain⟨⟨h1,h2,h3,h4⟩,h5⟩:=h.2.2 ws[i] (Yr hi);refine FS ⟨h1,h2⟩ ⟨h3,h4⟩ h5 (fun z=>?_) (by rw[YD];have:=h.1;omega);obtain⟨j,hj,e⟩:=YJ.mp z;rw[YD]at hj;rw[WQ]at e
 have:=(QH (h₀:=by omega) (h₁:=hi) h.2.1).mp (e.trans rfl)
 omega
abbrev d3(k:Str)(a b:Int):D:=.tup [.str k,.int a,.int b]
end Pu
namespace M
open PySem PySem.Spec PyProof.Rows L2 Own Pu
def MP(c:Int->Int->Int):∀o:List Int,oc c o.reverse=oc (fun x y=>c y x) o
 |[]=>rfl
 |a::r=>by
  rw[Vk,T6,MP c r,Kv (List.reverse_perm r)];simp only[oc];omega
def A8(ps:List (Int×Int)):∀o:List Int,oc (fun x y=>pcM ps x y ps.length) o=ordM ps ps.length o
 |[]=>rfl
 |a::r=>by
  unfold oc ordM;rw[A8 ps r]
def Nm{ps:List (Int×Int)}{o:List Int}(hF:Field ps)(h:o.Perm (Jp ps)):oc (fun x y=>pcM ps x y ps.length) o=priM ps o ps.length:=by
 rw[A8];refine Ek (h.nodup_iff.mpr ((UN ps).imp (fun h=>WK h))) ps.length fun j hj=>?_;rw[Yd,ZZ hj];exact h.mem_iff.mpr ((K4 hF).mpr (Y7.mpr ⟨_,Yr hj,rfl⟩))
def B8{ps:List (Int×Int)}{o:List Int}(hF:Field ps)(h:o.Perm (Jp ps)):∀p∈ps,p.1∈o:=fun p hp=>h.mem_iff.mpr ((K4 hF).mpr (Y7.mpr ⟨p,hp,rfl⟩))
end M
namespace Pu
open PySem PySem.Spec PyProof.Rows L2 Own
structure DI (K:Za) (x:Str) (st:Stmt):Prop where
 ex:∃f fd,PySem.W.nsIn K mainGlobals x=some (some (.ref f))/\Fun K x x st f fd
structure MI (K:Za) (C:Addr) (m q:Str) (st:Stmt):Prop where
 ex:∃f fd,PySem.W.findIn K (.ref C) m=some (some (.ref f))/\PySem.W.isFn K (.ref f)=true/\Fun K m q st f fd
section
variable {K:Za}{h:Heap}{mg:Str->Option Value}
def di{x:Str}{st:Stmt}{f:Addr}{oc:Value}{od an:Option Addr}{osl:Array (Option Value)}{kV doc pm cdv ct:Value}(a:PySem.W.nsIn K mainGlobals x=some (some (.ref f)))(l:K.lookup f=some ⟨oc,od,.func (PySem.W.fnOf x x (UH st) (JO st) (Jn st) .none kV doc pm an cdv ct),osl⟩)(c:PySem.W.codeIn K cdv x=true)(k:PySem.W.keepIn K (.ref f)=true):DI K x st:=⟨f,_,a,N5 l c k⟩
def mi{C:Addr}{m q:Str}{st:Stmt}{f:Addr}{oc:Value}{od an:Option Addr}{osl:Array (Option Value)}{kV doc pm cdv ct:Value}(a:PySem.W.findIn K (.ref C) m=some (some (.ref f)))(i:PySem.W.isFn K (.ref f)=true)(l:K.lookup f=some ⟨oc,od,.func (PySem.W.fnOf m q (UH st) (JO st) (Jn st) .none kV doc pm an cdv ct),osl⟩)(c:PySem.W.codeIn K cdv q=true)(k:PySem.W.keepIn K (.ref f)=true):MI K C m q st:=⟨f,_,a,i,N5 l c k⟩
def DI.d {x:Str}{st:Stmt}{ps:List Str} (D:DI K x st) (X:K.In h) (G0:h.Ns mainGlobals mg)
  (b:∀(kV doc pm:Value) (an:Option Addr) (cdv ct:Value) (us:List Value),us.length=ps.length->bindArgs (PySem.W.fnOf x x (UH st) (JO st) (Jn st) .none kV doc pm an cdv ct) ⟨us,[]⟩=pure (ps.zip us)):Def K mg x st ps:=
 let ⟨_,_,a,F⟩:=D.ex
 ⟨_,_,F,Wu X G0 a,F.binds b⟩
def MI.d {C C':Addr}{m q:Str}{st:Stmt}{ps:List Str} (D:MI K C m q st) (e:C'=C)
  (b:∀(kV doc pm:Value) (an:Option Addr) (cdv ct:Value) (us:List Value),us.length=ps.length->bindArgs (PySem.W.fnOf m q (UH st) (JO st) (Jn st) .none kV doc pm an cdv ct) ⟨us,[]⟩=pure (ps.zip us)):DefM K (Meth K C' m) m q st ps:=
 let ⟨_,_,a,i,F⟩:=D.ex
 ⟨_,_,F,by rw[e];exact⟨a,i,F.kp⟩,F.binds b⟩
def MI.i {C C':Addr}{q:Str}{st:Stmt}{ps:List Str} (D:MI K C "__init__" q st) (e:C'=C) (mk:PySem.W.makesIn K C=true) (kc:PySem.W.keepIn K (.ref C)=true)
  (b:∀(kV doc pm:Value) (an:Option Addr) (cdv ct:Value) (us:List Value),us.length=ps.length->bindArgs (PySem.W.fnOf "__init__" q (UH st) (JO st) (Jn st) .none kV doc pm an cdv ct) ⟨us,[]⟩=pure (ps.zip us)):DefM K (Mk K C') "__init__" q st ps:=
 let ⟨_,_,a,i,F⟩:=D.ex
 ⟨_,_,F,by rw[e];exact⟨mk,a,i,kc⟩,F.binds b⟩
end
def fs{N P:List Str}{sc:Scope}(h1:sc.kind=.function:=by rfl)(h2:sc.isCoroutine=false:=by rfl)(h3:sc.isGenerator=false:=by rfl)(h4:N.Nodup:=by decide +kernel)(h5:N.take P.length=P:=by rfl)(h6:∀x∈P,sc.names.lookup x=some .local\/sc.names.lookup x=some .cell:=by decide +kernel)(h7:∀y∈sc.names,y.2≠.free:=by decide +kernel):FnScope N P sc:=⟨h1,h2,h3,h4,h5,h6,h7⟩
def pz{X:Cx}{pos:Pos}{x:Str}{e:Expr}{te:TE}{pos':Pos}(i:Nat)(hN:X.N.Nodup)(he:PE X e te)(hi:X.N[i]?=some x:=by rfl)(hx:Loc X.env.scope x:=by first|exact Or.inl rfl|exact Or.inr rfl)(hs:swapsWith e (some (.Name x pos')) pos.line X.env=pure false:=by rfl)(hf:X.fn x=true\/X.env.scope.names.lookup x=some .local:=by first|exact .inl rfl|exact .inr rfl|assumption) :
  PS X (.Assign [.Name x pos'] e pos) (tAsg te (XH i)):=Ld hN hi hx he hs hf
section
variable {K:Za}{mg:Str->Option Value}{E:L2.St->XK}{H0 H H1 H':Hp}{B Z Z':Addr->Prop}{σ:L2.St}{γ:Γ}
def two(o1 o2:O)(a1 a2:Addr):Addr->Prop:=fun b=>o1.adr a1 b\/o2.adr a2 b
end
end Pu
namespace M
open PySem PySem.Spec PyProof.Rows L2 Own Pu
def ltS(k:Int):List (Int×Int)->Int
 |[]=>0
 |q::l=>(if q.1<k then q.2 else 0)+ltS k l
def gtS(k:Int):List (Int×Int)->Int
 |[]=>0
 |q::l=>(if k<q.1 then q.2 else 0)+gtS k l
def invL:List (Int×Int)->Int
 |[]=>0
 |p::l=>ltS p.1 l*p.2+invL l
def F7(k:Int)(a b:Int×Int)(B:List (Int×Int)):∀A:List (Int×Int),ltS k (A++a::b::B)=ltS k (A++b::a::B)
 |[]=>by simp only[List.nil_append,ltS];omega
 |q::A=>by simp only[Wr,ltS];rw[F7 k a b B A]
def Dv(a b:Int×Int)(B:List (Int×Int)):∀A:List (Int×Int),invL (A++a::b::B)+(if a.1<b.1 then a.2*b.2 else 0)=invL (A++b::a::B)+(if b.1<a.1 then a.2*b.2 else 0)
 |[]=>by
  simp only[List.nil_append,invL,ltS];rw[QE,QE];by_cases h1:a.1<b.1
  ·rw[Yg h1,Ye (by omega:¬b.1<a.1),Yg h1,Ye (by omega:¬b.1<a.1)];omega
  ·rw[Ye h1];by_cases h2:b.1<a.1
   ·rw[Yg h2,Ye h1,Yg h2,Int.mul_comm b.2 a.2];omega
   ·rw[Ye h2,Ye h1,Ye h2];omega
 |q::A=>by
  simp only[Wr,invL];rw[F7 q.1 a b B A]
  have:=Dv a b B A
  omega
def Fe{k:Int}:∀{l:List (Int×Int)},(∀q∈l,k<=q.1)->ltS k l=0
 |[],_=>rfl
 |q::l,h=>by
  unfold ltS;rw[Ye (by have:=h q Yy;omega),Fe fun x hx=>h x (Yu _ hx)];rfl
def PJ:∀{l:List (Int×Int)},l.Pairwise (fun x y=>x.1<=y.1)->invL l=0
 |[],_=>rfl
 |p::l,h=>by
  obtain⟨h1,h2⟩:=YN.mp h;unfold invL;rw[Fe h1,PJ h2,Int.zero_mul];rfl
def FR(k:Int)(p:Int×Int):∀l:List (Int×Int),ltS k (l++[p])=ltS k l+(if p.1<k then p.2 else 0)
 |[]=>by simp[ltS]
 |q::l=>by simp only[Wr,ltS];rw[FR k p l];omega
def Fk(k:Int)(p:Int×Int):∀l:List (Int×Int),gtS k (l++[p])=gtS k l+(if k<p.1 then p.2 else 0)
 |[]=>by simp[gtS]
 |q::l=>by simp only[Wr,gtS];rw[Fk k p l];omega
def DE(p:Int×Int):∀l:List (Int×Int),invL (l++[p])=invL l+gtS p.1 l*p.2
 |[]=>by simp[invL,ltS,gtS]
 |q::l=>by
  simp only[Wr,invL,gtS];rw[FR,DE p l,QE,QE];by_cases h:p.1<q.1
  ·rw[Yg h,Yg h,Int.mul_comm p.2 q.2];omega
  ·rw[Ye h,Ye h];omega
def UP(os:List Int)(ps:List (Int×Int)):List (Int×Int):=ps.map fun q=>((os.idxOf q.1:Nat),q.2)
def Fs(ps:List (Int×Int))(os:List Int)(h:Int):∀n,n<=ps.length->rsM ps os h n=gtS (os.idxOf h:Nat) (UP os (ps.take n))
 | 0,_=>by simp[rsM,gtS,UP]
 |n+1,hn=>by
  unfold rsM UP;rw[Fs ps os h n (by omega),Y1 (by omega),Yt,Qe,Fk,Yd,ZZ (show n<ps.length by omega)];show _+(if os.idxOf h<os.idxOf ps[n].1 then ps[n].2 else 0)=_+(if ((os.idxOf h:Nat):Int)<((os.idxOf ps[n].1:Nat):Int)then ps[n].2 else 0);by_cases c:os.idxOf h<os.idxOf ps[n].1
  ·rw[Yg c,Yg (by omega)];rfl
  ·rw[Ye c,Ye (by omega)];rfl
def A0(ps:List (Int×Int))(os:List Int):∀n,n<=ps.length->priM ps os n=invL (UP os (ps.take n))
 | 0,_=>by simp[priM,invL,UP]
 |n+1,hn=>by
  unfold priM;rw[A0 ps os n (by omega),Fs ps os _ n (by omega),Yd,ZZ (show n<ps.length by omega)];rw[Y1 (show n<ps.length by omega)];show _=invL (List.map _ (ps.take n++[ps[n]]));rw[Yt,Qe,DE];rfl
def IT(ps:List (Int×Int))(os:List Int):priM ps os ps.length=invL (UP os ps):=by
 rw[A0 ps os _ (Yi _),Wh]
def wdN(ps:List (Int×Int))(m:Int):Int:=(ps.getD (m-1).toNat (0,0)).2
def hdN(ps:List (Int×Int))(m:Int):Int:=(ps.getD (m-1).toNat (0,0)).1
def keyL(ps:List (Int×Int))(f:Int->Int)(ns:List Int):List (Int×Int):=ns.map fun m=>(f m,wdN ps m)
def Oc{ns:List Int}{p:Nat}(h1:1<=p)(h2:p<ns.length):∃A x y B,ns=A++x::y::B/\A.length+1=p/\Ur ns p=A++y::x::B/\ns.getD (p-1) 0=x/\ns.getD p 0=y:=by
 have h3:ns.drop (p-1)=ns[p-1]'(by omega)::ns.drop (p-1+1):=YX (by omega);have h4:ns.drop p=ns[p]::ns.drop (p+1):=YX h2;have h5:p-1+1=p:=by omega
 rw[h5,h4]at h3;have e1:ns.getD p 0=ns[p]:=by rw[Yd,ZZ h2];rfl
 have e2:ns.getD (p-1) 0=ns[p-1]'(by omega):=by rw[Yd,ZZ (by omega)];rfl
 refine⟨ns.take (p-1),ns[p-1]'(by omega),ns[p],ns.drop (p+1),by rw[←h3,QL],by rw[YD];omega,?_,e2,e1⟩;unfold Ur;rw[e1,e2];simp
def Hf{ns:List Int}{p:Nat}(h1:1<=p)(h2:p<ns.length):(Ur ns p).length=ns.length:=(Fz h1 h2).length_eq
def rkN(ps:List (Int×Int))(o:List Int)(m:Int):Int:=(o.idxOf (hdN ps m):Nat)
def numN(ps:List (Int×Int))(h:Int):List Int:=((List.range ps.length).filter fun i=>decide ((ps.getD i (0,0)).1=h)).map fun i:Nat=>0+(i:Int)+1
def R8{ps:List (Int×Int)}{h x:Int}:x∈numN ps h↔(1<=x/\x<=ps.length)/\hdN ps x=h:=by
 unfold numN hdN;rw[Y7];constructor
 ·rintro⟨i,hi,rfl⟩;obtain⟨h1,h2⟩:=Y9.mp hi
  have:=Wj.mp h1
  refine⟨by omega,?_⟩;rw[show(0+(i:Int)+1-1).toNat=i by omega];exact Ys h2
 ·rintro⟨h1,h2⟩;exact⟨(x-1).toNat,Y9.mpr ⟨Wj.mpr (by omega),Yh h2⟩,by omega⟩
def CO(ps:List (Int×Int))(h:Int):(numN ps h).Pairwise (· < ·):=by
 unfold numN;rw[YW];exact(List.pairwise_lt_range.filter _).imp fun {a b} hab=>by omega
def MY(n:Nat):(runI 1 n).Nodup:=by
 unfold runI;exact Vl _ (fun a b (h:a≠b) z=>h (by omega)) List.nodup_range
def RB{ps:List (Int×Int)}{o G mine:List Int}{i:Nat}(nd:o.Nodup)(hi:i<o.length)(g1:G.Nodup)(g2:∀x,x∈G↔(1<=x/\x<=ps.length)/\hdN ps x∈o.take i)(hm:mine.Perm (numN ps o[i])) :
  (G++mine).Nodup/\(∀x,x∈G++mine↔(1<=x/\x<=ps.length)/\hdN ps x∈o.take (i+1))/\(∀x∈G,∀y∈mine,rkN ps o x<rkN ps o y)/\∀y∈mine,rkN ps o y=i:=by
 have hmem:∀x,x∈mine↔(1<=x/\x<=ps.length)/\hdN ps x=o[i]:=fun x=>hm.mem_iff.trans R8
 have hni:o[i]∉o.take i:=fun z=>by
  obtain⟨j,hj,e⟩:=YJ.mp z;rw[YD]at hj;rw[WQ]at e
  have:=(QH (h₀:=by omega) (h₁:=hi) nd).mp e
  omega
 have hr:∀y∈mine,rkN ps o y=i:=fun y hy=>by
  unfold rkN;rw[((hmem y).mp hy).2,nd.idxOf_getElem i hi]
 have hl:∀x∈G,rkN ps o x<i:=fun x hx=>by
  obtain⟨j,hj,e⟩:=YJ.mp ((g2 x).mp hx).2;rw[YD]at hj;rw[WQ]at e;unfold rkN;rw[←e,nd.idxOf_getElem j (by omega)];omega
 refine⟨Wc.mpr ⟨g1,hm.symm.nodup ((CO ps _).imp fun h=>WK h),fun x hx y hy z=>?_⟩,fun x=>?_,fun x hx y hy=>?_,hr⟩
 ·subst z
  have:=((g2 x).mp hx).2
  rw[((hmem x).mp hy).2]at this;exact hni this
 ·rw[Yz,g2 x,hmem x,Y1 hi,Yz,Yf];constructor
  ·rintro(⟨h1,h2⟩|⟨h1,h2⟩)
   ·exact⟨h1,.inl h2⟩
   ·exact⟨h1,.inr h2⟩
  ·rintro⟨h1,h2|h2⟩
   ·exact .inl ⟨h1,h2⟩
   ·exact .inr ⟨h1,h2⟩
 ·have:=hl x hx
  rw[hr y hy];exact this
def triN:Nat->Nat
 | 0=>0
 |k+1=>triN k+k
def M0:∀n,n<41->triN n<=780:=by decide
def Rj{goal ns:List Int}(nd:goal.Nodup)(hp:ns.Perm goal)(hs:ns.Pairwise fun x y=>goal.idxOf x<=goal.idxOf y):ns=goal:=by
 have nd2:ns.Nodup:=hp.symm.nodup nd;have hl:=hp.length_eq
 have r1:(ns.map fun x=>((goal.idxOf x:Nat):Int)).Pairwise (· < ·):=by
  rw[YW,YE];intro i j hi hj hij;have h1:=YE.mp hs i j hi hj hij
  have h2:goal.idxOf ns[i]≠goal.idxOf ns[j]:=fun e=>by
   have m1:=hp.mem_iff.mp (Yr hi);have m2:=hp.mem_iff.mp (Yr hj);have g1:=YO (YV.mpr m1);have g2:=YO (YV.mpr m2)
   have:ns[i]=ns[j]:=by rw[←g1,←g2];congr 1
   have:=(QH (h₀:=hi) (h₁:=hj) nd2).mp this
   omega
  omega
 have r2:(goal.map fun x=>((goal.idxOf x:Nat):Int)).Pairwise (· < ·):=by
  rw[YW,YE];intro i j hi hj hij;rw[nd.idxOf_getElem i hi,nd.idxOf_getElem j hj];omega
 have e:=Nv r1 r2 fun z=>(hp.map _).mem_iff;refine QJ hl fun i h1 h2=>?_;have e1:(ns.map fun x=>((goal.idxOf x:Nat):Int))[i]?=(goal.map fun x=>((goal.idxOf x:Nat):Int))[i]?:=by rw[e]
 rw[Yj,Yj,ZZ h1,ZZ h2]at e1;have e2:((goal.idxOf ns[i]:Nat):Int)=((goal.idxOf goal[i]:Nat):Int):=Yl e1;have e3:goal.idxOf ns[i]=goal.idxOf goal[i]:=by omega
 have m1:=hp.mem_iff.mp (Yr h1);have g1:=YO (YV.mpr m1);have g2:=YO (YV.mpr (Yr h2));rw[←g1,←g2];congr 1
def Od(n:Nat):(runI 1 n).Pairwise (· < ·):=by
 unfold runI;rw[YW];exact List.pairwise_lt_range.imp fun {a b} h=>by omega
def FW(ks:List Int)(p:Nat):Prop:=(∀q,1<=q->q<(if p=0 then ks.length else p)->ks.getD (q-1) 0<=ks.getD q 0)/\(p=0\/(1<=p/\p<ks.length/\ks.getD p 0<ks.getD (p-1) 0))
abbrev Mo:=Int×Int×Int×Int
inductive Mv (ps:List (Int×Int)) (f:Int->Int):List Int->List Mo->Prop
 |done (ns:List Int):FW (ns.map f) 0->Mv ps f ns []
 |step (ns:List Int) (p:Nat) (ms:List Mo):FW (ns.map f) p->p≠0->Mv ps f (Ur ns p) ms->Mv ps f ns (((p:Int),ns.getD (p-1) 0,ns.getD p 0,exM ps ns p)::ms)
def XJ{f:Int->Int}{ns:List Int}{i:Nat}(h:i<ns.length):(ns.map f).getD i 0=f (ns.getD i 0):=by
 rw[Yd,Yd,Yj,ZZ h];rfl
def fldN(ps:List (Int×Int))(ns:List Int):List (Int×Int):=ns.map fun m=>ps.getD (m-1).toNat (0,0)
def N9(ps:List (Int×Int)):fldN ps (runI 1 ps.length)=ps:=by
 unfold fldN runI;refine QJ (by simp) fun i h1 h2=>?_;simp only[List.getElem_map,List.getElem_range];rw[show((1:Int)+(i:Int)-1).toNat=i by omega,Yd,ZZ h2];rfl
def O2{ps qs:List (Int×Int)}(h:ps.Perm qs):Jp ps=Jp qs:=by
 unfold Jp;congr 1;funext z
 have:=(h.map (·.1)).mem_iff (a:=z)
 by_cases c:z∈ps.map (·.1)
 ·rw[Yh c,Yh (this.mp c)]
 ·rw[Yv c,Yv fun w=>c (this.mpr w)]
def Fv(ps:List (Int×Int))(o ns:List Int):UP o (fldN ps ns)=keyL ps (rkN ps o) ns:=by
 unfold UP fldN keyL;rw[YK];rfl
def cntN(f:Int->Int)(ns:List Int):Int:=invL (ns.map fun m=>(f m,1))
def F1(f:Int->Int){ns:List Int}{p:Nat}(h1:1<=p)(h2:p<ns.length)(h:f (ns.getD p 0)<f (ns.getD (p-1) 0)):cntN f ns=cntN f (Ur ns p)+1:=by
 obtain⟨A,x,y,B,e,_,es,ex,ey⟩:=Oc h1 h2;rw[ex,ey]at h;rw[es,e];unfold cntN;rw[Yt,Yq,Yq,Yt,Yq,Yq];have k:=Dv (f x,1) (f y,1) (B.map fun m=>(f m,1)) (A.map fun m=>(f m,1));simp only at k;rw[Ye (by omega),Yg h]at k;omega
def SK(f:Int->Int)(k:Int):∀l:List Int,0<=ltS k (l.map fun m=>(f m,1))/\ltS k (l.map fun m=>(f m,1))<=l.length
 |[]=>⟨W3 0,W3 0⟩
 |m::l=>by
  have:=SK f k l
  rw[Yq,Y3];unfold ltS;simp only;split<;>omega
def TZ(f:Int->Int):∀l:List Int,0<=cntN f l/\cntN f l<=(l.length:Int)*l.length
 |[]=>⟨W3 0,W3 0⟩
 |m::l=>by
  have h1:=TZ f l;have h2:=SK f (f m) l;unfold cntN at h1 ⊢;rw[Yq,Y3];unfold invL
  have e:((l.length+1:Nat):Int)*((l.length+1:Nat):Int)=(l.length:Int)*l.length+l.length+l.length+1:=by
   rw[show((l.length+1:Nat):Int)=(l.length:Int)+1 by omega,QE,Int.mul_add];omega
  rw[e];simp only[Int.mul_one];omega
def toI:D->Int
 | .int i=>i
 |_=>0
def mvN(γ:List (Option Pu.S)):Nat:=match γ[2]?,γ[3]? with
 |some (some (Pu.S.own (Pu.O.lst rs))),some (some (Pu.S.own (Pu.O.lst ns)))=>(cntN (fun m=>(rs.map toI).getD (m-1).toNat 0) (ns.map toI)).toNat
 |_,_=>0
def NS(xs:List Int):(xs.map D.int).map toI=xs:=by
 rw[YK];exact List.map_id _
end M
namespace Pu
open PySem PySem.Spec PyProof.Rows L2 Own M
abbrev mvD(m:Mo):D:=.tup [.int m.1,.int m.2.1,.int m.2.2.1,.int m.2.2.2]
end Pu
namespace M
open PySem PySem.Spec PyProof.Rows L2 Own Pu
def Dy(f:Int->Int):∀l:List Int,cntN f l<=(triN l.length:Nat)
 |[]=>W3 0
 |m::l=>by
  have h1:=Dy f l;have h2:=SK f (f m) l;unfold cntN at h1 ⊢;rw[Yq,Y3];unfold invL triN;simp only[Int.mul_one];omega
end M
namespace Pu
open PySem PySem.Spec PyProof.Rows L2 Own
section
variable {X:Cx}{k j:Nat}{x:Str}{ps:List Str}{sp:Sp}{e a b c:Expr}{es:List Expr}{t:TA}{te tf tg:TE}{p pos:Pos}
def fz(C:Callee X.prog X.w X.K X.mg X.base CX0 k x ps sp)(hr:Room j X.A)(ha:PA X (e::es) t)(hk:k<=j:=by decide)(hg:Gl X x:=by rfl)(hdb:(x==("__debug__" : Str))=false:=by decide)(he:starEach (e::es) X.env=(false,eval e X.env)::starEach es X.env:=by rfl)(hpl:(backTo pos (starEach es X.env)).any (·.1)=false:=by rfl) :
  PE X (.Call (.Name x p) (e::es) [] pos) (Pn sp [] E0 t):=UQ C (hr.mono hk) Um ha hg hdb he hpl
def jx(K:Za)(ha:PE X a te)(hb:PE X b tf)(hK:X.K=K:=by rfl)(hs:Da b:=by intro _ _;rfl):PE X (.Subscript a b pos) (tOp (fun x y H Q=>rIxL K x y H Q\/rIxT K x y H Q) te tf):=Bl (Gf hK) ha hb hs
def gz(i:Nat)(hN:X.N.Nodup)(hi:X.N[i]?=some x:=by rfl)(hx:Loc X.env.scope x:=by first|exact Or.inl rfl|exact Or.inr rfl)(hf:X.fn x=true\/X.env.scope.names.lookup x=some .local:=by first|exact .inl rfl|exact .inr rfl|assumption):PG X (.Name x pos) (XH i):=Nn hN hi hx hf
def ln(K:Za)(hm:X.mg "len"=none)(ha:PE X a te)(hK:X.K=K:=by rfl)(hg:Gl X "len":=by rfl)(hs:starEach [a] X.env=(false,eval a X.env)::starEach [] X.env:=by rfl)(hpl:(backTo pos (starEach [] X.env)).any (·.1)=false:=by rfl) :
  PE X (.Call (.Name "len" p) [a] [] pos) (tCB (fun xs H Q=>∃x n,xs=[x]/\LenV K x H n/\Q (.int (n:Nat)) H) (JR te tNil)):=JY (Ez hK) hg hm PySem.boot_len (J1 ha J4 hs) (by decide) (by decide) hs hpl
def cq(K:Za)(hr:Room j X.A)(ha:PE X a te)(hb:PE X b tf)(hK:X.K=K:=by rfl):PT X (.Compare a [.Eq] [b] pos) (P4 (tOp (fun x y H Q=>rEq x y H Q\/rEqL K false x y H Q) te tf)):=JE (KS hr.units0 hK) ha hb (JJ _)
def cn(K:Za)(hr:Room j X.A)(ha:PE X a te)(hb:PE X b tf)(hK:X.K=K:=by rfl):PT X (.Compare a [.NotEq] [b] pos) (P4 (tOp (fun x y H Q=>rNe x y H Q\/rEqL K true x y H Q) te tf)):=JE (D2 hr.units0 hK) ha hb (JJ _)
def az(ha:PE X a te)(h1:starEach [a] X.env=(false,eval a X.env)::starEach [] X.env:=by rfl):PA X [a] (JR te tNil):=J1 ha J4 h1
def bz(ha:PE X a te)(hb:PE X b tf)(h1:starEach [a,b] X.env=(false,eval a X.env)::starEach [b] X.env:=by rfl)(h2:starEach [b] X.env=(false,eval b X.env)::starEach [] X.env:=by rfl):PA X [a,b] (JR te (JR tf tNil)):=J1 ha (J1 hb J4 h2) h1
def dz(ha:PE X a te)(hb:PE X b tf)(hc:PE X c tg)(h1:starEach [a,b,c] X.env=(false,eval a X.env)::starEach [b,c] X.env:=by rfl)(h2:starEach [b,c] X.env=(false,eval b X.env)::starEach [c] X.env:=by rfl)(h3:starEach [c] X.env=(false,eval c X.env)::starEach [] X.env:=by rfl):PA X [a,b,c] (JR te (JR tf (JR tg tNil))):=J1 ha (J1 hb (J1 hc J4 h3) h2) h1
end
section
variable {K:Za}{mg:Str->Option Value}{E:L2.St->XK}{ta tb tc:TE}{a b c:PTE}
def sz(ha:SndE K mg E ta a):SndA K mg E (JR ta tNil) (XS a pNil):=JA ha J2
def tz(ha:SndE K mg E ta a)(hb:SndE K mg E tb b):SndA K mg E (JR ta (JR tb tNil)) (XS a (XS b pNil)):=JA ha (sz hb)
def uz(ha:SndE K mg E ta a)(hb:SndE K mg E tb b)(hc:SndE K mg E tc c):SndA K mg E (JR ta (JR tb (JR tc tNil))) (XS a (XS b (XS c pNil))):=JA ha (tz hb hc)
end
section
variable {K:Za}{h:Heap}{mg:Str->Option Value}{C C':Addr}{x m q:Str}{st:Stmt}{ps:List Str}
abbrev Bd(x q:Str)(st:Stmt)(ps:List Str):Prop:=∀(kV doc pm:Value) (an:Option Addr) (cdv ct:Value) (us:List Value),us.length=ps.length->bindArgs (PySem.W.fnOf x q (UH st) (JO st) (Jn st) .none kV doc pm an cdv ct) ⟨us,[]⟩=pure (ps.zip us)
def DI.e (D:DI K x st) (X:K.In h) (G0:h.Ns mainGlobals mg) (b:Bd x x st ps:=by
  intro _ _ _ _ _ _ us hl
  first
   |(obtain⟨_,rfl⟩:=Pu.len1 hl;rfl)
   |(obtain⟨_,_,rfl⟩:=Pu.len2 hl;rfl)
   |(obtain⟨_,_,_,rfl⟩:=Pu.len3 hl;rfl)
   |(obtain⟨_,_,_,_,rfl⟩:=Pu.len4 hl;rfl)
   |(obtain⟨_,_,_,_,_,rfl⟩:=Pu.len5 hl;rfl)):Def K mg x st ps:=D.d X G0 b
def MI.e (D:MI K C m q st) (e:C'=C) (b:Bd m q st ps:=by
  intro _ _ _ _ _ _ us hl
  first
   |(obtain⟨_,rfl⟩:=Pu.len1 hl;rfl)
   |(obtain⟨_,_,rfl⟩:=Pu.len2 hl;rfl)
   |(obtain⟨_,_,_,rfl⟩:=Pu.len3 hl;rfl)
   |(obtain⟨_,_,_,_,rfl⟩:=Pu.len4 hl;rfl)):DefM K (Meth K C' m) m q st ps:=D.d e b
def MI.j (D:MI K C "__init__" q st) (e:C'=C) (mk:PySem.W.makesIn K C=true) (kc:PySem.W.keepIn K (.ref C)=true) (b:Bd "__init__" q st ps:=by
  intro _ _ _ _ _ _ us hl
  first
   |(obtain⟨_,rfl⟩:=Pu.len1 hl;rfl)
   |(obtain⟨_,_,rfl⟩:=Pu.len2 hl;rfl)
   |(obtain⟨_,_,_,rfl⟩:=Pu.len3 hl;rfl)):DefM K (Mk K C') "__init__" q st ps:=D.i e mk kc b
end
section
variable {P:Program}{w:World}{K:Za}{mg:Str->Option Value}{base:Heap}{N ps:List Str}{sp:Sp}{p:PTS}{x q:Str}{st:Stmt}{k:Nat}{W:Addr->Prop}
structure Uz (K:Za) (mg:Str->Option Value) (N ps:List Str) (sp:Sp) (p:PTS):Prop where
 len:∀vs H Q E,sp vs H Q E->vs.length=ps.length
 run:∀vs H Q E t,sp vs H Q E->SndS K mg (fun _=>E) t p->t {nx:=fun _ H'=>Q .non H',rt:=Q} (start N vs) H
def Uz.a {c:Pc} (hp:∀ds R X,c ds R X->ds.length=ps.length/\p {nx:=fun _=>R (.sh .non),rt:=R,ex:=fun _ e=>X e} (UT N ds)) (hn:ps.length<=N.length:=by decide):Uz K mg N ps (spOf mg c K) p:=
 ⟨fun _ _ _ _ h=>On h fun ds R X z=>(hp ds R X z).1,fun _ _ _ _ _ h s=>Mz h s hn hp⟩
def Uz.c {c:Pw}{y:Str} (hp:∀o ss R X,c o ss R X->ss.length=ps.length/\p (Cm o R X) (Xt N o ss)) (hn:ps.length+1<=N.length:=by decide):Uz K mg N (y::ps) (spW mg c K) p:=
 ⟨fun _ _ _ _ h=>OD h fun o ds R X z=>(hp o ds R X z).1,fun _ _ _ _ _ h s=>Za8 h s hn hp⟩
def _root_.Own.Def.oz (D:Def K mg x st ps) (S:FnScope N ps (Jn st))
  (tr:∀(f:Addr) (cdv:Value) (A:Around) (outer:List Env) (s:Shared) (H:Hp) (E:XK),Room k (A.deeper (envOfC x (Jn st) s.heap.objs.size f cdv))->
   ∃t,PSs (cxOf CX0 P w K mg base N x (Jn st) f cdv A outer s H E).nox (JO st) t/\SndS K mg (fun _=>E) t p) (u:Uz K mg N ps sp p):Callee P w K mg base CX0 (k+1) x ps sp:=
 D.ok S u.len fun f cdv A outer s H vs Q E hr h=>(tr f cdv A outer s H E hr).elim fun t z=>⟨t,z.1,u.run _ _ _ _ _ h z.2⟩
def _root_.Own.Def.ox (D:Def K mg x st ps) (S:FnScope N ps (Jn st))
  (tr:∀(f:Addr) (cdv:Value) (A:Around) (outer:List Env) (s:Shared) (H:Hp) (E:XK),Room k (A.deeper (envOfC x (Jn st) s.heap.objs.size f cdv))->
   ∃t,PSs (cxOf (ExcR.CXe P w) P w K mg base N x (Jn st) f cdv A outer s H E) (JO st) t/\SndS K mg (fun _=>E) t p) (u:Uz K mg N ps sp p):Callee P w K mg base (ExcR.CXe P w) (k+1) x ps sp:=
 ExcR.Def.okX D S u.len fun f cdv A outer s H vs Q E hr h=>(tr f cdv A outer s H E hr).elim fun t z=>⟨t,z.1,u.run _ _ _ _ _ h z.2⟩
def DefM.oz (D:DefM K W x q st ps) (S:FnScope N ps (Jn st))
  (tr:∀(f:Addr) (cdv:Value) (A:Around) (outer:List Env) (s:Shared) (H:Hp) (E:XK),Room k (A.deeper (envOfC q (Jn st) s.heap.objs.size f cdv))->
   ∃t,PSs (cxOf CX0 P w K mg base N q (Jn st) f cdv A outer s H E).nox (JO st) t/\SndS K mg (fun _=>E) t p) (u:Uz K mg N ps sp p):CalleeM P w K mg base CX0 (k+1) W ps sp:=
 D.ok S u.len fun f cdv A outer s H vs Q E hr h=>(tr f cdv A outer s H E hr).elim fun t z=>⟨t,z.1,u.run _ _ _ _ _ h z.2⟩
def DefM.ox (D:DefM K W x q st ps) (S:FnScope N ps (Jn st))
  (tr:∀(f:Addr) (cdv:Value) (A:Around) (outer:List Env) (s:Shared) (H:Hp) (E:XK),Room k (A.deeper (envOfC q (Jn st) s.heap.objs.size f cdv))->
   ∃t,PSs (cxOf (ExcR.CXe P w) P w K mg base N q (Jn st) f cdv A outer s H E) (JO st) t/\SndS K mg (fun _=>E) t p) (u:Uz K mg N ps sp p):CalleeM P w K mg base (ExcR.CXe P w) (k+1) W ps sp:=
 D.okX S u.len fun f cdv A outer s H vs Q E hr h=>(tr f cdv A outer s H E hr).elim fun t z=>⟨t,z.1,u.run _ _ _ _ _ h z.2⟩
end
section
variable {K:Za}{h:Heap}{mg:Str->Option Value}{x:Str}{C:Addr}
structure EI (K:Za) (x:Str) (C:Addr):Prop where
 a:PySem.W.nsIn K mainGlobals x=some (some (.ref C))
 g:ExcR.ErrGet K C
def ei{d:ClassData}(a:PySem.W.nsIn K mainGlobals x=some (some (.ref C)))(q:PySem.W.excIn K C [.type "ValueError",.type "Exception",.type "BaseException",.type "object"] "ValueError.__new__"=true)(ga:PySem.W.findIn K (.ref C) "__getattribute__"=some (some (.builtin "BaseException.__getattribute__")))(gt:PySem.W.findIn K (.ref C) "__getattr__"=some none)(cl:PySem.W.findIn K (.ref C) "__class__"=some (some (.builtin "object.__class__")))(i:PySem.W.clsIn K C=some d):EI K x C:=⟨a,⟨⟨q⟩,ga,gt,cl,by rw[i];rfl⟩⟩
def EI.c (y:EI K x C) (X:K.In h) (G0:h.Ns mainGlobals mg):ExcR.Jq mg x=C:=ExcR.DJ (Wu X G0 y.a)
def EI.m (y:EI K x C) (X:K.In h) (G0:h.Ns mainGlobals mg):mg x=some (.ref (ExcR.Jq mg x)):=by rw[y.c X G0];exact Wu X G0 y.a
def EI.k (y:EI K x C) (X:K.In h) (G0:h.Ns mainGlobals mg):ExcR.ErrGet K (ExcR.Jq mg x):=by rw[y.c X G0];exact y.g
end
end Pu
namespace M
open PySem PySem.Spec PyProof.Rows L2 Own Pu
def Zak{f:Int->Int}{ns:List Int}(h:FW (ns.map f) 0):ns.Pairwise fun x y=>f x<=f y:=by
 have key:∀(d i j:Nat) (hj:j<ns.length) (hi:i<ns.length),j=i+d->f ns[i]<=f ns[j]:=fun d=>by
  induction d with
  |zero=>intro i j hj hi e;subst e;exact W3 _
  |succ d ih=>
   intro i j hj hi e;have h1:=ih i (j-1) (by omega) hi (by omega);have h2:=h.1 j (by omega) (by rw[Yg rfl,Ya];exact hj);rw[XJ (by omega),XJ hj,Yd,ZZ (show j-1<ns.length by omega),Yd,ZZ hj]at h2;exact Int.le_trans h1 h2
 rw[YE];intro i j hi hj hij;exact key (j-i) i j hj hi (by omega)
def Rn{f:Int->Int}{ns:List Int}(h:FW (ns.map f) 0):cntN f ns=0:=by
 unfold cntN;refine PJ ?_;rw[YW];exact Zak h
def Mv.count {ps:List (Int×Int)}{f:Int->Int}{ns:List Int}{ms:List Mo} (h:Mv ps f ns ms):(ms.length:Int)=cntN f ns:=by
 induction h with
 |done ns hw=>rw[Rn hw];rfl
 |step ns p ms hp h0 hm ih=>
  obtain⟨h1,h2,h3⟩:=hp.2.resolve_left h0;rw[Ya]at h2;rw[XJ h2,XJ (by omega)]at h3
  have:=F1 f h1 h2 h3
  rw[Y3];omega
def endsN(ps:List (Int×Int))(o:List Int):List Int:=o.flatMap (numN ps)
def LexR(ps:List (Int×Int))(o:List Int)(x y:Int):Prop:=rkN ps o x<rkN ps o y\/(rkN ps o x=rkN ps o y/\x<y)
def Ce{ps:List (Int×Int)}{o:List Int}(nd:o.Nodup):∀i,i<=o.length->(endsN ps (o.take i)).Nodup/\(∀x,x∈endsN ps (o.take i)↔(1<=x/\x<=ps.length)/\hdN ps x∈o.take i)/\(endsN ps (o.take i)).Pairwise (LexR ps o)
 | 0,_=>by simp[endsN]
 |i+1,hi=>by
  obtain⟨g1,g2,g5⟩:=Ce (ps:=ps) nd i (by omega)
  have et:endsN ps (o.take (i+1))=endsN ps (o.take i)++numN ps o[i]:=by
   unfold endsN;rw[Y1 (by omega),List.flatMap_append];simp
  rw[et];obtain⟨s1,s2,s3,s4⟩:=RB (mine:=numN ps o[i]) nd (by omega) g1 g2 (.refl _);refine⟨s1,s2,Wm.mpr ⟨g5,?_,fun x hx y hy=>.inl (s3 x hx y hy)⟩⟩;exact(QO.mp (CO ps o[i])).imp fun {x y} h=>.inr ⟨by rw[s4 x h.1,s4 y h.2.1],h.2.2⟩
def Ov{ps:List (Int×Int)}{o:List Int}(nd:o.Nodup)(hin:∀q∈ps,q.1∈o):(endsN ps o).Perm (runI 1 ps.length)/\(endsN ps o).Pairwise (LexR ps o):=by
 obtain⟨g1,g2,g3⟩:=Ce (ps:=ps) nd o.length (Yi _);rw[Wh]at g1 g2 g3;refine⟨(Wy g1 (MY _)).mpr fun x=>?_,g3⟩;rw[g2 x,runI_mem];refine⟨fun h=>h.1,fun h=>⟨h,?_⟩⟩;have hx:(x-1).toNat<ps.length:=by omega
 unfold hdN;rw[Yd,ZZ hx];exact hin _ (Yr hx)
def Al{ps:List (Int×Int)}{o:List Int}:∀{a b:List Int},a.Perm b->a.Pairwise (LexR ps o)->b.Pairwise (LexR ps o)->a=b
 |[],b,h,_,_=>(List.nil_perm.mp h).symm
 |x::a,[],h,_,_=>absurd h.length_eq (by simp)
 |x::a,y::b,h,h1,h2=>by
  rw[YN]at h1 h2
  have e:x=y:=by
   rcases Yo.mp (h.mem_iff.mp Yy)with e|e
   ·exact e
   ·rcases Yo.mp (h.mem_iff.mpr Yy)with e'|e'
    ·exact e'.symm
    ·have p1:=h1.1 y e';have p2:=h2.1 x e;unfold LexR at p1 p2;omega
  subst e;rw[Al (List.Perm.cons_inv h) h1.2 h2.2]
def IR(ps:List (Int×Int))(o:List Int):(o.flatMap fun h=>ps.filter fun q=>decide (q.1=h))=fldN ps (endsN ps o):=by
 unfold fldN endsN;rw[List.map_flatMap];congr 1;funext h;unfold numN;rw[YK]
 have e0:ps=(List.range ps.length).map fun i=>ps.getD i (0,0):=by
  refine QJ (by simp) fun i h1 h2=>?_;rw[List.getElem_map,List.getElem_range,Yd,ZZ h1];rfl
 have e1:ps.filter (fun q=>decide (q.1=h))=((List.range ps.length).map fun i=>ps.getD i (0,0)).filter fun q=>decide (q.1=h):=by rw[←e0]
 rw[e1,List.filter_map];refine Ww fun i hi=>?_;show ps.getD i (0,0)=ps.getD ((0:Int)+(i:Int)+1-1).toNat (0,0);rw[show((0:Int)+(i:Int)+1-1).toNat=i by omega]
end M
namespace Pu
open PySem PySem.Spec PyProof.Rows L2 Own
def NoFld.of {m:Str}:∀{xs:List Str},(xs.all fun x=>!(m==x))=true->NoFld m xs
 |[],_,_=>rfl
 |_::_,_,[]=>rfl
 |x::xs,h,v::vs=>by
  rw[QF,YA]at h;show(match m==x with|true=>some v|false=>(xs.zip vs).lookup m)=none
  rw[show(m==x)=false by simpa using h.1];exact NoFld.of h.2 vs
def FldAt.of {f:Str} (h0:(f==f)=true):∀{xs:List Str}{j:Nat},((xs.take j).all fun x=>!(f==x))=true->xs[j]?=some f->FldAt f xs j
 |[],_,_,e,_,_=>by simp at e
 |_::_,_,_,_,[],e=>by cases e
 |x::xs,0,_,e,v::vs,_=>by
  simp at e;subst e;show(match x==x with|true=>some v|false=>(xs.zip vs).lookup x)=some v
  rw[h0]
 |x::xs,j+1,h,e,v::vs,l=>by
  rw[List.take_succ_cons,QF,YA]at h;show(match f==x with|true=>some v|false=>(xs.zip vs).lookup f)=(v::vs)[j+1]?
  rw[show(f==x)=false by simpa using h.1];exact FldAt.of h0 (j:=j) h.2 (by simpa using e) vs (by simpa using l)
def PutAt.of {f:Str}:∀{xs:List Str},(xs.all fun x=>decide (x≠f))=true->PutAt f xs
 |[],_,[],_,_=>rfl
 |[],_,_::_,_,e=>by cases e
 |_::_,_,[],_,e=>by cases e
 |x::xs,h,v::vs,y,e=>by
  rw[QF,YA]at h;show(if x=f then(x,y)::xs.zip vs else(x,v)::putF f y (xs.zip vs))=(x,v)::(xs++[f]).zip (vs++[y]);rw[Ye (Ys h.1),PutAt.of h.2 vs y (by simpa using e)]
end Pu
namespace M
open PySem PySem.Spec PyProof.Rows L2 Own Pu
def hAt(ps:List (Int×Int))(k:Nat):Int:=(ps.getD k (0,0)).1
def begM(ps:List (Int×Int))(k:Nat):Bool:=decide (k=0) || !decide (hAt ps (k-1)=hAt ps k)
def newM(ps:List (Int×Int))(k:Nat):Bool:=!decide (hAt ps k∈(ps.take k).map (·.1))
def TogP(ps:List (Int×Int)):Prop:=∀k j,j<k->k<ps.length->hAt ps j=hAt ps k->hAt ps (k-1)=hAt ps k
def JZ{ps:List (Int×Int)}{k:Nat}(h:k<ps.length):hAt ps k=ps[k].1:=by
 unfold hAt;rw[Yd,ZZ h];rfl
def Pa{ps:List (Int×Int)}{k:Nat}(hk:k<=ps.length){z:Int}:z∈(ps.take k).map (·.1)↔∃j,j<k/\hAt ps j=z:=by
 rw[Y7];constructor
 ·rintro⟨q,hq,rfl⟩;obtain⟨j,hj,rfl⟩:=Vb hq;rw[YD]at hj;refine⟨j,by omega,?_⟩;rw[JZ (by omega),WQ]
 ·rintro⟨j,hj,rfl⟩;have hjl:j<ps.length:=by omega
  refine⟨ps[j],YJ.mpr ⟨j,by rw[YD];omega,by rw[WQ]⟩,(JZ hjl).symm⟩
def Ru{ps:List (Int×Int)}{k:Nat}(hk:k<ps.length)(h:newM ps k=true):begM ps k=true:=by
 unfold begM;by_cases e:k=0
 ·rw[Yh e];rfl
 ·rw[Qv];refine .inr ?_;rw[Wi];refine Yv fun z=>?_;unfold newM at h;rw[Wi,WA,Pa (by omega)]at h;exact h ⟨k-1,by omega,z⟩
def Lk{ps:List (Int×Int)}(hF:Field ps):((List.range ps.length).filter (newM ps)).length=(Jp ps).length:=by
 have nd:(Jp ps).Nodup:=(UN ps).imp (fun h=>WK h)
 have key:(((List.range ps.length).filter (newM ps)).map (hAt ps)).Perm (Jp ps):=by
  refine(Wy ?_ nd).mpr fun z=>?_
  ·rw[List.Nodup,YW];refine(QO.mp (List.pairwise_lt_range.filter (newM ps))).imp fun {a b} h e=>?_;have hb:=Y9.mp h.2.1;have hbl:=Wj.mp hb.1;have h2:=hb.2;unfold newM at h2;rw[Wi,WA,Pa (by omega)]at h2;exact h2 ⟨a,h.2.2,e⟩
  ·rw[K4 hF,Y7];constructor
   ·rintro⟨k,hk,rfl⟩;have hkl:=Wj.mp (Y9.mp hk).1;rw[JZ hkl];exact Y7.mpr ⟨_,Yr hkl,rfl⟩
   ·intro hz
    have h1:∃k,k<ps.length/\hAt ps k=z:=by
     obtain⟨q,hq,rfl⟩:=Y7.mp hz;obtain⟨k,hk,rfl⟩:=Vb hq;exact⟨k,hk,JZ hk⟩
    have h2:∀n k,k<n->k<ps.length->hAt ps k=z->∃j,j∈(List.range ps.length).filter (newM ps)/\hAt ps j=z:=fun n=>by
     induction n with
     |zero=>intro k hk;omega
     |succ n ih=>
      intro k hk hl e;by_cases c:newM ps k=true
      ·exact⟨k,Y9.mpr ⟨Wj.mpr hl,c⟩,e⟩
      ·unfold newM at c;rw[Wi,WA,Vm,Pa (by omega)]at c;obtain⟨j,hj,ej⟩:=c;exact ih j (by omega) (by omega) (ej.trans e)
    obtain⟨k,hk,e⟩:=h1;exact h2 (k+1) k (Qr _) hk e
 have:=key.length_eq
 rwa[Ya]at this
def DC{ps:List (Int×Int)}(hF:Field ps):((List.range ps.length).filter (begM ps)).length=(Jp ps).length↔TogP ps:=by
 rw[←Lk hF]
 have e:(List.range ps.length).filter (newM ps)=((List.range ps.length).filter (begM ps)).filter (newM ps):=by
  rw[List.filter_filter];refine List.filter_congr fun k hk=>?_;cases c:newM ps k with
  |false=>rfl
  |true=>rw[Ru (Wj.mp hk) c];rfl
 rw[e,eq_comm,List.length_filter_eq_length_iff];constructor
 ·intro h k j hj hk ej;refine YL fun ne=>?_
  have hb:begM ps k=true:=by
   unfold begM;rw[Qv];exact .inr (by rw[Yv ne];rfl)
  have:=h k (Y9.mpr ⟨Wj.mpr hk,hb⟩)
  unfold newM at this;rw[Wi,WA,Pa (by omega)]at this;exact this ⟨j,hj,ej⟩
 ·intro h k hk;obtain⟨h1,h2⟩:=Y9.mp hk;have hkl:=Wj.mp h1;unfold newM;rw[Wi,WA,Pa (by omega)];rintro⟨j,hj,ej⟩
  have:=h k j hj hkl ej
  unfold begM at h2;rw[Qv]at h2;rcases h2 with z|z
  ·have:=Ys z
   omega
  ·rw[Yh this]at z;cases z
def JC(l:List Int):List Int:=l.foldl (fun acc h=>if h∈acc then acc else acc++[h]) []
def Pi(l:List Int)(h:Int):JC (l++[h])=if h∈JC l then JC l else JC l++[h]:=by
 unfold JC;rw[List.foldl_append];rfl
def T5(l:List Int):(JC l).Nodup/\∀z,z∈JC l↔z∈l:=by
 refine Xp (P:=fun l=>(JC l).Nodup/\∀z,z∈JC l↔z∈l) ⟨WD,fun z=>Iff.rfl⟩ (fun r h ih=>?_) l;rw[Pi];by_cases c:h∈JC r
 ·rw[Yg c];refine⟨ih.1,fun z=>?_⟩;rw[ih.2 z,Yz,Yf];exact⟨.inl,fun k=>k.elim id fun k=>k▸(ih.2 h).mp c⟩
 ·rw[Ye c];refine⟨Wc.mpr ⟨ih.1,by simp,fun a ha b hb e=>c ?_⟩,fun z=>?_⟩
  ·rw[Yf.mp hb]at e;rw[←e];exact ha
  ·rw[Yz,Yz,ih.2 z]
def EX(l:List Int):(JC l).length<=l.length:=by
 refine Xp (P:=fun l=>(JC l).length<=l.length) (Yi _) (fun r h ih=>?_) l;rw[Pi,Yn,YZ];split
 ·omega
 ·rw[Yn,YZ];omega
def Bg{o:List Int}{a b:Int}(ha:a∈o)(hb:b∈o)(e:o.idxOf a=o.idxOf b):a=b:=by
 have h1:o[o.idxOf a]?=some a:=by rw[ZZ (Wv ha),YO]
 have h2:o[o.idxOf b]?=some b:=by rw[ZZ (Wv hb),YO]
 rw[e,h2]at h1;exact(Yl h1).symm
def L9{o:List Int}(l:List Int):(∀z∈l,z∈o)->l.Pairwise (fun a b=>o.idxOf a<=o.idxOf b)->(JC l).Pairwise fun a b=>o.idxOf a<o.idxOf b:=by
 refine Xp (P:=fun l=>(∀z∈l,z∈o)->l.Pairwise (fun a b=>o.idxOf a<=o.idxOf b)->(JC l).Pairwise fun a b=>o.idxOf a<o.idxOf b) (fun _ _=>.nil) (fun r h ih hin hp=>?_) l;obtain⟨p1,_,p3⟩:=Wm.mp hp;have ih:=ih (fun z hz=>hin z (Yz.mpr (.inl hz))) p1;rw[Pi];by_cases c:h∈JC r
 ·rw[Yg c];exact ih
 ·rw[Ye c];refine Wm.mpr ⟨ih,WX _ _,fun a ha b hb=>?_⟩;rw[Yf.mp hb];have har:=((T5 r).2 a).mp ha;have h1:=p3 a har h (by simp);refine Nat.lt_of_le_of_ne h1 fun e=>c ?_;rw[←Bg (hin a (Yz.mpr (.inl har))) (hin h (by simp)) e];exact ha
end M
namespace Lam
open PySem PySem.Spec PyProof.Rows L2 Own
section
variable {X:Cx}{pins:List (Addr×Obj)}{σ:L2.St}{H:Hp}{A:Around}{E:Value->Shared->Prop}{s:Shared}{kS D:Addr}{vs:List Value}{kz:List Int}{keys:Array Value}{e e1:Nat}
def XF{b:Addr}{o:Obj}(I:Inv X pins σ H s)(f:FpOk X pins H b)(ho:s.heap.get? b=some o)(hd:∀v,o.data≠.cell v):Inv X (pins++[(b,o)]) σ H s:=
 I.pins_of fun p hp=>(Yz.mp hp).elim (fun z=>I.pin p (Y0 _ z)) fun z=>by
  rw[Yf.mp z];exact⟨ho,f.1,f.2.1,f.2.2.1,hd⟩
def Ko{pins':List (Addr×Obj)}(I:Inv X pins σ H s)(h:∀p∈pins',p∈pins):Inv X pins' σ H s:=I.pins_of fun p hp=>I.pin p (Y0 _ (h p hp))
def Ky{c:String}{xs:Array Value}{n:Nat}:∀v,(seqObj c xs n).data≠.cell v:=fun v z=>by cases z
def Sn{b:Addr}{o':Obj}{h':Heap}{t':Nat}(I:Inv X pins σ H s)(f:FpOk X pins H b)(sb:Heap.SameBut b s.heap h')(ho:h'.get? b=some o')(hd:∀v,o'.data≠.cell v):Inv X (pins++[(b,o')]) σ H {s with heap:=h',toks:=t'}:=
 XF (I.turned (t':=t') (fun c o hc g=>(sb.2 c hc).trans g) f.1 f.2.1 f.2.2.2.1 f.2.2.2.2.1 f.2.2.2.2.2) f ho hd
def HV{P:Program}{w:World}{H:Hp}{h:Heap}{a:Addr}{o:HO}(x:HOk P w H h)(hn:H a=none)(new:ObjOk P w (upd H a o) h a o):HOk P w (upd H a o) h:=fun b u e=>by
 by_cases hb:b=a
 ·subst hb;rw[J8]at e;cases e;exact new
 ·rw[Jv hb]at e;exact(x b u e).stay (fun c v _ q=>q) (fun c q=>by rw[Jv (JN q hn)];exact q) fun c xs q=>by rw[Jv (JN q hn)];exact q
def adopt{b:Addr}{xs:List V}{us:List Value}{n:Nat}(I:Inv X pins σ H s)(f:FpOk X pins H b)(hb:X.s₀.heap.objs.size<=b)(ho:s.heap.get? b=some (seqObj "list" us.toArray n))(r:Vals xs us)(hz:xs.length<=sizeLine) :
  Inv X pins σ (upd H b (.lst xs)) s:=by
 have ne:∀c o,X.s₀.heap.get? c=some o->c≠b:=fun c o g z=>by
  have:=Yk g
  rw[z]at this;exact absurd (YB this hb) (Ws _)
 have hn:=f.1;refine⟨I.ok,I.os,I.bare,⟨fun c o g n1 n2 n3=>I.base.keep c o g n1 n2 n3,fun c o g n1 n2 n3=>I.base.slot c o g n1 n2 n3,fun c o g n1 n2=>?_,I.base.there,fun c ys g=>?_,fun c o u g=>?_,fun c ps g=>?_⟩,I.loc,I.cell,?_,fun x c g=>?_,fun p hp=>?_,?_,I.len⟩
 ·rw[Jv (ne c o g)];exact I.base.free c o g n1 n2
 ·rw[Jv (JN (I.base.tups c ys g) hn)];exact I.base.tups c ys g
 ·rw[Jv (JN (I.base.frzs c o u g) hn)];exact I.base.frzs c o u g
 ·obtain⟨m,q⟩:=I.base.tbls c ps g;exact⟨m,by rw[Jv (JN q hn)];exact q⟩
 ·rw[Jv (Ne.symm f.2.1)];exact I.free
 ·rw[Jv (f.2.2.2.2.1 x c g)];exact I.freeC x c g
 ·obtain⟨a1,a2,a3,a4,a5⟩:=I.pin p hp;exact⟨a1,by rw[Jv (f.2.2.2.2.2 p hp)];exact a2,a3,a4,a5⟩
 ·exact HV I.hok hn ⟨hz,us,n,r,ho⟩
def Ts{b c:Addr}{o:Obj}(f:FpOk X pins H b)(h:c≠b):FpOk X (pins++[(c,o)]) H b:=
 ⟨f.1,f.2.1,f.2.2.1,f.2.2.2.1,f.2.2.2.2.1,fun p hp=>(Yz.mp hp).elim (fun z=>f.2.2.2.2.2 p (WR _ z)) fun z=>(Yz.mp z).elim (fun z=>f.2.2.2.2.2 p (Y0 _ z)) fun z=>by
  rw[Yf.mp z];exact h⟩
def EK{pins':List (Addr×Obj)}{b:Addr}(f:FpOk X pins H b)(h:∀p∈pins',p∈pins):FpOk X pins' H b:=
 ⟨f.1,f.2.1,f.2.2.1,f.2.2.2.1,f.2.2.2.2.1,fun p hp=>f.2.2.2.2.2 p ((Yz.mp hp).elim (fun z=>WR _ z) fun z=>Y0 _ (h p z))⟩
variable {P:PySem.Fin->Shared->Prop}
def Du{st:SortSt}(I:Inv X (pins++[(kS,seqObj "list" keys e)]++[(D,seqObj "list" #[] e1)]) σ H s)(fk:FpOk X pins H kS)(fd:FpOk X pins H D)(hka:kS≠D)(hk:IntsAre keys.toList kz)(hlen:kz.length=vs.length)(h64:vs.length<64)(hp:(arrOf st).Perm (keys.zip vs.toArray))(hs:SortedTo (arrOf st) (arrOf st).size)(hfl:failedOf st=none)(h:∀h' tk out c,Inv X (pins++[(D,seqObj "list" out c)]) σ H {s with heap:=h',toks:=tk}->KskOut false kz vs out.toList->P (.done (.ret .none)) {s with heap:=h',toks:=tk}) :
  wpAny (model X.prog X.w) A (ksk_tail D false e1 (.ref kS) st) P E s:=by
 have nk:=(I.pin (kS,seqObj "list" keys e) (by simp)).1;have na:=(I.pin (D,seqObj "list" #[] e1) (by simp)).1
 have hsz:keys.size=vs.length:=by
  have h1:=hk.length;rw[YC]at h1;omega
 have hsz2:(arrOf st).size=vs.length:=by rw[hp.size_eq,Array.size_zip,hsz,Yp,Nat.min_self]
 have hout:((arrOf st).map (·.2)).size=vs.length:=by simp only[Array.size_map];exact hsz2
 have s1:=YM s.heap kS (Obj.mapSeq fun _=>(#[]:Array Value));have na1:(s.heap.update kS (Obj.mapSeq fun _=>(#[]:Array Value))).get? D=some (seqObj "list" #[] e1):=(s1.2 D hka.symm).trans na;have s2:=YM (s.heap.update kS (Obj.mapSeq fun _=>(#[]:Array Value))) D (Obj.mapSeq fun _=>(arrOf st).map (·.2))
 obtain⟨c2,hc2⟩:∃c2,((s.heap.update kS (Obj.mapSeq fun _=>(#[]:Array Value))).update D (Obj.mapSeq fun _=>(arrOf st).map (·.2))).get? D=some (seqObj "list" ((arrOf st).map (·.2)) c2):=
  ⟨_,get?_update_seq na1 fun _=>(arrOf st).map (·.2)⟩
 have I0:Inv X pins σ H s:=Ko I fun p hp=>by simp[hp]
 have I1:Inv X pins σ H {s with heap:=s.heap.update kS (Obj.mapSeq fun _=>(#[]:Array Value)),toks:=s.toks}:=I0.turned (fun c o hc g=>(s1.2 c hc).trans g) fk.1 fk.2.1 fk.2.2.2.1 fk.2.2.2.2.1 fk.2.2.2.2.2
 have I2:=Sn (t':=s.toks) I1 fd s2 hc2 Ky;unfold ksk_tail
 try dsimp only
 refine ZY (listUpdate_at nk rfl ?_ (by rw[hsz,Wt];omega) (Wb _));refine ZY (wpAny_letGo ?_);refine ZY (seqEpoch_at na1 rfl ?_);refine ZY (listUpdate_at na1 rfl ?_ (Wb _) (Yx (Wx hout) (by rw[Wt];omega)));rw[hfl];simp only[bne_self_eq_false,W2,Qf];refine Yb (h _ _ _ c2 I2 ?_)
 have:=ksk_out (b:=false) hk hp hs
 simpa using this
def RD(I:Inv X (pins++[(kS,seqObj "list" keys e)]++[(D,seqObj "list" #[] e1)]) σ H s)(fk:FpOk X pins H kS)(fd:FpOk X pins H D)(hka:kS≠D)(hk:IntsAre keys.toList kz)(hlen:kz.length=vs.length)(h64:vs.length<64)(h:∀h' tk out c,Inv X (pins++[(D,seqObj "list" out c)]) σ H {s with heap:=h',toks:=tk}->KskOut false kz vs out.toList->P (.done (.ret .none)) {s with heap:=h',toks:=tk}) :
  wpAny (model X.prog X.w) A (ksk_end D false vs.toArray e1 (.ref kS) keys) P E s:=by
 have hsz:keys.size=vs.length:=by
  have h1:=hk.length;rw[YC]at h1;omega
 have hzs:(keys.zip vs.toArray).size=vs.length:=by rw[Array.size_zip,hsz,Yp,Nat.min_self]
 unfold ksk_end;simp only[W2,Qf];by_cases h2:vs.toArray.size<2
 ·rw[Yg h2,Yg h2];refine ZY (Yb ?_);rw[StateT.run_pure];refine ZY (Yb ?_)
  try dsimp only
  refine Du (st:=SortSt.mk' general' (keys.zip vs.toArray) #[] 7 none) I fk fd hka hk hlen h64 (Array.Perm.refl _) ?_ rfl h;intro i j hij hj;have hj2:j<(keys.zip vs.toArray).size:=hj;rw[hzs]at hj2;rw[Yp]at h2
  have:i=j:=by omega
  subst this;exact W3 _
 ·rw[Ye h2,Ye h2];rw[Yp]at h2;rw[ksk_kind hk (by rw[hsz];omega)];refine ZY (Yb ?_)
  refine ZY (YU (wpS_sortRuns (a₀:=keys.zip vs.toArray) (st:=SortSt.mk' oneType' (keys.zip vs.toArray) #[] 7 none)
   (Q:=fun _ st'=>(arrOf st').Perm (keys.zip vs.toArray)/\failedOf st'=none/\SortedTo (arrOf st') (keys.zip vs.toArray).size)
   (ksk_intKeys hk) ⟨Array.Perm.refl _,rfl,rfl,rfl⟩ (by rw[hzs];omega) (by rw[hzs];exact h64) fun st' a1 a2 a3=>⟨a1,a2,a3⟩) ?_ fun _ _ e=>e)
  rintro⟨⟨⟩,st'⟩ s' ⟨rfl,hp,hf,hs⟩
  try dsimp only
  exact Du I fk fd hka hk hlen h64 hp (by rw[hp.size_eq];exact hs) hf h
def E7{f:Value}(I:Inv X (pins++[(kS,seqObj "list" #[] 0)]++[(D,seqObj "list" #[] e1)]) σ H s)(fk:FpOk X pins H kS)(fd:FpOk X pins H D)(hka:kS≠D)(hlen:kz.length=vs.length)(h64:vs.length<64)
  (turn:∀(i:Nat) (v:Value) (k:Int) (pins':List (Addr×Obj)) (s':Shared),vs[i]?=some v->kz[i]?=some k->(∀p∈pins,p∈pins')->Inv X pins' σ H s'->
   wpAny (model X.prog X.w) A (call f [v]) (fun r s''=>(∃t,r=.int k t)/\Inv X pins' σ H s'') (fun _ _=>False) s')
  (h:∀s' out c,Inv X (pins++[(D,seqObj "list" out c)]) σ H s'->KskOut false kz vs out.toList->P (.done (.ret .none)) s') :
  wpAny (model X.prog X.w) A (ksk_rest D f false vs.toArray e1 (.ref kS)) P E s:=by
 unfold ksk_rest;refine ZY (wpAny_rule ?_)
 first
  |rw[List.forIn_toArray]
  |(rw[←Array.forIn_toList];simp only[List.toList_toArray])
  |rw[←Array.forIn_toList]
 refine ZY (ksk_fold (fun i s'=>∃kA e,Inv X (pins++[(kS,seqObj "list" kA e)]++[(D,seqObj "list" #[] e1)]) σ H s'/\IntsAre kA.toList (kz.take i)) vs 0 s
  ⟨#[],0,I,by simpa using IntsAre.nil⟩ ?step ?done)
 case step=>
  rintro j x s' hx ⟨kA,e,I',hk⟩;simp only[Nat.zero_add]at hk ⊢;have hj:j<vs.length:=(Y2.mp hx).1;obtain⟨k,hkj⟩:∃k,kz[j]?=some k:=⟨_,ZZ (by omega)⟩
  have hz:kA.size<=vs.length:=by
   have h1:=hk.length;rw[YC,YD]at h1;omega
  refine ZY (wpAny_attempt (YU (turn j x k _ s' hx hkj (fun p hp=>by simp[hp]) I') (fun v s'' he=>?_) fun _ _ hF=>hF.elim));obtain⟨⟨t2,rfl⟩,I2⟩:=he
  try dsimp only
  have nk:=(I2.pin (kS,seqObj "list" kA e) (by simp)).1;have na:=(I2.pin (D,seqObj "list" #[] e1) (by simp)).1;have s1:=YM s''.heap kS (Obj.mapSeq (·.push (.int k t2)));obtain⟨c2,hc2⟩:∃c2,(s''.heap.update kS (Obj.mapSeq (·.push (.int k t2)))).get? kS=some (seqObj "list" (kA.push (.int k t2)) c2):=⟨_,get?_update_seq nk (·.push (.int k t2))⟩;have ek:kz.take (j+1)=kz.take j++[k]:=by rw[List.take_add_one,hkj];simp
  have ea:(kA.push (Value.int k t2)).toList=kA.toList++[Value.int k t2]:=by simp
  refine ZY (listUpdate_at nk rfl ?_ (by rw[Wt];omega) (Yx (Wx (Array.size_push ..)) (by rw[Wt];omega)));have I3:Inv X pins σ H s'':=Ko I2 fun p hp=>by simp[hp]
  have I4:=Sn (t':=s''.toks) I3 fk s1 hc2 Ky;refine Yb ⟨rfl,kA.push (.int k t2),c2,XF I4 (Ts fd hka) ((s1.2 D hka.symm).trans na) Ky,by rw[ea,ek];exact ksk_snoc hk⟩
 case done=>
  rintro s' ⟨kA,e,I',hk⟩
  have hk':IntsAre kA.toList kz:=by
   have e3:kz.take (0+vs.length)=kz:=WH (by omega);rw[e3]at hk;exact hk
  have nk:=(I'.pin (kS,seqObj "list" kA e) (by simp)).1
  try dsimp only
  refine ZY (listItems_at nk rfl ?_);exact RD I' fk fd hka hk' hlen h64 fun h3 tk3 out c I3 k3=>h _ out c I3 k3
def Oo{f:Value}{n:Nat}(I:Inv X pins σ H s)(fd:FpOk X pins H D)(ho:s.heap.get? D=some (seqObj "list" vs.toArray n))(hlen:kz.length=vs.length)(h64:vs.length<64)
  (turn:∀(i:Nat) (v:Value) (k:Int) (pins':List (Addr×Obj)) (s':Shared),vs[i]?=some v->kz[i]?=some k->(∀p∈pins,p∈pins')->Inv X pins' σ H s'->
   wpAny (model X.prog X.w) A (call f [v]) (fun r s''=>(∃t,r=.int k t)/\Inv X pins' σ H s'') (fun _ _=>False) s')
  (h:∀s' out c,Inv X (pins++[(D,seqObj "list" out c)]) σ H s'->KskOut false kz vs out.toList->P (.done (.ret .none)) s') :
  wpAny (model X.prog X.w) A (ksk_tree D f false) P E s:=by
 have s1:=YM s.heap D (Obj.mapSeq fun _=>(#[]:Array Value));obtain⟨e1,ho1⟩:∃e1,(s.heap.update D (Obj.mapSeq fun _=>(#[]:Array Value))).get? D=some (seqObj "list" #[] e1):=⟨_,get?_update_seq ho fun _=>#[]⟩;have I1:=Sn (t':=s.toks) I fd s1 ho1 Ky;unfold ksk_tree;refine ZY (listItems_at ho rfl ?_);refine ZY (listUpdate_at ho rfl ?_ (by rw[Yp,Wt];omega) (Wb _));refine ZY (seqEpoch_at ho1 rfl ?_);refine ZY (wpAny_newTuple ?_ (by show vs.length<=_;rw[Wt];omega));refine ZY (wpAny_newList ?_ (Wb _));refine W7 ?_;have I2:=I1.kept (h':=(s.heap.update D (Obj.mapSeq fun _=>(#[]:Array Value))).push (seqObj "tuple" vs.toArray 0)) (t':=s.toks) fun b o g=>Yc _ g;generalize eh:(s.heap.update D (Obj.mapSeq fun _=>(#[]:Array Value))).push (seqObj "tuple" vs.toArray 0)=h2 at *;have fk:=I2.fpOk (b:=h2.objs.size) (H':=H) (Yi _) (I2.hok.fresh (Yi _));have hDk:h2.objs.size≠D:=fun z=>fk.2.2.2.2.2 (D,seqObj "list" #[] e1) (by simp) z.symm;have fk0:FpOk X pins H h2.objs.size:=EK fk fun p hp=>by simp[hp]
 have I3:=I2.kept (h':=h2.push (seqObj "list" #[] 0)) (t':=s.toks) fun b o g=>Yc _ g;have I4:=XF (Ko I3 (pins':=pins) fun p hp=>by simp[hp]) fk0 (o:=seqObj "list" #[] 0) (Ym _ rfl) Ky;have I5:=XF I4 (Ts fd hDk) (I3.pin (D,seqObj "list" #[] e1) (by simp)).1 Ky;exact E7 (s:={s with heap:=h2.push (seqObj "list" #[] 0)}) I5 fk0 fd hDk hlen h64 turn h
end
def BK{α β:Type}{R:α->β->Prop}{p l2:List β}(h:p.Perm l2):∀l1:List α,Paired R l1 l2->∃q,q.Perm l1/\Paired R q p:=by
 induction h with
 |nil=>intro l1 r;cases r;exact⟨[],.nil,.nil⟩
 |cons x _ ih=>
  intro l1 r;cases r with
  |cons a t=>
   obtain⟨q,h1,h2⟩:=ih _ t;exact⟨_::q,h1.cons _,.cons a h2⟩
 |swap x y l=>
  intro l1 r;cases r with
  |cons a t=>
   cases t with
   |cons b u=>exact⟨_::_::_,.swap _ _ _,.cons b (.cons a u)⟩
 |trans _ _ ih1 ih2=>
  intro l1 r;obtain⟨q,h1,h2⟩:=ih2 l1 r;obtain⟨q',h3,h4⟩:=ih1 q h2;exact⟨q',h3.trans h1,h4⟩
abbrev KR(p:Int×V)(q:Int×Value):Prop:=p.1=q.1/\RelV p.2 q.2
def DH:∀(kz:List Int) {xs:List V}{vs:List Value},Vals xs vs->Paired KR (kz.zip xs) (kz.zip vs)
 |[],_,_,_=>.nil
 |_::_,_,_,.nil=>.nil
 |_::kz,_,_,.cons a t=>.cons ⟨rfl,a⟩ (DH kz t)
def BR:∀{qs:List (Int×V)}{ps:List (Int×Value)},Paired KR qs ps->Vals (qs.map Prod.snd) (ps.map Prod.snd)
 |_,_,.nil=>.nil
 |_,_,.cons a t=>.cons a.2 (BR t)
def D8:∀{qs:List (Int×V)}{ps:List (Int×Value)},Paired KR qs ps->∀p∈qs,∃q∈ps,p.1=q.1
 |_,_,.cons a t,p,h=>by
  rcases Yo.mp h with rfl|h
  ·exact⟨_,Yy,a.1⟩
  ·obtain⟨q,h1,h2⟩:=D8 t p h;exact⟨q,Yu _ h1,h2⟩
def Cu:∀{qs:List (Int×V)}{ps:List (Int×Value)},Paired KR qs ps->ps.Pairwise (fun p q=>if false then q.1<=p.1 else p.1<=q.1)->qs.Pairwise fun p q=>p.1<=q.1
 |_,_,.nil,_=>.nil
 |_,_,.cons a t,h=>by
  obtain⟨h1,h2⟩:=YN.mp h;refine YN.mpr ⟨fun p hp=>?_,Cu t h2⟩;obtain⟨q,hq,e⟩:=D8 t p hp
  have:=h1 q hq
  simp only[W2,Qf]at this;rw[a.1,e];exact this
def Mc{X:Cx}{pins:List (Addr×Obj)}{σ:L2.St}{H:Hp}{s:Shared}{Q:Value->Shared->Prop}{E:Value->Shared->Prop}{f l:Addr}{xs:List V}{vs:List Value}{kz:List Int}(I:Inv X pins σ H s)(hl:PlainL s.heap l vs.toArray)(r:Vals xs vs)(hlen:kz.length=xs.length)(h64:xs.length<64)
  (turn:∀(i:Nat) (v:Value) (k:Int) (pins':List (Addr×Obj)) (s':Shared),vs[i]?=some v->kz[i]?=some k->(∀p∈pins,p∈pins')->Inv X pins' σ H s'->
   wpAny (model X.prog X.w) X.A.in1.in1 (call (.ref f) [v]) (fun r s''=>(∃t,r=.int k t)/\Inv X pins' σ H s'') (fun _ _=>False) s')
  (h:∀(D:Addr) (ys:List V) (ps:List (Int×V)) s',H D=none->Inv X pins σ (upd H D (.lst ys)) s'->ps.Perm (kz.zip xs)->ys=ps.map Prod.snd->ps.Pairwise (fun p q=>p.1<=q.1)->Q (.ref D) s') :
  wpAny (model X.prog X.w) X.A (call (.builtin "sorted") [.ref l] [(Str.ofString "key",.ref f)]) Q E s:=by
 have h64':vs.length<64:=by rw[←r.length];exact h64
 refine call_function_entry_kw kind_sorted plain_sorted entry_sorted (ksk_s1 _ _) ?_;unfold Builtin.«sorted»;refine ZY (m:=checkCount "sorted" 1 1 _) (Yb ?_);refine ZY (collect_list (vs:=vs) (let ⟨o,n,e1,e2,_,e3⟩:=hl;⟨o,e1,e2,n,e3⟩) ?_ (by rw[Wt];omega));refine ZY (wpAny_newList ?_ (by rw[Wt];omega));show wpAny _ _ _ _ _ {s with heap:=(gotH s.heap vs).push (seqObj "list" vs.toArray 0)}
 have k1:∀b o,s.heap.get? b=some o->(gotH s.heap vs).get? b=some o:=fun b o g=>M3 g;have I1:Inv X pins σ H {s with heap:=gotH s.heap vs,toks:=s.toks}:=I.kept k1
 have fd:FpOk X pins H (gotH s.heap vs).objs.size:=I1.fpOk (Yi _) (I1.hok.fresh (Yi _));have hb:X.s₀.heap.objs.size<=(gotH s.heap vs).objs.size:=I1.sz;have I2:Inv X pins σ H {s with heap:=(gotH s.heap vs).push (seqObj "list" vs.toArray 0),toks:=s.toks}:=I1.kept fun b o g=>Yc _ g
 have ho:((gotH s.heap vs).push (seqObj "list" vs.toArray 0)).get? (gotH s.heap vs).objs.size=some (seqObj "list" vs.toArray 0):=Ym _ rfl;show wpAny _ _ (do let _ ←holding _ (call (.builtin "list.sort") [.ref (gotH s.heap vs).objs.size] _);_) _ _ _
 generalize eD:(gotH s.heap vs).objs.size=D at *;refine ZY (W7 (wpAny_call_entry_kw slot_list_sort ⟨_,ho,rfl⟩ entry_list_sort ?body (ksk_l1 _ _)));show wpAny _ _ (Builtin.«list.sort» ⟨[.ref D],[(Str.ofString "key",.ref f)]⟩) _ _ _;rw[ksk_t1];refine Oo I2 fd ho (by rw[hlen,r.length]) h64' turn fun s' out c I' k'=>⟨_,rfl,?_⟩;obtain⟨ps,hp,ho',hs⟩:=k';obtain⟨qs,hq,rq⟩:=BK hp (kz.zip xs) (DH kz r);have hD:=(I'.pin (D,seqObj "list" out c) (by simp)).1;have I3:Inv X pins σ H s':=Ko I' fun p hp=>by simp[hp]
 have hlq:(qs.map Prod.snd).length<=sizeLine:=by
  rw[Ya,hq.length_eq,List.length_zip,hlen,Nat.min_self,Wt];omega
 have I4:=adopt (xs:=qs.map Prod.snd) (us:=out.toList) (n:=c) I3 fd hb (by rw[Array.toArray_toList];exact hD) (by rw[ho'];exact BR rq) hlq;have z:=h D _ qs s' fd.1 I4 hq rfl (Cu rq hs);rw[←eD]at z;exact Yb ⟨_,rfl,z⟩
open PySem.W
structure Tabs (X:Cx) (c P:Addr):Prop where
 code:X.env.code=.ref c
 hd:CodeHd X.base c P
 gne:mainGlobals≠P
 blt:X.base.BuiltinsAt X.mg P
 ex:P∈X.ex
abbrev tab0(P:Addr):Addr×Obj:=(P,tabObj #[])
def lamX(X:Cx)(N':List Str)(qual:Str)(sc:Scope)(cl:List (Str×Addr))(f:Addr)(cv:Value)(A:Around)(s₃:Shared)(H₃:Hp):Cx:=
 {X with A:=A.deeper (envX qual sc s₃.heap.objs.size f cv cl),N:=N',s₀:=s₃,H₀:=H₃,env:=envX qual sc s₃.heap.objs.size f cv cl,outer:=X.stack,stack:=envX qual sc s₃.heap.objs.size f cv cl::X.stack,ex:=[],fn:=fun _=>false,pn:=[],xe:=fun _ _=>False}
structure LamOk (X:Cx) (N':List Str) (φ:List (Option Nat)) (sc:Scope) (x:Str):Prop where
 kind:sc.kind=.function
 co:sc.isCoroutine=false
 gen:sc.isGenerator=false
 nocell:∀y∈sc.names,y.2≠.cell
 par:sc.names.lookup x=some .local
 first:N'[0]?=some x
 frees:∀y∈sc.names,y.2=.free->X.env.scope.names.lookup y.1=some .cell
 len:φ.length=N'.length
 pick:∀(i:Nat) (y:Str) (j:Nat),N'[i]?=some y->φ[i]?=some (some j)->X.N[j]?=some y/\sc.names.lookup y=some .free
def Dz(sc osc:Scope)(N N':List Str)(φ:List (Option Nat))(x:Str):Bool:=
 sc.kind == .function && !sc.isCoroutine && !sc.isGenerator&&sc.names.lookup x==some .local&&N'[0]? == some x&&(sc.names.all fun y=>y.2 != .cell&&(y.2 != .free || osc.names.lookup y.1==some .cell)) &&
  φ.length==N'.length&&((N'.zip φ).all fun p=>match p.2 with|none=>true|some j=>N[j]? == some p.1&&sc.names.lookup p.1==some .free)
def LamOk.of {X:Cx}{N':List Str}{φ:List (Option Nat)}{sc:Scope}{x:Str} (h:Dz sc X.env.scope X.N N' φ x=true):LamOk X N' φ sc x:=by
 unfold Dz at h;simp only[YA,beq_iff_eq,WE,Qv,bne_iff_ne,ne_eq,Wi]at h;obtain⟨⟨⟨⟨⟨⟨⟨h1,h2⟩,h3⟩,h4⟩,h5⟩,h6⟩,h7⟩,h8⟩:=h;refine⟨h1,h2,h3,fun y hy=>(h6 y hy).1,h4,h5,fun y hy hf=>?_,h7,fun i y j hi hj=>?_⟩
 ·rcases(h6 y hy).2 with z|z
  ·exact absurd hf z
  ·exact z
 ·have hz:(N'.zip φ)[i]?=some (y,some j):=by rw[List.getElem?_zip_eq_some];exact⟨hi,hj⟩
  have:=h8 _ (Y4 hz)
  simpa using this
section
variable {X:Cx}{pins:List (Addr×Obj)}{σ:L2.St}{H:Hp}{A:Around}{E:Value->Shared->Prop}{s:Shared}{N':List Str}{φ:List (Option Nat)}{sc:Scope}{x qual:Str}{cl:List (Str×Addr)}{f c':Addr}{body:Expr}{te:TE}{params:Arguments}{pm ctv:Value}{oc:Obj}
def XE(φ:List (Option Nat))(σ:L2.St)(v:V):L2.St:=(atStart φ σ).set 0 (some v)
def MJ{v:Value}{x1:V}{k:Int}(I:Inv X pins σ H s)(S:LamOk X N' φ sc x)(hroom:A.depth<recursionLimit)(hh:A.handled=none)(hfr:A.frames=some X.stack)(p1:∀y c,cl.lookup y=some c->X.env.cells.lookup y=some c)(p3:∀y∈sc.names,y.2=.free->∃c,cl.lookup y.1=some c)(hf:(f,kla_obj "<lambda>" qual params body sc cl pm c' ctv)∈pins)(hc:(c',oc)∈pins)(hoc:∃vs t,oc.data=.fields vs/\vs[1]?=some (.str qual t))(hbind:bindArgs (kla_fn "<lambda>" qual params body sc cl pm (.ref c') ctv) ⟨[v],[]⟩=pure [(x,v)])(hin:∀s₃ H₃,PE (lamX X N' qual sc cl f (.ref c') A s₃ H₃) body te)(r:RelV x1 v)(h:te (XE φ σ x1) H fun y H'=>H'=H/\y=.int k) :
  wpAny (model X.prog X.w) A (call (.ref f) [v]) (fun r s''=>(∃t,r=.int k t)/\Inv X pins σ H s'') (fun _ _=>False) s:=by
 have nf:=I.pin _ (Y0 _ hf);have nc:=I.pin _ (Y0 _ hc);obtain⟨vs,t,hd,hq⟩:=hoc;refine wpAny_call (kla_callFunE hroom nf.1 rfl S.co S.gen rfl ⟨c',oc,vs,t,rfl,nc.1,hd,hq⟩ ?_);rw[hbind];refine Yb (wpAny_newFunctionEnv S.nocell (by intro y hy;rw[Yf.mp hy];exact S.par) (fun h₁ hns hsb=>?_) S.kind);have old:∀b o,s.heap.get? b=some o->h₁.get? b=some o:=fun b o g=>hsb.extBut b o (Y6 (Yk g)) (Yc _ g);refine⟨I.nolimit.keeps old,?_⟩;show codeAny _ _ (.expr body (envX qual sc s.heap.objs.size f (.ref c') cl)) _ _;have noA:∀b:Addr,b∉(lamX X N' qual sc cl f (.ref c') A s H).ex:=fun b z=>absurd (show b∈([]:List Addr)from z) (by simp)
 have OK:(lamX X N' qual sc cl f (.ref c') A s H).Ok:=by
  refine⟨I.ok.mod,S.kind,rfl,rfl,Yi _,fun y z c h1 h2=>I.ok.inj y z c (p1 y c h1) (p1 z c h2),fun y hy=>?_,(fun y c hx=>by cases hx),fun _=>hh,Around.frames_deeper hfr,.inr ⟨rfl,rfl⟩,fun b z=>absurd z (noA b),I.bs,Yx I.ok.bsz I.sz,fun b _ _=>noA b,fun b z=>absurd z (noA b),I.stack,I.stkFree⟩;have hy:sc.names.lookup y=some .cell\/sc.names.lookup y=some .free:=hy;rcases hy with hy|hy
  ·exact absurd rfl (S.nocell _ (YY hy))
  ·exact p3 _ (YY hy) rfl
 have hf0:H s.heap.objs.size=none:=I.hok.fresh (Yi _);have hlen0:(XE φ σ x1).length=N'.length:=by unfold XE;rw[W4];unfold atStart;rw[Ya];exact S.len
 have J:Inv (lamX X N' qual sc cl f (.ref c') A s H) [] (XE φ σ x1) H {s with heap:=h₁,toks:=s.toks+([(x,v)]:List (Str×Value)).length}:=by
  refine⟨OK,rfl,I.bare,Un.kept old,⟨_,hns,fun i y w h1 h2 h3=>?_⟩,fun y c hx=>?_,hf0,fun y c hx=>I.freeC y c (p1 y c hx),fun p hp=>?_,I.hok.kept old,hlen0⟩
  ·have h1:N'[i]?=some y:=h1;unfold XE at h2;by_cases hi:i=0
   ·subst hi;rw[S.first]at h1
    cases h1
    have e0:w=x1:=by
     rw[Vj]at h2;rw[Yg rfl]at h2;split at h2
     ·cases h2;rfl
     ·cases h2
    subst e0;exact⟨v,r,.inl ⟨S.par,by simp⟩⟩
   ·rw[Qp (fun z=>hi z.symm)]at h2;obtain⟨j,hj,hv⟩:=Sl h2;obtain⟨hN,hfr⟩:=S.pick i y j h1 hj;obtain⟨m,_,hl⟩:=I.loc;have hm:(y,NameKind.free)∈sc.names:=YY hfr;have hcell:=S.frees _ hm rfl;obtain⟨u,ru,lk⟩:=hl j y w hN hv (.inr (.inl hcell));refine⟨u,ru,.inr ⟨.inr hfr,?_⟩⟩;obtain⟨c,hc⟩:=p3 _ hm rfl;rcases lk with⟨hk,_⟩|⟨_,c1,hc1,hcl1⟩
    ·have hk':X.env.scope.names.lookup y=some .local:=hk;rw[hcell]at hk';cases hk'
    ·have e:=p1 _ _ hc;rw[hc1]at e;cases e
     obtain⟨o,ho,hd⟩:=hcl1;exact⟨_,hc,o,old _ o ho,hd⟩
  ·obtain⟨w,o,ho,hd⟩:=I.cell y c (p1 y c hx);exact⟨w,o,old _ o ho,hd⟩
  ·exact absurd hp (by simp[lamX])
 refine kla_codeExpr (YU (hin s H [] _ _ _ _ J h) (fun u s' hq=>?_) fun _ _ z=>z.elim);obtain⟨y,H',J',ry,eH,ey⟩:=hq;subst eH;subst ey;have z:=I.after (Q:=fun y H1=>H1=H'/\y=.int k) ⟨.int k,_,J'.os,J'.bare,J'.base,J'.hok,ry,rfl,rfl⟩;obtain⟨y,H2,I2,ry2,eH2,ey2⟩:=z;subst eH2;subst ey2;exact⟨ry2,I2⟩
def ET{P c:Addr}{pos:Pos}{Q:Value->Shared->Prop}(I:Inv X (tab0 P::pins) σ H s)(T:Tabs X c P)(ne:∀p∈X.pn++pins,p.1≠P)(S:LamOk X N' φ sc x)(hdef:defaultsOf params X.env=([],[]))
  (h:∀(f c':Addr) (oc:Obj) (cl:List (Str×Addr)) (pm ctv:Value) (ps:Array Value) (s':Shared),Inv X (pins++[(P,tabObj ps)]++[(c',oc)]++[(f,kla_obj "<lambda>" (X.env.qual++"<lambda>") params body sc cl pm c' ctv)]) σ H s'->
   (∃vs t,oc.data=.fields vs/\vs[1]?=some (.str (X.env.qual++"<lambda>") t))->(∀y c,cl.lookup y=some c->X.env.cells.lookup y=some c)->(∀y∈sc.names,y.2=.free->∃c,cl.lookup y.1=some c)->Q (.ref f) s') :
  wpAny (model X.prog X.w) A (eval (.Lambda params body sc pos) X.env) Q E s:=by
 obtain⟨cl,hcl,p1,p3⟩:=BI (env:=X.env) (sc:=sc) fun x hx hf=>I.ok.has x.1 (.inl (S.frees x hx hf));obtain⟨bm,ob,b1,b2,b3,b4,b5,b6⟩:=T.blt;have nP:=I.pin (tab0 P) (by simp);have I0:Inv X pins σ H s:=Ko I fun p hp=>by simp[hp]
 refine kla_eval hdef (kla_makeFunction (mg:=X.mg) (P:=P) (c:=c) (ps:=#[]) hcl I.ok.glob (I.mod.glob.keeps I.bk) T.code (T.hd.keeps I.bk) nP.1 True.intro rfl T.gne ⟨bm,ob,b1,b2,b3,b4,I.bk _ _ b5,b6⟩ fun c' ctv h' tk hx hge hlt hrec htb=>?_);have I1:Inv X pins σ H {s with heap:=h',toks:=tk}:=I0.turned (it:=P) (fun b o hb g=>hx b o hb g) nP.2.1 nP.2.2.1 (.inl T.ex) (I.ok.exf P T.ex).2 ne
 have fP:FpOk X pins H P:=⟨nP.2.1,nP.2.2.1,nP.2.2.2.1,.inl T.ex,(I.ok.exf P T.ex).2,ne⟩;have I1:=XF I1 fP (o:=tabObj (#[]++#[rawInt pos.line,rawInt pos.col,.ref c'])) htb fun w z=>by cases z
 have hPc:P≠c':=Y6 (YB (Yk nP.1) hge);have fc:FpOk X (pins++[(P,tabObj (#[]++#[rawInt pos.line,rawInt pos.col,.ref c']))]) H c':=Ts (I0.fpOk hge (I0.hok.fresh hge)) hPc;have ff:FpOk X (pins++[(P,tabObj (#[]++#[rawInt pos.line,rawInt pos.col,.ref c']))]) H h'.objs.size:=I1.fpOk (Yi _) (I1.hok.fresh (Yi _));obtain⟨c₂,oc,vs,t,e2,hoc,hd,hv⟩:=hrec;cases e2
 have I2:=I1.kept (h':=h'.push (kla_obj "<lambda>" (X.env.qual++"<lambda>") params body sc cl ((X.mg "__name__").getD .none) c' ctv)) (t':=tk) fun b o g=>Yc _ g;have I3:=XF I2 fc (o:=oc) (Yc _ hoc) fun w z=>by rw[hd]at z;cases z
 have I4:=XF I3 (Ts ff (Y6 hlt)) (o:=kla_obj "<lambda>" (X.env.qual++"<lambda>") params body sc cl ((X.mg "__name__").getD .none) c' ctv) (Ym _ rfl) fun w z=>by cases z
 exact h _ c' oc cl _ ctv _ _ I4 ⟨vs,t,hd,hv⟩ p1 p3
end
def PEl(X:Cx)(P:Addr)(e:Expr)(t:TE):Prop:=
 ∀(pins:List (Addr×Obj)) (s:Shared) (σ:L2.St) (H:Hp) (Q:VK),(∀p∈X.pn++pins,p.1≠P)->Inv X (tab0 P::pins) σ H s->t σ H Q->wpAny (model X.prog X.w) X.A (eval e X.env) (fun u s'=>∃ps,EP X ((P,tabObj ps)::pins) σ Q u s') X.xe s
def PSl(X:Cx)(P:Addr)(st:Stmt)(t:TS):Prop:=
 ∀(pins:List (Addr×Obj)) (s:Shared) (σ:L2.St) (H:Hp) (D:Ends),(∀p∈X.pn++pins,p.1≠P)->Inv X (tab0 P::pins) σ H s->t D σ H->wpAny (model X.prog X.w) X.A (exec st X.env) (fun f s'=>∃ps,SP X ((P,tabObj ps)::pins) D f s') X.xe s
def PSsl(X:Cx)(P:Addr)(st:List Stmt)(t:TS):Prop:=
 ∀(pins:List (Addr×Obj)) (s:Shared) (σ:L2.St) (H:Hp) (D:Ends),(∀p∈X.pn++pins,p.1≠P)->Inv X (tab0 P::pins) σ H s->t D σ H->wpAny (model X.prog X.w) X.A (execs st X.env) (fun f s'=>∃ps,SP X ((P,tabObj ps)::pins) D f s') X.xe s
def DY(K:Za)(φ:List (Option Nat))(te:TE)(t:TA):TE:=fun σ H Q=>t σ H fun vs H1=>∃(l:Addr) (us:List V) (kz:List Int),vs=[.ref l]/\SqL K H1 l us/\us.length<64/\kz.length=us.length/\
 (∀(i:Nat) u k,us[i]?=some u->kz[i]?=some k->te (XE φ σ u) H1 fun y H'=>H'=H1/\y=.int k)/\
 ∀(D:Addr) (ps:List (Int×V)),H1 D=none->ps.Perm (kz.zip us)->ps.Pairwise (fun p q=>p.1<=q.1)->Q (.ref D) (upd H1 D (.lst (ps.map Prod.snd)))
section
variable {X:Cx}{P c:Addr}{N':List Str}{φ:List (Option Nat)}{sc:Scope}{x:Str}{params:Arguments}{body e a b:Expr}{es:List Expr}{te t ta tb:TE}{tl tr:TA}{u:TS}{pos p1 lpos kpos:Pos}{k:Nat}{st:Stmt}{rest:List Stmt}{v w:TS}
def MA(T:Tabs X c P)(hr:Room k X.A)(S:LamOk X N' φ sc x)(hg:Gl X "sorted")(hm:X.mg "sorted"=none)(ha:PA X [a] tl)(hbind:∀qual cl pm c' ctv v,bindArgs (kla_fn "<lambda>" qual params body sc cl pm (.ref c') ctv) ⟨[v],[]⟩=pure [(x,v)])(hin:∀qual cl f cv A s₃ H₃,PE (lamX X N' qual sc cl f cv A s₃ H₃) body te)(hdef:defaultsOf params X.env=([],[]):=by rfl)(he:starEach [a] X.env=[(false,eval a X.env)]:=by rfl) :
  PEl X P (.Call (.Name "sorted" p1) [a] [⟨some "key",.Lambda params body sc lpos,kpos⟩] pos) (DY X.K φ te tl):=by
 intro pins s σ H Q ne I h;refine Qa (Kl I hg hm boot_sorted ?_ (by decide) (by decide));refine callWith_kw (e:=a) (rest:=[]) (thn (ha pos (tab0 P::pins) s σ H _ I h) fun us s1 ⟨vs,H1,I1,r1,q1⟩=>?_) (by show backTo pos (starEach [a] X.env)=_;rw[he];rfl) (by rw[he];rfl);obtain⟨l,xs,kz,rfl,hl,h64,hlen,turn,fin⟩:=q1;obtain⟨u1,rfl,ru⟩:=r1.one;obtain rfl:u1=Value.ref l:=ru;obtain⟨its,ri,hp,_⟩:=I1.list hl;show wpAny _ _ (evalAll [do let v ←eval (.Lambda params body sc lpos) X.env;standAt pos;pure v]) _ _ _
 unfold evalAll;refine ZY (ZY (ET I1 T ne S hdef fun f c' oc cl pm ctv pt s2 I2 hoc q1 q3=>?_));refine ZY (wpAny_standAt (Yb (ZY (W7 (Yb (Yb ?_))))));show wpAny _ _ (call (.builtin "sorted") [.ref l] [(Str.ofString "key",.ref f)]) _ _ _;obtain⟨its2,ri2,hp2,_⟩:=I2.list hl;refine Mc I2 hp2 ri2 hlen h64 (fun i v1 kk pins' s' hv hk hsub I'=>?_) fun D ys ps s' hD I' h1 h2 h3=>?_
 ·obtain⟨y,hy,ry⟩:=(show ∃y,xs[i]?=some y/\RelV y v1 from by
   have hi:i<its2.length:=(Y2.mp hv).1;have hi2:i<xs.length:=by rw[ri2.length];exact hi
   obtain⟨u,hu,ru⟩:=ri2.get (ZZ hi2);rw[hv]at hu;cases hu
   exact⟨_,ZZ hi2,ru⟩)
  have hd:=hr.dp;exact MJ (A:=X.A.in1.in1) (pm:=pm) (ctv:=ctv) (c':=c') (oc:=oc) I' S (by show X.A.depth<_;omega) hr.hd I'.ok.frames q1 q3 (hsub _ (by simp)) (hsub _ (by simp)) hoc (hbind _ _ _ _ _ _) (fun s₃ H₃=>hin _ _ _ _ _ s₃ H₃) ry (turn i y kk hy hk)
 ·subst h2
  exact⟨pt,.ref D,_,Ko I' fun p hp=>by
   rcases Yo.mp hp with rfl|hp
   ·simp
   ·simp[hp],rfl,fin D ps hD h1 h3⟩
end
section
variable {X:Cx}{P c:Addr}{pins pins':List (Addr×Obj)}{e a b:Expr}{es:List Expr}{te t ta tb:TE}{tc:TT}{u:TS}{pos:Pos}{st:Stmt}{ss rest:List Stmt}{v w:TS}{D:Ends}
def PX(h1:PS X st v)(h2:PSsl X P rest u):PSsl X P (st::rest) (tSeq v u):=by
 intro pins s σ H D ne I h;refine Qq (thn (h1 _ s σ H {D with nx:=u D} I h) fun f s1 q=>?_)
 cases f with
 |next=>
  obtain⟨σ',H',I',q⟩:=q;exact h2 pins s1 σ' H' D ne I' q
 |ret v=>exact⟨#[],q⟩
 |brk=>exact⟨#[],q⟩
 |cont=>exact⟨#[],q⟩
def Mj(h1:PSl X P st v)(h2:PSs X rest u):PSsl X P (st::rest) (tSeq v u):=by
 intro pins s σ H D ne I h;refine Qq (thn (h1 pins s σ H {D with nx:=u D} ne I h) fun f s1 ⟨ps,q⟩=>?_)
 cases f with
 |next=>
  obtain⟨σ',H',I',q⟩:=q;exact thn (h2 _ s1 σ' H' D I' q) fun _ _ z=>⟨ps,z⟩
 |ret v=>exact⟨ps,q⟩
 |brk=>exact⟨ps,q⟩
 |cont=>exact⟨ps,q⟩
def GH{x:Str}{pos':Pos}(i:Nat)(hN:X.N.Nodup)(he:PEl X P e te)(hi:X.N[i]?=some x:=by rfl)(hx:Loc X.env.scope x:=by first|exact Or.inl rfl|exact Or.inr rfl)(hs:swapsWith e (some (.Name x pos')) pos.line X.env=pure false:=by rfl)(hf:X.fn x=true\/X.env.scope.names.lookup x=some .local:=by first|exact .inl rfl|exact .inr rfl|assumption) :
  PSl X P (.Assign [.Name x pos'] e pos) (tAsg te (XH i)):=by
 intro pins s σ H D ne I h;refine wpAny_Assign_Name (thn (he pins s σ H _ ne I h) fun v s1 ⟨ps,y,H1,I1,r1,q1⟩=>?_) hs;exact Kg I1 hN hi hx r1 (fun s2 I2=>⟨ps,_,H1,I2,q1⟩) hf
end
def LawT(P:Program)(w:World)(K:Frag)(mg:Str->Option Value)(base:Heap)(k:Nat)(f:Addr)(fd:FuncData)(x:Str)(sp:Sp)(Pl:Addr):Prop:=
 ∀(A:Around) (s:Shared) (H:Hp) (args:Args) (u:Value) (v:V) (Q:VK),Room k A->Env0 P w K mg base A [] s H->s.heap.get? Pl=some (tabObj #[])->H Pl=none->base.get? Pl=none->BindsTo s fd args [(x,u)]->RelV v u->sp [v] H Q (fun _ _ _=>False)->
  codeAny (model P w) A (.call (.ref f) args) (fun r s'=>∃u v H' ps,r=.ok (.ret u)/\s'.os=s.os/\AllBare s'.gens/\Un [] [Pl] H H' s.heap s'.heap/\HOk P w H' s'.heap/\RelV v u/\Q v H'/\s'.heap.get? Pl=some (tabObj ps)) s
abbrev lawX(P:Program)(w:World)(K:Frag)(mg:Str->Option Value)(base:Heap)(N:List Str)(qual:Str)(scope:Scope)(f:Addr)(cd:Value)(A:Around)(s:Shared)(H:Hp)(Pl:Addr):Cx:=
 { (cxOf CX0 P w K mg base N qual scope f cd A [] s H (fun _ _ _=>False)).nox with ex:=[Pl]}
section
variable {P:Program}{w:World}{K:Frag}{mg:Str->Option Value}{base:Heap}{N ps:List Str}{qual x:Str}{scope:Scope}{f:Addr}{cd:Value}{A:Around}{s s1:Shared}{H:Hp}{us:List Value}{vs:List V}{Pl c:Addr}
def RT(S:FnScope N ps scope)(hd:A.handled=none)(e0:Env0 P w K mg base A [] s H)(hl:vs.length=ps.length)(r:Vals vs us)(hT:s.heap.get? Pl=some (tabObj #[]))(hH:H Pl=none)(hb:base.get? Pl=none)(y:InCallC s s.heap.objs.size (bindL (envOfC qual scope s.heap.objs.size f cd).kindOf (ps.zip us) fun _=>none) (cellsFrom (s.heap.objs.size+1) scope.names []) (bindC (envOfC qual scope s.heap.objs.size f cd).kindOf (ps.zip us) fun _=>none) s1) :
  Inv (lawX P w K mg base N qual scope f cd A s H Pl) [tab0 Pl] (start N vs) H s1:=by
 have I:=(DS (CX:=CX0) (E:=fun _ _ _=>False) S hd e0 hl r y).wish fun _ _=>False;obtain⟨h1,tk,rfl,hk⟩:=y.done;have hlt:=Yk hT;have o:=I.ok;have nofs:∀b,b∉(lawX P w K mg base N qual scope f cd A s H Pl).fs:=fun b z=>absurd (show b∈([]:List Addr)from z) (by simp)
 have exm:∀{b},b∈(lawX P w K mg base N qual scope f cd A s H Pl).ex->b=Pl:=fun {b} z=>Yf.mp (show b∈[Pl]from z)
 have cne:∀x c,(envOfC qual scope s.heap.objs.size f cd).cells.lookup x=some c->c≠Pl:=fun x c h z=>by
  have:=y.above x c (YY h)
  rw[z]at this;exact Ws _ (WU hlt this)
 refine⟨⟨o.mod,o.kind,o.glob,o.blt,o.above,o.inj,o.has,o.cab,o.hd,o.frames,o.stk,fun b z=>?_,o.bs,o.bsz,fun b q hq z=>?_,fun b z=>nofs b,o.funs,o.frf⟩,I.os,I.bare,?_,I.loc,I.cell,I.free,I.freeC,fun p hp=>?_,I.hok,I.len⟩
 ·rw[exm z];exact⟨Y6 hlt,cne⟩
 ·rw[exm z]at hq;have hq:base.get? Pl=some q:=hq;rw[hb]at hq;cases hq
 ·exact I.base.mono (fun _ z=>z) fun b z=>absurd (show b∈([]:List Addr)from z) (by simp)
 ·have e:p=tab0 Pl:=by
   have:p∈([]++[tab0 Pl]:List (Addr×Obj)):=hp
   simpa using this
  subst e;exact⟨hk _ _ hT,hH,Y6 hlt,nofs _,fun v z=>by cases z⟩
def NW{name:Str}{params:Arguments}{body:List Stmt}{dV kV doc pm ct oc:Value}{an od:Option Addr}{osl:Array (Option Value)}{k:Nat}{sp:Sp}(lk:K.lookup f=some ⟨oc,od,.func (PySem.W.fnOf name qual params body scope dV kV doc pm an cd ct),osl⟩)(hcd:PySem.W.codeIn K cd qual=true)(S:FnScope N [x] scope)(hc:cd=.ref c)(hC:CodeHd base c Pl)(hB:base.BuiltinsAt mg Pl)(hgP:mainGlobals≠Pl)
  (hbody:∀(A:Around) (s:Shared) (H:Hp) (v:V) (Q:VK),Room k (A.deeper (envOfC qual scope s.heap.objs.size f cd))->Tabs (lawX P w K mg base N qual scope f cd A s H Pl) c Pl->sp [v] H Q (fun _ _ _=>False)->
   ∃t,PSsl (lawX P w K mg base N qual scope f cd A s H Pl) Pl body t/\t {nx:=fun _ H'=>Q .non H',rt:=Q} (start N [v]) H) :
  LawT P w K mg base (k+1) f (PySem.W.fnOf name qual params body scope dV kV doc pm an cd ct) x sp Pl:=by
 intro A s H args u v Q hr e0 hT hH hb hbd r hsp;have KX:K.In s.heap:=e0.mod.kin.keeps fun b o e=>(e0.bs b o e).1;have lim:s.heap.NoLimit:=e0.mod.nolimit.keeps fun b o e=>(e0.bs b o e).1
 have hkind:∀y∈[(x,u)],scope.names.lookup y.1=some .local\/(scope.names.lookup y.1=some .cell/\((cellsFrom (s.heap.objs.size+1) scope.names []).lookup y.1).isSome=true):=fun y hy=>by
  rw[Yf.mp hy];rcases S.par x (by simp)with q|q
  ·exact .inl q
  ·exact .inr ⟨q,QB _ _ _ (.inl q)⟩
 refine codeAny_call_function hr.depth (KX _ _ lk) rfl S.co S.gen rfl (PySem.W.codeRec_of KX hcd) (hbd _ _ _ _ ?_);refine wpAny_newFunctionEnv_cells S.kind hkind fun env he s1 y=>?_;subst he;refine⟨lim.keeps y.toInCall.keep,codeAny_func ?_⟩;have T:Tabs (lawX P w K mg base N qual scope f cd A s H Pl) c Pl:=⟨hc,hC,hgP,hB,Yf.mpr rfl⟩;obtain⟨t,ht,hq⟩:=hbody A s H v Q (hr.deeper _) T hsp;have I:=RT (ps:=[x]) (us:=[u]) (vs:=[v]) S hr.hd e0 rfl (.cons r .nil) hT hH hb y;refine YU (ht [] s1 (start N [v]) H _ (fun p hp=>by simp[lawX,cxOf]at hp) I hq) (fun fl s' hs=>?_) fun e s' hs=>False.elim hs
 have fin:∀{σ':L2.St} {H':Hp} {v:V} {u:Value} {pt:Array Value},Inv (lawX P w K mg base N qual scope f cd A s H Pl) [(Pl,tabObj pt)] σ' H' s'->RelV v u->Q v H'->
   ∃u' v H' ps,(Except.ok (Flow.ret u):Result)=.ok (.ret u')/\s'.os=s.os/\AllBare s'.gens/\Un [] [Pl] H H' s.heap s'.heap/\HOk P w H' s'.heap/\RelV v u'/\Q v H'/\s'.heap.get? Pl=some (tabObj ps):=
  fun {σ' H' v u pt} J rv q=>⟨u,v,H',pt,rfl,J.os,J.bare,J.base,J.hok,rv,q,(J.pin (Pl,tabObj pt) (by simp)).1⟩
 obtain⟨pt,hs⟩:=hs;cases fl with
 |ret u=>
  obtain⟨v,σ',H',J,rv,q⟩:=hs;exact fin J rv q
 |next=>
  obtain⟨σ',H',J,q⟩:=hs;exact fin (v:=V.non) (u:=Value.none) J rfl q
 |brk=>
  obtain⟨_,_,_,q⟩:=hs;exact False.elim q
 |cont=>
  obtain⟨_,_,_,q⟩:=hs;exact False.elim q
end
def MQ{P:Program}{w:World}{K:Frag}{mg mb:Str->Option Value}{k:Nat}{fa a Pl c:Addr}{fd:FuncData}{x:Str}{sp:Sp}{s₁:Shared}{vs:List Value}{ns:List Int}(KX:K.In s₁.heap)(hns:s₁.heap.Ns mainGlobals mg)(hb:s₁.heap.Ns builtinsNs mb)(hbb:∀x:Str,x≠"__name__"->mb x=bootBuiltins x)(hlim:s₁.heap.NoLimit)(hg:s₁.gens=#[])(hbm:∃bm ob,mg "__builtins__"=some (.ref bm)/\bm≠builtinsNs/\s₁.heap.get? bm=some ob/\ob.cls=.type "module"/\ob.dict=some builtinsNs/\ob.data=.plain)(hT:s₁.heap.get? Pl=some (tabObj #[]))(hKP:K.lookup Pl=none)(hC:codeHdIn K c Pl=true)(ha:s₁.heap.get? a=some {cls:=.type "list",data:=.seq vs.toArray})(hi:IntsAre vs ns)(hl:ns.length<=sizeLine)(hr:Room k callerA)(F:∀base:Heap,K.In base->base.Ns mainGlobals mg->CodeHd base c Pl->base.BuiltinsAt mg Pl->mainGlobals≠Pl->LawT P w K mg base k fa fd x sp Pl)(hbind:∀(s:Shared) (u:Value),BindsTo s fd ⟨[u],[]⟩ [(x,u)])(hsp:∀H:Hp,Only H->SqL K H a (ns.map V.int)->sp [.ref a] H (fun v _=>v=.bl true) fun _ _ _=>False) :
  codeAny (model P w) callerA (.call (.ref fa) ⟨[.ref a],[]⟩) (fun r s'=>r=.ok (.ret (.bool true))/\OldK s₁.heap s'.heap/\s'.os=s₁.os/\AllBare s'.gens) s₁:=by
 have rv:=TH hi;have lenV:=hi.length;have haP:a≠Pl:=fun z=>by rw[z,hT]at ha;cases ha
 obtain⟨bm,ob,b1,b2,b3,b4,b5,b6⟩:=hbm
 have core:∀H:Hp,Only H->SqL K H a (ns.map V.int)->HOk P w H s₁.heap->(∀b,H b≠none->b=a)->(H a≠none->K.lookup a=none)->
   codeAny (model P w) callerA (.call (.ref fa) ⟨[.ref a],[]⟩) (fun r s'=>r=.ok (.ret (.bool true))/\OldK s₁.heap s'.heap/\s'.os=s₁.os/\AllBare s'.gens) s₁:=by
  intro H hO hS hok hA hK
  have hHP:H Pl=none:=by
   cases q:H Pl with
   |none=>rfl
   |some u=>exact absurd (hA Pl (by rw[q];simp)) haP.symm
  have hide:∀{b:Addr},b≠Pl->H b=none->upd H Pl (.tbl #[]) b=none:=fun {b} n e=>by rw[Jv n];exact e
  have base_of:∀{b:Addr} {o:Obj},s₁.heap.get? b=some o->b≠Pl->H b=none->(hidT s₁.heap (upd H Pl (.tbl #[]))).get? b=some o:=fun e n q=>E9 e (hide n q)
  have notA:∀{b:Addr} {o:Obj},s₁.heap.get? b=some o->(∀e n,o.data≠.seq e n)->H b=none:=fun {b o} e d=>by
   cases q:H b with
   |none=>rfl
   |some u=>
    have e':b=a:=hA b (by rw[q];simp);subst e';rw[ha]at e;cases e;exact absurd rfl (d _ _)
  have notP:∀{b:Addr} {o:Obj},s₁.heap.get? b=some o->(∀e,o.data≠.fields e)->b≠Pl:=fun {b o} e d z=>by
   rw[z,hT]at e;cases e;exact absurd rfl (d _)
  have nsK:∀{b:Addr} {m:Str->Option Value},s₁.heap.Ns b m->(hidT s₁.heap (upd H Pl (.tbl #[]))).Ns b m:=fun {b m} ⟨o,es,ep,e,d,r⟩=>
   ⟨o,es,ep,base_of e (notP e fun _ z=>by rw[d]at z;cases z) (notA e fun _ _ z=>by rw[d]at z;cases z),d,r⟩
  have hKb:K.In (hidT s₁.heap (upd H Pl (.tbl #[]))):=fun b o e=>base_of (KX b o e) (fun z=>by rw[z,hKP]at e;cases e) (by
   cases q:H b with
   |none=>rfl
   |some u=>
    have e':b=a:=hA b (by rw[q];simp);subst e';rw[hK (by rw[q];simp)]at e;cases e)
  have hM:Mod K mg (hidT s₁.heap (upd H Pl (.tbl #[]))):=⟨hKb,nsK hns,⟨mb,nsK hb,hbb⟩,let ⟨mc,h1,h2⟩:=hlim;⟨mc,nsK h1,h2⟩⟩
  have bP:∀{b:Addr} {o:Obj},(hidT s₁.heap (upd H Pl (.tbl #[]))).get? b=some o->b≠Pl:=fun {b o} e z=>by
   have:=(Bh e).2
   rw[z,J8]at this;cases this
  have e0:Env0 P w K mg (hidT s₁.heap (upd H Pl (.tbl #[]))) callerA [] s₁ H:=⟨rfl,hM,fun b o e=>⟨(Bh e).1,by have:=(Bh e).2;rw[Jv (bP e)]at this;exact this⟩,Wx (IC _ _),trivial,fun b hb=>absurd (show b∈([]:List Addr)from hb) (by simp),hok,.of_eq hg⟩
  have hC':CodeHd (hidT s₁.heap (upd H Pl (.tbl #[]))) c Pl:=codeHd_of_K hKb hC;have hC1:CodeHd s₁.heap c Pl:=codeHd_of_K KX hC
  have hgP:mainGlobals≠Pl:=by
   obtain⟨o,es,ep,e,d,_⟩:=hns;exact notP e fun _ z=>by rw[d]at z;cases z
  have hgB:bm≠mainGlobals:=fun z=>by
   obtain⟨o,es,ep,e,d,_⟩:=hns;rw[z,e]at b3;cases b3;rw[d]at b6;cases b6
  have hbP:bm≠Pl:=notP b3 fun _ z=>by rw[b6]at z;cases z
  have hB:(hidT s₁.heap (upd H Pl (.tbl #[]))).BuiltinsAt mg Pl:=⟨bm,ob,b1,b2,hgB,hbP,base_of b3 hbP (notA b3 fun _ _ z=>by rw[b6]at z;cases z),b4,b5,b6⟩
  have hbn:(hidT s₁.heap (upd H Pl (.tbl #[]))).get? Pl=none:=by
   cases q:(hidT s₁.heap (upd H Pl (.tbl #[]))).get? Pl with
   |none=>rfl
   |some o=>exact absurd rfl (bP q)
  refine Ql (F _ hKb (nsK hns) hC' hB hgP callerA s₁ H ⟨[.ref a],[]⟩ (.ref a) (.ref a) _ hr e0 hT hHP hbn (hbind s₁ (.ref a)) rfl (hsp H hO hS)) fun r s' h=>?_;obtain⟨u,v,H',pt,rfl,os,bare,un,hok',r',q,hP'⟩:=h;have q':v=.bl true:=q;subst q';obtain rfl:u=Value.bool true:=r';refine⟨rfl,⟨fun b o e=>?_,fun b o e=>?_⟩,os,bare⟩
  ·by_cases hbP:b=Pl
   ·subst hbP;rw[hT]at e;cases e;exact .inr (.inl ⟨(hC1.tab hT).isCodeTable,rfl,#[],pt,rfl,by rw[hP'];simp⟩)
   ·refine .inl ?_;cases q:H b with
    |none=>exact un.keep b o e q (by intro z;exact absurd (show b∈([]:List Addr)from z) (by simp)) (by simpa using hbP)
    |some u=>
     rcases hO b with z|⟨ob,xs,z⟩
     ·rw[q]at z;cases z
     ·have z2:=un.frzs b ob _ z;obtain⟨e1,_⟩:=hok b _ z;obtain⟨e2,_⟩:=hok' b _ z2;rw[e]at e1;cases e1;exact e2
  ·by_cases hbP:b=Pl
   ·exact⟨_,by rw[hbP];exact hP'⟩
   ·exact un.there b o e (by simpa using hbP)
 cases hk:K.lookup a with
 |some o=>
  have e:=KX a o hk;rw[ha]at e;cases e
  refine core (fun _=>none) (fun _=>.inl rfl) (.inr ⟨_,vs.toArray,_,hk,rfl,rfl,rfl,by rw[Yp,lenV];exact hl,by simpa using rv⟩) (fun b u z=>by have z':(none:Option HO)=some u:=z;cases z') (fun b z=>absurd rfl z) fun z=>absurd rfl z
 |none=>
  refine core (fun b=>if b=a then some (.frz {cls:=.type "list",data:=.seq vs.toArray} (.lst (ns.map V.int)))else none) (fun b=>?_) (.inl (.inr ⟨{cls:=.type "list",data:=.seq vs.toArray},Yg rfl⟩)) (fun b u z=>?_) (fun b z=>?_) fun _=>hk
  ·by_cases hb:b=a
   ·exact .inr ⟨_,_,Yg hb⟩
   ·exact .inl (Ye hb)
  ·by_cases hb:b=a
   ·have z':=(Yg hb).symm.trans z;cases z'
    subst hb;exact⟨ha,by rw[Ya];exact hl,vs,_,rv,ha⟩
   ·have z':=(Ye hb).symm.trans z;cases z'
  ·by_cases hb:b=a
   ·exact hb
   ·exact absurd (Ye hb) z
def RH{l:PySem.W.OpenLaw}{n k:Nat}{q:Program}{loose:List Str}{XP:(Str->Option Value)->Heap->Prop}{YP:World->Heap->Prop}{d:DefRec}{K:Params->Za}{sp:Za->Sp}{x:Str}{Pl:Addr}(hn:l.most=some n)(hn2:n<=sizeLine)(hdf:d.params.defaults=[])(hr:Room k callerA)(hY:∀(w:World) (h:Heap),YP w h->(K w.params).In h)(hP:∀(w:World) (h:Heap),YP w h->h.get? Pl=some (tabObj #[]))
  (F:∀(w:World) (mg:Str->Option Value) (fa:Addr) (h:Heap),(K w.params).In h->h.Ns mainGlobals mg->mg d.name=some (.ref fa)->
   ∃(fd:FuncData) (c:Addr),(∀(s:Shared) (u:Value),BindsTo s fd ⟨[u],[]⟩ [(x,u)])/\(K w.params).lookup Pl=none/\codeHdIn (K w.params) c Pl=true/\
    ∀base:Heap,(K w.params).In base->base.Ns mainGlobals mg->CodeHd base c Pl->base.BuiltinsAt mg Pl->mainGlobals≠Pl->LawT l.prog w (K w.params) mg base k fa fd x (sp (K w.params)) Pl)
  (hsp:∀(K:Za) (H:Hp) (a:Addr) (ns:List Int),ns.length<=n->Only H->SqL K H a (ns.map V.int)->sp K [.ref a] H (fun v _=>v=.bl true) fun _ _ _=>False) :
  PySem.W.WalkO q loose XP YP l.row.toRowW d [] (fun f vs=>PySem.call f vs):=by
 refine Att.HS hn hdf fun w s₀ s₁ mg mb fa o pm cd doc a vs ns G Y ho hd hcd hmg hobj hints hlen hg=>?_;have KX:=hY w _ Y;obtain⟨fd,c,hb,hKP,hC,hF⟩:=F w mg fa _ KX G.T.g hmg;exact MQ KX G.T.g G.T.b G.T.builtins G.T.nolimit hg G.T.bmain (hP w _ Y) hKP hC hobj hints (Yx hlen hn2) hr hF hb fun H hO hS=>hsp (K w.params) H a ns hlen hO hS
end Lam
namespace Lam
open PySem PySem.Spec PyProof.Rows L2 Own Pu
def Still(te:TE):Prop:=∀(σ:L2.St) (H:Hp) (Q Q':VK),te σ H Q->(∀v,Q v H->Q' v H)->te σ H Q'
def DU(i:Nat):Still (tVar i):=fun _ _ _ _ ⟨v,e,q⟩ k=>⟨v,e,k v q⟩
def RA(v:V):Still (tC v):=fun _ _ _ _ q k=>k v q
def LU{K:Za}{ta tb:TE}(ha:Still ta)(hb:Still tb):Still (tOp (fun x y H Q=>rIxL K x y H Q\/rIxT K x y H Q) ta tb):=fun σ H Q Q' h k=>
 ha σ H _ _ h fun x h1=>hb σ H _ _ h1 fun y h2=>h2.imp (fun⟨a,xs,i,v,e1,e2,e3,e4,q⟩=>⟨a,xs,i,v,e1,e2,e3,e4,k v q⟩) fun⟨a,xs,i,v,e1,e2,e3,e4,q⟩=>⟨a,xs,i,v,e1,e2,e3,e4,k v q⟩
def Hs{ta:TE}(ha:Still ta)(σ:L2.St)(H:Hp)(Q Q':List V->Hp->Prop)(h:JR ta tNil σ H Q)(k:∀v,Q v H->Q' v H):JR ta tNil σ H Q':=ha σ H _ _ h fun x q=>k _ q
def HF{K:Za}{ta tb:TE}(ha:Still ta)(hb:Still tb):Still (tBM K "list" (T3 K) ta (JR tb tNil)):=fun σ H Q Q' h k=>
 ha σ H _ _ h fun x ⟨h0,h1⟩=>⟨h0,Hs hb σ H _ _ h1 fun vs ⟨a,xs,z,e1,e2,e3,e4,q⟩=>⟨a,xs,z,e1,e2,e3,e4,k _ q⟩⟩
section
variable {K:Za}{mg:Str->Option Value}{E:L2.St->XK}{H0 H H':Hp}{B:Addr->Prop}{σ:L2.St}{γ:Γ}{φ:List (Option Nat)}
def Og(env:EnvR K H0 B H σ γ)(hφ:(φ.filterMap id).Nodup):EnvR K H0 (zof B γ σ) H (atStart φ σ) (atP φ γ):=by
 have hz:∀b,zof (zof B γ σ) (atP φ γ) (atStart φ σ) b->zof B γ σ b:=fun b y=>by
  rcases y with y|⟨i',ds,x,y1,y2,y3⟩
  ·exact y
  ·obtain⟨m,m1,m2⟩:=X6 y1;obtain⟨w,w1,_⟩:=env.slot m _ m2;rw[Xw m1 w1]at y2;exact .inr ⟨m,ds,x,m2,by rw[w1];exact YS some (Yl y2),y3⟩
 refine⟨env.same,by unfold atStart atP;simp,env.zm,fun i j a a' ds es b h1 h2 h3 h4 h5 h6=>?_,fun i s h=>?_⟩
 ·obtain⟨k,k1,k2⟩:=X6 h1;obtain⟨l,l1,l2⟩:=X6 h2;obtain⟨v,v1,_⟩:=env.slot k _ k2;obtain⟨u,u1,_⟩:=env.slot l _ l2;rw[Xw k1 v1]at h3;rw[Xw l1 u1]at h4
  have:=env.own k l a a' ds es b k2 l2 (by rw[v1];exact YS some (Yl h3)) (by rw[u1];exact YS some (Yl h4)) h5 h6
  subst this;exact P6 hφ i j k k1 l1
 ·obtain⟨k,k1,k2⟩:=X6 h;obtain⟨v,v1,v2⟩:=env.slot k _ k2;have So:Same (off (zof B γ σ) H) (off (zof (zof B γ σ) (atP φ γ) (atStart φ σ)) H):=Jx (Same.refl _) fun b _ _ z y=>z (hz b y);refine⟨v,Xw k1 v1,?_⟩;cases s with
  |bor d=>exact v2
  |sh d=>exact Rp.mono So v2
  |own ds=>
   obtain⟨a,e1,e3,e4⟩:=v2;exact⟨a,e1,e3,e4.mono So fun _ _ _ x=>x⟩
  |view ds=>exact v2
  |tmp d=>exact v2
def lamP(φ:List (Option Nat))(γ:Γ)(d:D):Γ:=(atP φ γ).set 0 (some (.sh d))
structure SortW (φ:List (Option Nat)) (γ:Γ) (a:PTE) (ss:List S) (R:S->Prop):Prop where
 w:∃(s:S) (ds:List D) (kz:List Int),ss=[s]/\s.d=.lst ds/\imms ds=true/\ds.length<64/\kz.length=ds.length/\
  (∀(i:Nat) d k,ds[i]?=some d->kz[i]?=some k->a (lamP φ γ d) (fun t=>t.d=.int k) fun _=>False)/\∀ps:List (Int×D),ps.Perm (kz.zip ds)->ps.Pairwise (fun p q=>p.1<=q.1)->R (.own (ps.map Prod.snd))
def LL(φ:List (Option Nat))(a:PTE)(r:PTA):PTE:=fun γ R X=>r γ (fun ss=>SortW φ γ a ss R) X
def AY:∀{ds:List D}{i:Nat}{d:D},imms ds=true->ds[i]?=some d->imm d=true
 |[],_,_,_,h=>by simp at h
 |x::r,0,d,e,h=>by
  unfold imms at e;rw[YA]at e
  have:x=d:=by simpa using h
  rw[←this];exact e.1
 |x::r,i+1,d,e,h=>by
  unfold imms at e;rw[YA]at e;exact AY (i:=i) e.2 (by simpa using h)
abbrev ZR(K:Za)(F:Hp)(p:Int×D)(q:Int×V):Prop:=p.1=q.1/\Rp K F p.2 q.2
def Dt{F:Hp}:∀(kz:List Int) {ds:List D}{vs:List V},Rps K F ds vs->Paired (ZR K F) (kz.zip ds) (kz.zip vs)
 |[],_,_,_=>.nil
 |_::_,_,_,.nil=>.nil
 |_::kz,_,_,.cons a t=>.cons ⟨rfl,a⟩ (Dt kz t)
def CS{F:Hp}:∀{qs:List (Int×D)}{ps:List (Int×V)},Paired (ZR K F) qs ps->Rps K F (qs.map Prod.snd) (ps.map Prod.snd)
 |_,_,.nil=>.nil
 |_,_,.cons a t=>.cons a.2 (CS t)
def BU{F:Hp}:∀{qs:List (Int×D)}{ps:List (Int×V)},Paired (ZR K F) qs ps->∀p∈qs,∃q∈ps,p.1=q.1
 |_,_,.cons a t,p,h=>by
  rcases Yo.mp h with rfl|h
  ·exact⟨_,Yy,a.1⟩
  ·obtain⟨q,h1,h2⟩:=BU t p h;exact⟨q,Yu _ h1,h2⟩
def Cz{F:Hp}:∀{qs:List (Int×D)}{ps:List (Int×V)},Paired (ZR K F) qs ps->ps.Pairwise (fun p q=>p.1<=q.1)->qs.Pairwise fun p q=>p.1<=q.1
 |_,_,.nil,_=>.nil
 |_,_,.cons a t,h=>by
  obtain⟨h1,h2⟩:=YN.mp h;refine YN.mpr ⟨fun p hp=>?_,Cz t h2⟩;obtain⟨q,hq,e⟩:=BU t p hp;rw[a.1,e];exact h1 q hq
def Ia{te:TE}{ta:TA}{a:PTE}{r:PTA}(hs:Still te)(he:SndE K mg (fun _ _ _ _=>False) te a)(hr:SndA K mg E ta r)(h1:(φ.filterMap id).Nodup:=by decide):SndE K mg E (DY K φ te ta) (LL φ a r):=by
 intro H0 B H σ γ R X Q env p q qx;refine hr H0 B H σ γ _ X _ env p (fun ss vs H1 hw S1 t1=>?_) qx;obtain⟨s,ds,kz,rfl,ed,im,h64,hlen,turn,fin⟩:=hw.w;obtain⟨v,rfl,tv⟩:=t1.one_inv;have env1:=env.grow S1;have rv:=tv.rp env1.same;rw[ed]at rv;obtain⟨l,us,rfl,hl,rp⟩:=rv.lst_inv;have ro:Rps K (off (zof B γ σ) H1) ds us:=Rps.off env1.zm rp im;refine⟨l,us,kz,rfl,SqL.of hl,by rw[rp.len];exact h64,by rw[rp.len];exact hlen,fun i u k hu hk=>?_,fun D ps nD hp hw=>?_⟩
 ·obtain⟨d,hd,rd⟩:=rp.getV hu;have e0:=Og (φ:=φ) env1 h1;have im1:=AY im hd;obtain⟨e1,_⟩:=e0.set (i:=0) (s:=.sh d) (s':=.sh d) (v:=u) (Same.refl _) (Rp.off e0.zm rd im1) rfl;refine hs _ _ _ _ (he H0 _ H1 (XE φ σ u) (lamP φ γ d) _ _ (fun v _=>v=.int k) e1 (turn i d k hd hk) (fun t w H2 ht S2 tw=>?_) fun _ _ z=>z.elim) fun w hw=>⟨rfl,hw⟩;have rw':=tw.rp (e1.same.trans S2);rw[ht]at rw';exact rw'.int_inv
 ·obtain⟨qs,hq,rq⟩:=BK hp (kz.zip ds) (Dt kz ro);exact q _ _ _ (fin qs hq (Cz rq hw)) (S1.trans (JT nD)) (XW S1 nD (CS rq))
end
def LawC(P:Program)(w:World)(K:Za)(mg:Str->Option Value)(base:Heap)(k:Nat)(st:Stmt)(sp:Sp):Prop:=
 ∀(f:Addr) (fd:FuncData) (c Pl:Addr),Fun K "law" "law" st f fd->fd.code=.ref c->PySem.W.CodeHd base c Pl->base.BuiltinsAt mg Pl->mainGlobals≠Pl->LawT P w K mg base k f fd "_law_script" sp Pl
def Za9{P:Program}{w:World}{K:Za}{mg:Str->Option Value}{base:Heap}{N:List Str}{sp:Sp}{p:PTS}{st:Stmt}{k:Nat}(S:FnScope N ["_law_script"] (Jn st))
  (tr:∀(f:Addr) (cdv:Value) (c Pl:Addr) (A:Around) (s:Shared) (H:Hp),Room k (A.deeper (envOfC "law" (Jn st) s.heap.objs.size f cdv))->Tabs (lawX P w K mg base N "law" (Jn st) f cdv A s H Pl) c Pl->
   ∃t,PSsl (lawX P w K mg base N "law" (Jn st) f cdv A s H Pl) Pl (JO st) t/\SndS K mg (fun _ _ _ _=>False) t p) (u:Uz K mg N ["_law_script"] sp p):LawC P w K mg base (k+1) st sp:=by
 intro f fd c Pl F hc hC hB hgP;obtain⟨oc,od,kV,doc,pm,an,cdv,ct,osl,rfl,lk,hcd⟩:=F.ex;exact NW lk hcd S hc hC hB hgP fun A s H v Q hr T hsp=>(tr f cdv c Pl A s H hr T).elim fun t z=>⟨t,z.1,u.run _ _ _ _ _ hsp z.2⟩
def LawT.imp {P:Program}{w:World}{K:Za}{mg:Str->Option Value}{base:Heap}{k:Nat}{f:Addr}{fd:FuncData}{x:Str}{sp sp':Sp}{Pl:Addr} (F:LawT P w K mg base k f fd x sp Pl) (h:∀vs H Q E,sp' vs H Q E->sp vs H Q E):LawT P w K mg base k f fd x sp' Pl:=
 fun A s H args u v Q hr e0 hT hH hb hbd r hsp=>F A s H args u v Q hr e0 hT hH hb hbd r (h _ _ _ _ hsp)
open M
def FB:∀ps:List (Int×Int),imms (ps.map prD)=true
 |[]=>rfl
 |q::r=>by
  rw[Yq];unfold imms;rw[FB r];rfl
def G2{kz:List Int}{ps:List (Int×Int)}(hl:kz.length=ps.length){qs:List (Int×D)}(h:qs.Perm (kz.zip (ps.map prD))):∃rs:List (Int×Int),rs.Perm ps/\qs.map Prod.snd=rs.map prD:=by
 have h2:=h.map Prod.snd;rw[List.map_snd_zip (by rw[Ya];omega)]at h2
 have un:∀d:D,d∈ps.map prD->prD ((match d with | .tup [.int a,.int b]=>(a,b)|_=>(0,0)):Int×Int)=d:=fun d hd=>by
  obtain⟨q,_,rfl⟩:=Y7.mp hd;rfl
 refine⟨(qs.map Prod.snd).map fun d=>((match d with | .tup [.int a,.int b]=>(a,b)|_=>(0,0)):Int×Int),?_,?_⟩
 ·have h3:=h2.map fun d=>((match d with | .tup [.int a,.int b]=>(a,b)|_=>(0,0)):Int×Int)
  rw[YK (l:=ps)]at h3
  have e:((fun d=>((match d with | .tup [.int a,.int b]=>(a,b)|_=>(0,0)):Int×Int))∘prD)=id:=by
   funext q;rfl
  rw[e,List.map_id]at h3;exact h3
 ·rw[YK];have e:∀d∈qs.map Prod.snd,(prD∘fun d=>((match d with | .tup [.int a,.int b]=>(a,b)|_=>(0,0)):Int×Int)) d=d:=fun d hd=>un d (h2.mem_iff.mp hd)
  rw[Ww e];simp
end Lam
namespace M
open PySem PySem.Spec PyProof.Rows L2 Own Pu
def ByR(o:List Int)(ps:List (Int×Int)):Prop:=ps.Pairwise fun a b=>o.idxOf a.1<=o.idxOf b.1
def BZ{k:Int}:∀{l:List (Int×Int)},(∀q∈l,0<q.2)->0<=ltS k l/\(ltS k l=0->∀q∈l,k<=q.1)
 |[],_=>⟨W3 _,fun _ _ h=>by cases h⟩
 |q::l,h=>by
  obtain⟨h1,h2⟩:=BZ (k:=k) (l:=l) fun x hx=>h x (Yu _ hx);have h3:=h q Yy;unfold ltS;by_cases c:q.1<k
  ·rw[Yg c];exact⟨by omega,fun e=>by omega⟩
  ·rw[Ye c];refine⟨by omega,fun e x hx=>?_⟩;rcases Yo.mp hx with rfl|hx
   ·omega
   ·exact h2 (by omega) x hx
def Sv:∀{l:List (Int×Int)},(∀q∈l,0<q.2)->0<=invL l/\(invL l=0->l.Pairwise fun x y=>x.1<=y.1)
 |[],_=>⟨W3 _,fun _=>.nil⟩
 |p::l,h=>by
  have hl:∀q∈l,0<q.2:=fun x hx=>h x (Yu _ hx);obtain⟨h1,h2⟩:=Sv hl;obtain⟨h3,h4⟩:=BZ (k:=p.1) hl;have hp:=h p Yy;have hm:0<=ltS p.1 l*p.2:=Int.mul_nonneg h3 (Int.le_of_lt hp);unfold invL;refine⟨by omega,fun e=>YN.mpr ⟨h4 ?_,h2 (by omega)⟩⟩;have e2:ltS p.1 l*p.2=0:=by omega
  rcases Int.mul_eq_zero.mp e2 with z|z
  ·exact z
  ·omega
section
variable {ps:List (Int×Int)}{o:List Int}
def rank_by:(UP o ps).Pairwise (fun x y=>x.1<=y.1)↔ByR o ps:=by
 unfold UP ByR;rw[YW];exact⟨fun h=>h.imp fun z=>by omega,fun h=>h.imp fun z=>by omega⟩
def Ca(hF:Field ps):0<=priM ps o ps.length/\(priM ps o ps.length=0↔ByR o ps):=by
 rw[IT]
 have hw:∀q∈UP o ps,0<q.2:=fun q hq=>by
  obtain⟨p,hp,rfl⟩:=Y7.mp hq;exact(hF p hp).2.2.1
 obtain⟨h1,h2⟩:=Sv hw;exact⟨h1,fun e=>rank_by.mp (h2 e),fun h=>PJ (rank_by.mpr h)⟩
def Ob:0<=cntN (rkN ps o) (runI 1 ps.length)/\(cntN (rkN ps o) (runI 1 ps.length)=0↔ByR o ps):=by
 have hw:∀q∈(runI 1 ps.length).map (fun m=>(rkN ps o m,(1:Int))),0<q.2:=fun q hq=>by
  obtain⟨p,hp,rfl⟩:=Y7.mp hq;exact Int.one_pos
 obtain⟨h1,h2⟩:=Sv hw
 have hk:((runI 1 ps.length).map fun m=>(rkN ps o m,(1:Int))).Pairwise (fun x y=>x.1<=y.1)↔ByR o ps:=by
  have e:=Fv ps o (runI 1 ps.length);rw[N9]at e;rw[←rank_by,e];unfold keyL;rw[YW,YW]
 exact⟨h1,fun e=>hk.mp (h2 e),fun h=>PJ (hk.mpr h)⟩
def II(hin:∀q∈ps,q.1∈o)(h:ByR o ps):TogP ps:=fun k j h1 h2 e=>by
 have h3:k-1<ps.length:=by omega
 have hj:j<ps.length:=by omega
 rw[JZ hj,JZ h2]at e;rw[JZ h3,JZ h2];refine Bg (hin _ (Yr h3)) (hin _ (Yr h2)) ?_;have a1:o.idxOf ps[k-1].1<=o.idxOf ps[k].1:=YE.mp h (k-1) k h3 h2 (by omega);by_cases c:j=k-1
 ·subst c;rw[e]
 ·have a2:o.idxOf ps[j].1<=o.idxOf ps[k-1].1:=YE.mp h j (k-1) hj h3 (by omega);rw[e]at a2;omega
def FN(nd:o.Nodup)(hm:∀z,z∈o↔z∈ps.map (·.1))(h:ByR o ps):JC (ps.map (·.1))=o:=by
 obtain⟨l1,l2⟩:=T5 (ps.map (·.1));have hp:(JC (ps.map (·.1))).Perm o:=(Wy l1 nd).mpr fun z=>(l2 z).trans (hm z).symm;refine Rj nd hp ((L9 (ps.map (·.1)) (fun z hz=>(hm z).mpr hz) ?_).imp Qk);rw[YW];exact h
def Tu(hF:Field ps):(JC (ps.map (·.1))).Perm (Jp ps):=by
 obtain⟨l1,l2⟩:=T5 (ps.map (·.1));exact(Wy l1 ((UN ps).imp fun h=>WK h)).mpr fun z=>(l2 z).trans (K4 hF).symm
def LS{q:Int×Int}(T:TogP (ps++[q])):TogP ps:=fun k j h1 h2 e=>by
 have hA:∀i,i<ps.length->hAt (ps++[q]) i=hAt ps i:=fun i hi=>by
  unfold hAt;rw[Yd,Yd,YR hi]
 have:=T k j h1 (by rw[Yn];omega) (by rw[hA j (by omega),hA k h2];exact e)
 rw[hA _ (by omega),hA k h2]at this;exact this
def Lg{P:List (Int×Int)->Prop}(h0:P [])(h1:∀r q,P r->P (r++[q]))(l:List (Int×Int)):P l:=by
 rw[←List.reverse_reverse l]
 induction l.reverse with
 |nil=>exact h0
 |cons q r ih=>rw[Vk];exact h1 _ _ ih
def R5:∀ps:List (Int×Int),TogP ps->ByR (JC (ps.map (·.1))) ps:=by
 refine fun ps=>Lg (P:=fun ps:List (Int×Int)=>TogP ps->ByR (JC (ps.map (·.1))) ps) (fun _=>List.Pairwise.nil) (fun r q ih T=>?_) ps;have ih:=ih (LS T);rw[Yt,Yq,QT,Pi];obtain⟨l1,l2⟩:=T5 (r.map (·.1));have mem:∀a∈r,a.1∈JC (r.map (·.1)):=fun a ha=>(l2 _).mpr (Y7.mpr ⟨a,ha,rfl⟩);by_cases c:q.1∈JC (r.map (·.1))
 ·rw[Yg c];refine Wm.mpr ⟨ih,WX _ _,fun a ha b hb=>?_⟩;rw[Yf.mp hb];obtain⟨p,hp,e⟩:=Y7.mp ((l2 _).mp c);obtain⟨j,hj,rfl⟩:=YJ.mp hp;have hl:r.length-1<r.length:=by omega
  have z1:hAt (r++[q]) r.length=q.1:=by rw[JZ (by simp)];simp
  have z2:∀i (hi:i<r.length),hAt (r++[q]) i=r[i].1:=fun i hi=>by rw[JZ (by rw[Yn];omega),List.getElem_append_left hi]
  have t:=T r.length j hj (by simp) (by rw[z1,z2 j hj];exact e);rw[z1,z2 _ hl]at t;rw[←t];obtain⟨i,hi,rfl⟩:=YJ.mp ha;by_cases ci:i=r.length-1
  ·subst ci;exact Yi _
  ·exact YE.mp ih i (r.length-1) hi hl (by omega)
 ·rw[Ye c];refine Wm.mpr ⟨?_,WX _ _,fun a ha b hb=>?_⟩
  ·refine(QO.mp ih).imp fun {a b} h=>?_;rw[Q8,Q8,Yg (mem a h.1),Yg (mem b h.2.1)];exact h.2.2
  ·rw[Yf.mp hb,Q8,Q8,Yg (mem a ha),Ye c]
   have:=Wv (mem a ha)
   omega
def LN(nd:o.Nodup)(hin:∀q∈ps,q.1∈o)(h:ByR o ps):(o.flatMap fun h=>ps.filter fun q=>decide (q.1=h))=ps:=by
 obtain⟨g1,g2⟩:=Ov nd hin
 have hr:(runI 1 ps.length).Pairwise (LexR ps o):=by
  have e:=Fv ps o (runI 1 ps.length);rw[N9]at e;have h2:=rank_by.mpr h;rw[e]at h2;unfold keyL at h2;rw[YW]at h2;refine(h2.and (Od ps.length)).imp fun {x y} z=>?_;have z1:rkN ps o x<=rkN ps o y:=z.1;unfold LexR
  have:=z.2
  omega
 have ee:=Al g1 g2 hr
 have:=IR ps o
 rw[ee,N9]at this;exact this
def Lh{hs:List Int}{W:List (Int×Int)}(hu:∀q∈W,q.1≠q.2)(nd:o.Nodup)(hm:∀z∈hs,z∈o)(hk:Keeps W o):¬ ∃r,Ring hs W r:=fun⟨r,R⟩=>by
 have step:∀a b,a∈o->b∈o->(a,b)∈W->o.idxOf a<o.idxOf b:=fun a b ha hb hw=>YL fun z=>by
  have hl:o.idxOf b<o.idxOf a:=by
   rcases Nat.lt_or_eq_of_le (Nat.le_of_not_lt z)with c|c
   ·exact c
   ·exact absurd (Bg hb ha c) (fun e=>hu _ hw e.symm)
  have ga:=Wv ha;have gb:=Wv hb
  have:=YE.mp hk _ _ gb ga hl
  rw[YO,YO]at this;exact this hw
 have down:∀n x,x∈r->o.idxOf x=n->False:=fun n=>by
  induction n using Nat.strongRecOn with
  |ind n ih=>
   intro x hx e;obtain⟨y,hy,hw⟩:=R.ahead hx
   have:=step y x (hm y (R.sub y hy)) (hm x (R.sub x hx)) hw
   exact ih (o.idxOf y) (by omega) y hy rfl
 have two:=R.two;exact down _ r[0] (Yr (by omega)) rfl
end
end M
namespace T
open PySem PySem.Spec PyProof.Rows L2
def top(i:Nat):Stmt:=PySem.Challenge.pw_stripmeld_k40_whole_nothing_to_do.main.body.getD i (.Pass ⟨0,0,0,0⟩)
abbrev Bk:Stmt:=top 16
def MW:FnScope ["holder"] ["holder"] (Jn Bk):=Pu.fs
abbrev BC:Stmt:=top 17
def Rc:FnScope ["width"] ["width"] (Jn BC):=Pu.fs
abbrev SM:Stmt:=top 18
def Bx:FnScope ["strips","holder","width"] ["strips"] (Jn SM):=Pu.fs
abbrev Nh:Stmt:=top 19
def Ls:FnScope ["strips"] ["strips"] (Jn Nh):=Pu.fs
abbrev N7:Stmt:=top 20
def O1:FnScope ["strips","index"] ["strips","index"] (Jn N7):=Pu.fs
abbrev NZ:Stmt:=top 21
def F0:FnScope ["strips","runs"] ["strips"] (Jn NZ):=Pu.fs
abbrev NM:Stmt:=top 22
def GC:FnScope ["strips","order"] ["strips","order"] (Jn NM):=Pu.fs
abbrev Nl:Stmt:=top 23
def NY:FnScope ["strips","order","field","holder"] ["strips","order"] (Jn Nl):=Pu.fs
abbrev NT:Stmt:=top 25
def XQ:FnScope ["strips","ahead","behind","to_pass","cost","holder","width"] ["strips","ahead","behind"] (Jn NT):=Pu.fs
abbrev Sx:Stmt:=top 27
def IH:FnScope ["strips"] ["strips"] (Jn Sx):=Pu.fs
abbrev Sz:Stmt:=top 28
def SQ:FnScope ["strips","numbers","place","left","right"] ["strips","numbers","place"] (Jn Sz):=Pu.fs
abbrev SX:Stmt:=top 29
def Iu:FnScope ["numbers","place"] ["numbers","place"] (Jn SX):=Pu.fs
abbrev Sh:Stmt:=top 30
def Dw:FnScope ["numbers","ranks","place"] ["numbers","ranks"] (Jn Sh):=Pu.fs
abbrev SS:Stmt:=top 31
def Kj:FnScope ["strips","order","ranks","numbers","moves","place"] ["strips","order"] (Jn SS):=Pu.fs
abbrev Nj:Stmt:=top 34
def Pm:FnScope ["paths","left","wishes","longer","reached","path","holder"] ["paths","left","wishes"] (Jn Nj):=Pu.fs
abbrev Bu:Stmt:=top 35
def XM:FnScope ["least","holders","wishes","paths","left","rings","reached"] ["least","holders","wishes"] (Jn Bu):=Pu.fs
abbrev NV:Stmt:=top 36
def KN:FnScope ["holders","wishes","ring","least","found"] ["holders","wishes"] (Jn NV):=Pu.fs
abbrev SB:Stmt:=top 37
def Az:FnScope ["strips","wishes","ring"] ["strips","wishes"] (Jn SB):=Pu.fs
abbrev N4:Stmt:=top 39
def Zba:FnScope ["wishes","ahead","behind"] ["wishes","ahead","behind"] (Jn N4):=Pu.fs
abbrev Ng:Stmt:=top 41
def Pq:FnScope ["strips","holders","costs","ahead","behind"] ["strips"] (Jn Ng):=Pu.fs
abbrev B3:Stmt:=top 42
def P9:FnScope ["holders","sets","holder"] ["holders"] (Jn B3):=Pu.fs
abbrev Se:Stmt:=top 43
def HE:FnScope ["members","holder"] ["members","holder"] (Jn Se):=Pu.fs
abbrev N1:Stmt:=top 44
def Ho:FnScope ["members","holder","wishes"] ["members","holder","wishes"] (Jn N1):=Pu.fs
abbrev Ss:Stmt:=top 45
def L6:FnScope ["members","holder","wishes"] ["members","holder","wishes"] (Jn Ss):=Pu.fs
abbrev Bc:Stmt:=top 46
def A1:FnScope ["members","last","least","pairs","others"] ["members","last","least","pairs"] (Jn Bc):=Pu.fs
abbrev Nt:Stmt:=top 47
def Dx:FnScope ["members","first","least","pairs","others"] ["members","first","least","pairs"] (Jn Nt):=Pu.fs
abbrev SE:Stmt:=top 48
def PB:FnScope ["strips","wishes","pairs","least","members","lasts"] ["strips","wishes","pairs"] (Jn SE):=Pu.fs
abbrev Bw:Stmt:=top 49
def FA:FnScope ["strips","wishes","least"] ["strips","wishes"] (Jn Bw):=Pu.fs
abbrev Ny:Stmt:=top 50
def X2:FnScope ["strips","wishes","pairs","least","members","order","firsts","best"] ["strips","wishes"] (Jn Ny):=Pu.fs
abbrev Nk:Stmt:=top 51
def Hm:FnScope ["strips","wishes"] ["strips","wishes"] (Jn Nk):=Pu.fs
abbrev B6:Stmt:=inClass (top 54) 0
def ER:FnScope ["self","strips"] ["self","strips"] (Jn B6):=Pu.fs
abbrev Sa:Stmt:=inClass (top 54) 1
def MB:FnScope ["self"] ["self"] (Jn Sa):=Pu.fs
abbrev Su:Stmt:=inClass (top 54) 2
def Md:FnScope ["self"] ["self"] (Jn Su):=Pu.fs
abbrev Br:Stmt:=inClass (top 54) 4
def O0:FnScope ["self"] ["self"] (Jn Br):=Pu.fs
abbrev SA:Stmt:=inClass (top 54) 5
def Ht:FnScope ["self","deed","field","wishes"] ["self","deed","field","wishes"] (Jn SA):=Pu.fs
abbrev B7:Stmt:=inClass (top 54) 9
def CZ:FnScope ["self","ahead","behind","wishes"] ["self","ahead","behind"] (Jn B7):=Pu.fs
abbrev Sg:Stmt:=inClass (top 54) 14
def Za2:FnScope ["self"] ["self"] (Jn Sg):=Pu.fs
abbrev BA:Stmt:=inClass (top 54) 15
def GL:FnScope ["self"] ["self"] (Jn BA):=Pu.fs
abbrev BE:Stmt:=inClass (top 54) 17
def Ri:FnScope ["self"] ["self"] (Jn BE):=Pu.fs
abbrev Nd:Stmt:=inClass (top 54) 18
def G5:FnScope ["self"] ["self"] (Jn Nd):=Pu.fs
abbrev Sy:Stmt:=top 56
def HR:FnScope ["_law_script","_law_k"] ["_law_script","_law_k"] (Jn Sy):=Pu.fs
abbrev S7:Stmt:=top 57
def RN:FnScope ["_law_found"] ["_law_found"] (Jn S7):=Pu.fs
abbrev NL:Stmt:=top 58
def A3:FnScope ["_law_cell","_law_place","_law_first"] ["_law_cell","_law_place"] (Jn NL):=Pu.fs
abbrev Nx:Stmt:=top 59
def OU:FnScope ["_law_script","_law_k"] ["_law_script","_law_k"] (Jn Nx):=Pu.fs
abbrev Si:Stmt:=top 60
def Oq:FnScope ["_law_script"] ["_law_script"] (Jn Si):=Pu.fs
abbrev Sb:Stmt:=top 61
def B9:FnScope ["_law_cell","_law_wide","_law_least"] ["_law_cell"] (Jn Sb):=Pu.fs
abbrev SY:Stmt:=top 62
def OO:FnScope ["_law_menu_here","_law_k"] ["_law_menu_here","_law_k"] (Jn SY):=Pu.fs
abbrev B0:Stmt:=top 63
def KU:FnScope ["_law_script","_law_menu_here","_law_many","_law_strips_here","_law_k","_law_cell","_law_width"] ["_law_script","_law_menu_here","_law_many"] (Jn B0):=Pu.fs
abbrev SR:Stmt:=top 64
def Xd:FnScope ["_law_script","_law_menu_here","_law_how","_law_pool","_law_wishes_here","_law_k","_law_cell","_law_one","_law_two","_law_pair"] ["_law_script","_law_menu_here"] (Jn SR):=Pu.fs
abbrev Bj:Stmt:=top 65
def F9:FnScope ["_law_found","_law_due","_law_k"] ["_law_found","_law_due"] (Jn Bj):=Pu.fs
abbrev Np:Stmt:=top 66
def NU:FnScope ["_law_found","_law_due","_law_k","_law_j"] ["_law_found","_law_due"] (Jn Np):=Pu.fs
abbrev NB:Stmt:=top 67
def Cv:FnScope ["_law_strips_here","_law_owners"] ["_law_strips_here"] (Jn NB):=Pu.fs
abbrev SU:Stmt:=top 68
def Bt:FnScope ["_law_strips_here","_law_k","_law_j"] ["_law_strips_here"] (Jn SU):=Pu.fs
abbrev NX:Stmt:=top 69
def NH:FnScope ["_law_order","_law_wishes_here","_law_one","_law_two"] ["_law_order","_law_wishes_here"] (Jn NX):=Pu.fs
abbrev NN:Stmt:=top 70
def Ph:FnScope ["_law_holders","_law_cell","_law_left","_law_order","_law_rest"] ["_law_holders","_law_cell"] (Jn NN):=Pu.fs
abbrev N8:Stmt:=top 71
def Km:FnScope ["_law_wishes_here","_law_order","_law_made","_law_one","_law_two","_law_pair"] ["_law_wishes_here","_law_order"] (Jn N8):=Pu.fs
abbrev Nz:Stmt:=top 72
def Sd:FnScope ["_law_strips_here","_law_order","_law_strip"] ["_law_strips_here"] (Jn Nz):=Pu.fs
abbrev Xo:Stmt:=top 73
def Ul:FnScope ["_law_script","_law_menu_here","_law_strips_here","_law_how","_law_order","_law_wishes_here","_law_k","_law_village","_law_one","_law_two","_law_whole_here","_law_found","_law_cost","_law_told"] ["_law_script"] (Jn Xo):=Pu.fs
structure Glob (K:Za) (mg:Str->Option Value):Prop where
 any:mg "any"=none
 bool:mg "bool"=none
 int:mg "int"=none
 isinstance:mg "isinstance"=none
 len:mg "len"=none
 list:mg "list"=none
 max:mg "max"=none
 min:mg "min"=none
 range:mg "range"=none
 set:mg "set"=none
 sorted:mg "sorted"=none
 sum:mg "sum"=none
 tuple:mg "tuple"=none
 HOLDERS:∃u,mg "HOLDERS"=some u/\RelV (.int 10) u
 STRIPS:∃u,mg "STRIPS"=some u/\RelV (.int 40) u
 WIDEST:∃u,mg "WIDEST"=some u/\RelV (.int 1000) u
 MOST_WISHES:∃u,mg "MOST_WISHES"=some u/\RelV (.int 20) u
 MOST_DEEDS:∃u,mg "MOST_DEEDS"=some u/\RelV (.int 100) u
 m_TooManyStrips:mg "TooManyStrips"=some (.ref (ExcR.Jq mg "TooManyStrips"))
 g_TooManyStrips:ExcR.ErrGet K (ExcR.Jq mg "TooManyStrips")
 m_BadHolder:mg "BadHolder"=some (.ref (ExcR.Jq mg "BadHolder"))
 g_BadHolder:ExcR.ErrGet K (ExcR.Jq mg "BadHolder")
 m_BadWidth:mg "BadWidth"=some (.ref (ExcR.Jq mg "BadWidth"))
 g_BadWidth:ExcR.ErrGet K (ExcR.Jq mg "BadWidth")
 m_BadOrder:mg "BadOrder"=some (.ref (ExcR.Jq mg "BadOrder"))
 g_BadOrder:ExcR.ErrGet K (ExcR.Jq mg "BadOrder")
 m_LikeHolders:mg "LikeHolders"=some (.ref (ExcR.Jq mg "LikeHolders"))
 g_LikeHolders:ExcR.ErrGet K (ExcR.Jq mg "LikeHolders")
 m_WishStands:mg "WishStands"=some (.ref (ExcR.Jq mg "WishStands"))
 g_WishStands:ExcR.ErrGet K (ExcR.Jq mg "WishStands")
 m_TooManyWishes:mg "TooManyWishes"=some (.ref (ExcR.Jq mg "TooManyWishes"))
 g_TooManyWishes:ExcR.ErrGet K (ExcR.Jq mg "TooManyWishes")
 m_BookFull:mg "BookFull"=some (.ref (ExcR.Jq mg "BookFull"))
 g_BookFull:ExcR.ErrGet K (ExcR.Jq mg "BookFull")
 m_Village:mg "Village"=some (.ref (ExcR.Jq mg "Village"))
 cl_Village:Cls K (ExcR.Jq mg "Village")
 n_Village_book:NoAttr K (ExcR.Jq mg "Village") "book"
 n_Village_fields:NoAttr K (ExcR.Jq mg "Village") "fields"
 n_Village_wished:NoAttr K (ExcR.Jq mg "Village") "wished"
def Nc:Pu.FldAt "book" ["book","fields","wished"] 0:=.of (by decide +kernel) (by decide +kernel) rfl
def M6:Pu.PutAt "book" []:=.of (by decide +kernel)
def F6:Pu.FldAt "fields" ["book","fields","wished"] 1:=.of (by decide +kernel) (by decide +kernel) rfl
def Lf:Pu.PutAt "fields" ["book"]:=.of (by decide +kernel)
def Fh:Pu.FldAt "wished" ["book","fields","wished"] 2:=.of (by decide +kernel) (by decide +kernel) rfl
def Hi:Pu.PutAt "wished" ["book","fields"]:=.of (by decide +kernel)
def K8:Pu.NoFld "strips" ["book","fields","wished"]:=.of (by decide +kernel)
def BB:Pu.NoFld "wishes" ["book","fields","wished"]:=.of (by decide +kernel)
def Hk:Pu.NoFld "check_room" ["book","fields","wished"]:=.of (by decide +kernel)
def Zat:Pu.NoFld "enter" ["book","fields","wished"]:=.of (by decide +kernel)
def LX:Pu.NoFld "wish" ["book","fields","wished"]:=.of (by decide +kernel)
def Nu:Pu.NoFld "order" ["book","fields","wished"]:=.of (by decide +kernel)
def Ii:Pu.NoFld "cost" ["book","fields","wished"]:=.of (by decide +kernel)
def Lu:Pu.NoFld "moves" ["book","fields","wished"]:=.of (by decide +kernel)
def Zaz:Pu.NoFld "melded" ["book","fields","wished"]:=.of (by decide +kernel)
end T
namespace M
open PySem PySem.Spec PyProof.Rows L2 Own Pu
def IA:Pc:=fun ds R X=>∃h:Int,ds=[.int h]/\Xl (KF h) X (R (.sh .non))
def Nf(h:Int):Option Str:=if 1<=h/\h<=1000 then none else some "BadWidth"
def GT:Pc:=fun ds R X=>∃h:Int,ds=[.int h]/\Xl (Nf h) X (R (.sh .non))
def A2(_:Za):Sp:=fun vs H Q _=>∃(l:Addr) (ps:List (Int×Int)),vs=[.ref l]/\LAt Uu H l ps/\Field ps/\ps.length<=50/\
 ∀(q:Addr) (H':Hp),H q=none->Same H H'->H' q=some (.lst ((Jp ps).map V.int))->Q (.ref q) H'
def FI:Pc:=fun ds R _=>∃ps:List (Int×Int),ds=[.lst (ps.map prD)]/\Field ps/\ps.length<=50/\R (.own ((Jp ps).map D.int))
def Kx{P:Program}{w:World}{K:Za}{mg:Str->Option Value}{base:Heap}(C:Callee P w K mg base CX0 1 "holders_of" ["strips"] (A2 K)):Callee P w K mg base CX0 1 "holders_of" ["strips"] (Pu.spOf mg FI K):=DB C fun ds R X vs H Q E r hc hQ hX=>by
 obtain⟨ps,rfl,hF,hz,hR⟩:=hc;obtain⟨v,rfl,r1⟩:=r.one_inv;obtain⟨a,rfl,ha⟩:=r1.pairs_inv;exact⟨a,ps,rfl,ha,hF,hz,fun q H' nq S h=>hQ _ _ H' hR S (F3 nq h)⟩
def Ij:Pc:=fun ds R _=>∃(ps:List (Int×Int)) (k:Nat),ds=[plD ps,.int k]/\k<ps.length/\R (.sh (.bl (begM ps k)))
def HH:Pc:=fun ds R _=>∃(ps:List (Int×Int)) (x y:Int),ds=[.lst (ps.map prD),.int x,.int y]/\Field ps/\R (.sh (.int (pcM ps x y ps.length)))
def IG:Pc:=fun ds R _=>∃ps:List (Int×Int),ds=[.lst (ps.map prD)]/\ps.length<=1000/\R (.own ((runI 1 ps.length).map D.int))
def Lo:Pc:=fun ds R _=>∃(ps:List (Int×Int)) (ns:List Int) (p:Int),ds=[.lst (ps.map prD),.lst (ns.map D.int),.int p]/\Field ps/\(∀n∈ns,1<=n/\n<=ps.length)/\1<=p/\p<ns.length/\R (.sh (.int (exM ps ns p.toNat)))
def MF:Pc:=fun ds R _=>∃(ns:List Int) (p:Int),ds=[.lst (ns.map D.int),.int p]/\1<=p/\p<ns.length/\ns.length<=1000/\R (.own ((Ur ns p.toNat).map D.int))
def GM:Pc:=fun ds R _=>∃ns rs:List Int,ds=[.lst (ns.map D.int),.lst (rs.map D.int)]/\(∀m∈ns,1<=m/\m<=rs.length)/\ns.length<=1000/\∀p:Nat,FW (ns.map fun m=>rs.getD (m-1).toNat 0) p->R (.sh (.int p))
def LW(ws:List (Int×Int))(l:Int)(ps:List (List Int))(ls:List Int)(lg:List (List Int)):Prop:=∀q∈lg,∃p∈ps,∃h∈ls,q=p++[h]/\(JB l p,h)∈ws
def Hc:Pc:=fun ds R _=>∃(l:Int) (ps:List (List Int)) (ls:List Int) (ws:List (Int×Int)),ds=[.lst (ps.map (em l)),.lst (ls.map D.int),.lst (ws.map prD)]/\(∀p∈ps,p.length<=100)/\ls.length<=100/\
 ∀lg,LW ws l ps ls lg->lg.length<=ls.length->R (.own (lg.map (em l)))
def HW:Pc:=fun ds R _=>∃hs:List Int,ds=[.lst (hs.map D.int)]/\hs.length<=10/\R (.own ((J3 hs).map tD))
def EJ:Pc:=fun ds R _=>∃(ms:List Int) (h:Int),ds=[tD ms,.int h]/\ms.length<=1000/\R (.sh (tD (Jw ms h)))
def OZ:Pc:=fun ds R _=>∃(ms:List Int) (h:Int) (ws:List (Int×Int)),ds=[tD ms,.int h,.lst (ws.map prD)]/\ws.length<=50/\R (.sh (.bl (UU ws ms h)))
def Oa:Pc:=fun ds R _=>∃(ms:List Int) (h:Int) (ws:List (Int×Int)),ds=[tD ms,.int h,.lst (ws.map prD)]/\ws.length<=50/\R (.sh (.bl (firstM ws ms h)))
def Gk(C:Addr):Pc:=fun ds R _=>∃(bk:List (Str×List Int)) (fs ws:List (List (Int×Int))) (f:List (Int×Int)),ds=[vilD C bk (fs++[f]) ws]/\R (.own (f.map prD))
def EO(C:Addr):Pc:=fun ds R _=>∃(bk:List (Str×List Int)) (fs ws:List (List (Int×Int))) (f:List (Int×Int)),ds=[vilD C bk fs (ws++[f])]/\R (.own (f.map prD))
def SO(bk:List (Str×List Int)):Option Str:=if 100<=bk.length then some "BookFull" else none
def Oi(C:Addr):Pc:=fun ds R X=>∃(bk:List (Str×List Int)) (fs ws:List (List (Int×Int))),ds=[vilD C bk fs ws]/\Xl (SO bk) X (R (.sh .non))
def Gg(C:Addr):Pw:=fun o ss R _=>∃(x b1 b2 b3:Addr) (bk:List (Str×List Int)) (fs ws:List (List (Int×Int))) (q:Str×List Int) (f w:List (Int×Int)),o=vO C x b1 b2 b3 bk fs ws/\ss=[.sh (dD q),.sh (plD f),.sh (plD w)]/\bk.length<=1000/\fs.length<=1000/\ws.length<=1000/\
 R (vO C x b1 b2 b3 (bk++[q]) (fs++[f]) (ws++[w])) (.int (bk.length+1))
def HQ:Pc:=fun ds R _=>∃(ns:List Int) (k:Int),ds=[.scr ns,.int k]/\0<=k/\∀v:Int,R (.sh (.int v))
def E4:Pc:=fun ds R _=>∃i:Int,ds=[.int i]/\R (.sh (.bl true))
def Ra:Pc:=fun ds R _=>∃c p:Int,ds=[.int c,.int p]/\∀v:Int,R (.sh (.int v))
def HU:Pc:=fun ds R _=>∃c:Int,ds=[.int c]/\∀m,Menu m->R (.own (m.map D.int))
def LO:Pc:=fun ds R _=>∃(m:List Int) (k:Int),ds=[.lst (m.map D.int),.int k]/\Menu m/\∀h:Int,1<=h->h<=10->h=Na m k->R (.sh (.int h))
def Lp:Pc:=fun ds R _=>∃ps:List (Int×Int),ds=[.lst (ps.map prD)]/\ps.length<=50/\R (.own ((Jp ps).map D.int))
def HK:Pc:=fun ds R _=>∃ps:List (Int×Int),ds=[plD ps]/\ps.length<=1000/\(TogP ps->R (.sh (.bl true)))/\(¬TogP ps->R (.sh (.bl false)))
def badM(os:List Int)(q:Int×Int):Bool:=decide (q.1∈os)&&(decide (q.2∈os)&&decide (os.idxOf q.2<os.idxOf q.1))
def OL:Pc:=fun ds R _=>∃(os:List Int) (ws:List (Int×Int)),ds=[.lst (os.map D.int),.lst (ws.map prD)]/\((∀q∈ws,badM os q=false)->R (.sh (.bl true)))/\((∃q∈ws,badM os q=true)->R (.sh (.bl false)))
def DQ(K:Za):Sp:=fun vs H Q _=>∃(l:Addr) (hs:List Int) (c:Int),vs=[.ref l,.int c]/\SqL K H l (hs.map V.int)/\hs.length<=50/\
 ∀(q:Addr) (H':Hp) (os:List Int),H q=none->Same H H'->H' q=some (.lst (os.map V.int))->os.Perm hs->Q (.ref q) H'
def Fw:Pc:=fun ds R _=>∃(hs:List Int) (c:Int),ds=[.lst (hs.map D.int),.int c]/\hs.length<=50/\∀os:List Int,os.Perm hs->R (.own (os.map D.int))
def Zan{P:Program}{w:World}{K:Za}{mg:Str->Option Value}{base:Heap}(C:Callee P w K mg base CX0 1 "_law_shuffled" ["_law_holders","_law_cell"] (DQ K)):Callee P w K mg base CX0 1 "_law_shuffled" ["_law_holders","_law_cell"] (Pu.spOf mg Fw K):=DB C fun ds R X vs H Q E r hc hQ hX=>by
 obtain⟨hs,c,rfl,hz,hR⟩:=hc;obtain⟨v,u,rfl,r1,r2⟩:=r.two_inv;obtain⟨a,rfl,ha⟩:=r1.ints_inv;rw[r2.int_inv];exact⟨a,hs,c,rfl,SqL.of ha,hz,fun q H' os nq S h hp=>hQ _ _ H' (hR os hp) S (F3 nq h)⟩
def EY:Pc:=fun ds R _=>∃ps:List (Int×Int),ds=[plD ps]/\ps.length<=1000/\R (.own ((JC (ps.map (·.1))).map D.int))
def Rk:Pc:=fun ds R X=>∃ps:List (Int×Int),ds=[plD ps]/\ps.length<=1000/\Xl (K7 ps) X (R (.sh .non))
def IV:Pc:=fun ds R _=>∃ps:List (Int×Int),ds=[plD ps]/\Field ps/\ps.length<=50/\(TogP ps->R (.sh (.bl true)))/\(¬TogP ps->R (.sh (.bl false)))
def R1:Pc:=fun ds R X=>∃(ps:List (Int×Int)) (os:List Int),ds=[plD ps,.lst (os.map D.int)]/\Field ps/\ps.length<=50/\os.length<64/\Xl (K0 ps os) X (R (.sh .non))
def Lr:Pc:=fun ds R _=>∃(l:Int) (hs:List Int) (ws:List (Int×Int)),ds=[.int l,.lst (hs.map D.int),.lst (ws.map prD)]/\hs.length<=50/\(∀t,¬Ks hs ws l t)/\R (.sh (.lst []))
def Ot:Pc:=fun ds R X=>∃(ws:List (Int×Int)) (a b:Int),ds=[plD ws,.int a,.int b]/\ws.length<=1000/\Xl (Xg ws a b) X (R (.own ((ws++[(a,b)]).map prD)))
def L0:Pc:=fun ds R _=>∃ps:List (Int×Int),ds=[.lst (ps.map prD)]/\Field ps/\ps.length<=50/\
 ∀kvs:List (List Key×V),(∀x∈Jp ps,∀y∈Jp ps,valV kvs [.inl x,.inl y]=some (.int (pcM ps x y ps.length)))->R (.own (.dT kvs))
def GZ:Pc:=fun ds R _=>∃(ms:List Int) (l:Int) (le pa:List (List Key×V)) (c:Int->Int) (v:Int),ds=[tD ms,.int l,.dT le,.dT pa]/\ms.length<=1000/\valV le (kT (Jw ms l))=some (.int v)/\
 (∀m∈Jw ms l,valV pa [.inl m,.inl l]=some (.int (c m)))/\R (.sh (.int (v+((Jw ms l).map c).sum)))
def IE:Pc:=fun ds R _=>∃(ms:List Int) (l:Int) (le pa:List (List Key×V)) (c:Int->Int) (v:Int),ds=[tD ms,.int l,.dT le,.dT pa]/\ms.length<=1000/\valV le (kT (Jw ms l))=some (.int v)/\
 (∀m∈Jw ms l,valV pa [.inl l,.inl m]=some (.int (c m)))/\R (.sh (.int (v+((Jw ms l).map c).sum)))
def G7:Pc:=fun ds R _=>∃(ns:List Int) (k:Int),ds=[.scr ns,.int k]/\0<=k/\∀v:Int,R (.sh (.int v))
def GK:Pc:=fun ds R _=>∃ns:List Int,ds=[.scr ns]/\∀v:Int,R (.sh (.int v))
def RG:Pc:=fun ds R _=>∃xs:List Int,ds=[.lst (xs.map D.int),.lst (xs.map D.int)]/\xs.length<=1000000/\R (.sh (.bl true))
def OP:Pc:=fun ds R _=>∃ps:List (Int×Int),ds=[.lst (ps.map prD),.lst (ps.map prD)]/\ps.length<=1000000/\R (.sh (.bl true))
def LM:Pc:=fun ds R _=>∃(ws:List (Int×Int)) (o:List Int),ds=[.lst (ws.map prD),.lst (o.map D.int)]/\X8 ws/\∀W,X8 W->(∀q∈W,badM o q=false)->R (.own (W.map prD))
def UZ(ps:List (Int×Int))(os:List Int):List (Int×Int):=os.flatMap fun h=>ps.filter fun q=>decide (q.1=h)
def Zah:Pc:=fun ds R X=>∃(ps:List (Int×Int)) (os:List Int),ds=[plD ps,.lst (os.map D.int)]/\Field ps/\ps.length<=50/\os.length<64/\Xl (K0 ps os) X (R (.own ((UZ ps os).map prD)))
def HD:Pc:=fun ds R _=>∃(ps:List (Int×Int)) (o:List Int),ds=[plD ps,.lst (o.map D.int)]/\Field ps/\ps.length<=40/\o.Perm (Jp ps)/\∀ms:List Mo,Mv ps (rkN ps o) (runI 1 ps.length) ms->R (.own (ms.map mvD))
def Zae:Pc:=fun ds R _=>∃(hs:List Int) (ws:List (Int×Int)),ds=[.lst (hs.map D.int),.lst (ws.map prD)]/\hs.length<=50/\(∀l∈hs,∀t,¬Ks hs ws l t)/\R (.sh (.lst []))
def Rb:Pc:=fun ds R _=>∃(ps ws:List (Int×Int)) (pa:List (List Key×V)) (c:Int->Int->Int),ds=[.lst (ps.map prD),.lst (ws.map prD),.dT pa]/\Field ps/\ps.length<=50/\ws.length<=50/\(∀q∈ws,q.1≠q.2)/\
 (∀x∈Jp ps,∀y∈Jp ps,valV pa [.inl x,.inl y]=some (.int (c x y)))/\Fb (Jp ps) ws/\∀kvs,Tab ws c (J3 (Jp ps)) kvs->R (.own (.dT kvs))
def Hy(C:Addr):Pw:=fun o ss R X=>∃(x:Addr) (ps:List (Int×Int)),o=.ins x C [] []/\ss=[.sh (plD ps)]/\ps.length<=1000/\Xl (K7 ps) (X (.ins x C [] [])) (∀b1 b2 b3,R (vO C x b1 b2 b3 [] [ps] [[]]) .non)
def Sk(bk:List (Str×List Int))(w:List (Int×Int))(a b:Int):Option Str:=if 100<=bk.length then some "BookFull" else Xg w a b
def Zav(C:Addr):Pw:=fun o ss R X=>∃(x b1 b2 b3:Addr) (bk:List (Str×List Int)) (fs ws:List (List (Int×Int))) (f w:List (Int×Int)) (p h:Int),o=vO C x b1 b2 b3 bk (fs++[f]) (ws++[w])/\ss=[.sh (.int p),.sh (.int h)]/\bk.length<=1000/\fs.length<=900/\ws.length<=900/\w.length<=1000/\
 Xl (Sk bk w p h) (X (vO C x b1 b2 b3 bk (fs++[f]) (ws++[w]))) (R (vO C x b1 b2 b3 (bk++[(("wish" : Str),[p,h])]) (fs++[f]++[f]) (ws++[w]++[w++[(p,h)]])) (.int (bk.length+1)))
def Hd:Pc:=fun ds R _=>∃(ns m:List Int) (n:Int),ds=[.scr ns,.lst (m.map D.int),.int n]/\Menu m/\0<=n/\n<=1000/\∀ps:List (Int×Int),Field ps->ps.length=n.toNat->R (.own (ps.map prD))
def RY:Pc:=fun ds R _=>∃(ns m:List Int),ds=[.scr ns,.lst (m.map D.int)]/\Menu m/\∀ws,X8 ws->R (.own (ws.map prD))
def Zam:Pc:=fun ds R _=>∃(ps ws:List (Int×Int)),ds=[.lst (ps.map prD),.lst (ws.map prD)]/\Field ps/\ps.length<=50/\(∀q∈ws,q.1≠q.2)/\(¬ ∃r,Ring (Jp ps) ws r)/\R (.sh .non)
def pcc(ps:List (Int×Int)):Int->Int->Int:=fun x y=>pcM ps x y ps.length
def Za3:Pc:=fun ds R _=>∃(ps ws:List (Int×Int)),ds=[.lst (ps.map prD),.lst (ws.map prD)]/\Field ps/\ps.length<=50/\ws.length<=50/\(∀q∈ws,q.1≠q.2)/\(¬ ∃r,Ring (Jp ps) ws r)/\
 ∀vs,TabV ws (pcc ps) (J3 (Jp ps)) vs->R (.own (vs.map D.int))
def Ha:Pc:=fun ds R _=>∃(ps ws:List (Int×Int)),ds=[.lst (ps.map prD),.lst (ws.map prD)]/\Field ps/\ps.length<=50/\ws.length<=50/\(∀q∈ws,q.1≠q.2)/\(¬ ∃r,Ring (Jp ps) ws r)/\
 ∀o,Best ws (pcc ps) (Jp ps) o->R (.own (o.map D.int))
def GX:Pc:=fun ds R _=>∃(ps ws:List (Int×Int)),ds=[.lst (ps.map prD),.lst (ws.map prD)]/\Field ps/\ps.length<=50/\ws.length<=50/\(∀q∈ws,q.1≠q.2)/\(¬ ∃r,Ring (Jp ps) ws r)/\
 ∀v,Least ws (pcc ps) (Jp ps) v->R (.sh (.int v))
def G4(C:Addr):Pc:=fun ds R _=>∃(bk:List (Str×List Int)) (fs ws:List (List (Int×Int))) (f w:List (Int×Int)),ds=[vilD C bk (fs++[f]) (ws++[w])]/\Field f/\f.length<=50/\w.length<=50/\(∀q∈w,q.1≠q.2)/\(¬ ∃r,Ring (Jp f) w r)/\∀o,Best w (pcc f) (Jp f) o->R (.own (o.map D.int))
def OV(C:Addr):Pc:=fun ds R _=>∃(bk:List (Str×List Int)) (fs ws:List (List (Int×Int))) (f w:List (Int×Int)),ds=[vilD C bk (fs++[f]) (ws++[w])]/\Field f/\f.length<=50/\w.length<=50/\(∀q∈w,q.1≠q.2)/\(¬ ∃r,Ring (Jp f) w r)/\∀v,Least w (pcc f) (Jp f) v->R (.sh (.int v))
def Iv(C:Addr):Pc:=fun ds R _=>∃(bk:List (Str×List Int)) (fs ws:List (List (Int×Int))) (f w:List (Int×Int)),ds=[vilD C bk (fs++[f]) (ws++[w])]/\Field f/\f.length<=40/\w.length<=50/\(∀q∈w,q.1≠q.2)/\(¬ ∃r,Ring (Jp f) w r)/\∀o ms,Best w (pcc f) (Jp f) o->Mv f (rkN f o) (runI 1 f.length) ms->R (.own (ms.map mvD))
def Lc(C:Addr):Pc:=fun ds R _=>∃(bk:List (Str×List Int)) (fs ws:List (List (Int×Int))) (f w:List (Int×Int)),ds=[vilD C bk (fs++[f]) (ws++[w])]/\Field f/\f.length<=50/\w.length<=50/\(∀q∈w,q.1≠q.2)/\(¬ ∃r,Ring (Jp f) w r)/\∀o,Best w (pcc f) (Jp f) o->R (.own ((UZ f o).map prD))
variable (P:Program) (w:World) (K:Za) (mg:Str->Option Value) (base:Heap)
abbrev N2:Prop:=Callee P w K mg base (ExcR.CXe P w) 1 "check_holder" ["holder"] (Pu.spOf mg IA K)
abbrev BW:Prop:=Callee P w K mg base (ExcR.CXe P w) 1 "check_width" ["width"] (Pu.spOf mg GT K)
abbrev Kr:Prop:=Callee P w K mg base CX0 1 "holders_of" ["strips"] (Pu.spOf mg FI K)
abbrev Ao:Prop:=Callee P w K mg base CX0 1 "begins_run" ["strips","index"] (Pu.spOf mg Ij K)
abbrev Es:Prop:=Callee P w K mg base CX0 1 "pair_cost" ["strips","ahead","behind"] (Pu.spOf mg HH K)
abbrev Ad:Prop:=Callee P w K mg base CX0 1 "own_numbers" ["strips"] (Pu.spOf mg IG K)
abbrev F8:Prop:=Callee P w K mg base CX0 1 "exchange_cost" ["strips","numbers","place"] (Pu.spOf mg Lo K)
abbrev D1:Prop:=Callee P w K mg base CX0 1 "exchanged" ["numbers","place"] (Pu.spOf mg MF K)
abbrev Ay:Prop:=Callee P w K mg base CX0 1 "first_wrong_place" ["numbers","ranks"] (Pu.spOf mg GM K)
abbrev Dj:Prop:=Callee P w K mg base CX0 1 "longer_paths" ["paths","left","wishes"] (Pu.spOf mg Hc K)
abbrev DV:Prop:=Callee P w K mg base CX0 1 "sets_of" ["holders"] (Pu.spOf mg HW K)
abbrev T1:Prop:=Callee P w K mg base CX0 1 "without" ["members","holder"] (Pu.spOf mg EJ K)
abbrev FU:Prop:=Callee P w K mg base CX0 1 "may_lie_last" ["members","holder","wishes"] (Pu.spOf mg OZ K)
abbrev FM:Prop:=Callee P w K mg base CX0 1 "may_lie_first" ["members","holder","wishes"] (Pu.spOf mg Oa K)
abbrev Kp:Prop:=Pu.CalleeM P w K mg base CX0 1 (Meth K (ExcR.Jq mg "Village") "strips") ["self"] (Pu.spOf mg (Gk (ExcR.Jq mg "Village")) K)
abbrev TK:Prop:=Pu.CalleeM P w K mg base CX0 1 (Meth K (ExcR.Jq mg "Village") "wishes") ["self"] (Pu.spOf mg (EO (ExcR.Jq mg "Village")) K)
abbrev BF:Prop:=Pu.CalleeM P w K mg base (ExcR.CXe P w) 1 (Meth K (ExcR.Jq mg "Village") "check_room") ["self"] (Pu.spOf mg (Oi (ExcR.Jq mg "Village")) K)
abbrev FX:Prop:=Pu.CalleeM P w K mg base CX0 1 (Meth K (ExcR.Jq mg "Village") "enter") ["self","deed","field","wishes"] (Pu.spW mg (Gg (ExcR.Jq mg "Village")) K)
abbrev Tw:Prop:=Callee P w K mg base CX0 1 "_law_at" ["_law_script","_law_k"] (Pu.spOf mg HQ K)
abbrev TR:Prop:=Callee P w K mg base CX0 1 "_law_whole" ["_law_found"] (Pu.spOf mg E4 K)
abbrev NR:Prop:=Callee P w K mg base CX0 1 "_law_mix" ["_law_cell","_law_place"] (Pu.spOf mg Ra K)
abbrev AJ:Prop:=Callee P w K mg base CX0 1 "_law_menu" ["_law_cell"] (Pu.spOf mg HU K)
abbrev Bs:Prop:=Callee P w K mg base CX0 1 "_law_holder" ["_law_menu_here","_law_k"] (Pu.spOf mg LO K)
abbrev Cy:Prop:=Callee P w K mg base CX0 1 "_law_present" ["_law_strips_here"] (Pu.spOf mg Lp K)
abbrev BM:Prop:=Callee P w K mg base CX0 1 "_law_together" ["_law_strips_here"] (Pu.spOf mg HK K)
abbrev Sr:Prop:=Callee P w K mg base CX0 1 "_law_kept" ["_law_order","_law_wishes_here"] (Pu.spOf mg OL K)
abbrev IM:Prop:=Callee P w K mg base CX0 1 "_law_shuffled" ["_law_holders","_law_cell"] (Pu.spOf mg Fw K)
abbrev FZ:Prop:=Callee P w K mg base CX0 1 "_law_runs" ["_law_strips_here"] (Pu.spOf mg EY K)
abbrev Ed:Prop:=Callee P w K mg base (ExcR.CXe P w) 2 "check_strips" ["strips"] (Pu.spOf mg Rk K)
abbrev Fu:Prop:=Callee P w K mg base CX0 2 "lies_together" ["strips"] (Pu.spOf mg IV K)
abbrev NF:Prop:=Callee P w K mg base (ExcR.CXe P w) 2 "check_order" ["strips","order"] (Pu.spOf mg R1 K)
abbrev F5:Prop:=Callee P w K mg base CX0 2 "ring_from" ["least","holders","wishes"] (Pu.spOf mg Lr K)
abbrev Fm:Prop:=Callee P w K mg base (ExcR.CXe P w) 2 "with_wish" ["wishes","ahead","behind"] (Pu.spOf mg Ot K)
abbrev SG:Prop:=Callee P w K mg base CX0 2 "pair_costs" ["strips"] (Pu.spOf mg L0 K)
abbrev Eg:Prop:=Callee P w K mg base CX0 2 "cost_with_last" ["members","last","least","pairs"] (Pu.spOf mg GZ K)
abbrev AG:Prop:=Callee P w K mg base CX0 2 "cost_with_first" ["members","first","least","pairs"] (Pu.spOf mg IE K)
abbrev P3:Prop:=Callee P w K mg base CX0 2 "_law_draw" ["_law_script","_law_k"] (Pu.spOf mg G7 K)
abbrev AN:Prop:=Callee P w K mg base CX0 2 "_law_spare" ["_law_script"] (Pu.spOf mg GK K)
abbrev El:Prop:=Callee P w K mg base CX0 2 "_law_row" ["_law_found","_law_due"] (Pu.spOf mg RG K)
abbrev Ac:Prop:=Callee P w K mg base CX0 2 "_law_tuples" ["_law_found","_law_due"] (Pu.spOf mg OP K)
abbrev CG:Prop:=Callee P w K mg base CX0 2 "_law_along" ["_law_wishes_here","_law_order"] (Pu.spOf mg LM K)
abbrev Aj:Prop:=Callee P w K mg base (ExcR.CXe P w) 3 "gathered" ["strips","order"] (Pu.spOf mg Zah K)
abbrev Ep:Prop:=Callee P w K mg base CX0 3 "told_moves" ["strips","order"] (Pu.spOf mg HD K)
abbrev FE:Prop:=Callee P w K mg base CX0 3 "find_ring" ["holders","wishes"] (Pu.spOf mg Zae K)
abbrev NC:Prop:=Callee P w K mg base CX0 3 "least_costs" ["strips","wishes","pairs"] (Pu.spOf mg Rb K)
abbrev CA:Prop:=Pu.CalleeM P w K mg base (ExcR.CXe P w) 3 (Mk K (ExcR.Jq mg "Village")) ["self","strips"] (Pu.spW mg (Hy (ExcR.Jq mg "Village")) K)
abbrev Fq:Prop:=Pu.CalleeM P w K mg base (ExcR.CXe P w) 3 (Meth K (ExcR.Jq mg "Village") "wish") ["self","ahead","behind"] (Pu.spW mg (Zav (ExcR.Jq mg "Village")) K)
abbrev BL:Prop:=Callee P w K mg base CX0 3 "_law_strips" ["_law_script","_law_menu_here","_law_many"] (Pu.spOf mg Hd K)
abbrev Dm:Prop:=Callee P w K mg base CX0 3 "_law_wishes" ["_law_script","_law_menu_here"] (Pu.spOf mg RY K)
abbrev Nr:Prop:=Callee P w K mg base CX0 4 "check_no_ring" ["strips","wishes"] (Pu.spOf mg Zam K)
abbrev DZ:Prop:=Callee P w K mg base CX0 5 "cost_table" ["strips","wishes"] (Pu.spOf mg Za3 K)
abbrev Co:Prop:=Callee P w K mg base CX0 5 "best_order" ["strips","wishes"] (Pu.spOf mg Ha K)
abbrev DK:Prop:=Callee P w K mg base CX0 6 "least_cost" ["strips","wishes"] (Pu.spOf mg GX K)
abbrev Tx:Prop:=Pu.CalleeM P w K mg base CX0 6 (Meth K (ExcR.Jq mg "Village") "order") ["self"] (Pu.spOf mg (G4 (ExcR.Jq mg "Village")) K)
abbrev Ak:Prop:=Pu.CalleeM P w K mg base CX0 7 (Meth K (ExcR.Jq mg "Village") "cost") ["self"] (Pu.spOf mg (OV (ExcR.Jq mg "Village")) K)
abbrev FT:Prop:=Pu.CalleeM P w K mg base CX0 7 (Meth K (ExcR.Jq mg "Village") "moves") ["self"] (Pu.spOf mg (Iv (ExcR.Jq mg "Village")) K)
abbrev Cr:Prop:=Pu.CalleeM P w K mg base CX0 7 (Meth K (ExcR.Jq mg "Village") "melded") ["self"] (Pu.spOf mg (Lc (ExcR.Jq mg "Village")) K)
abbrev Rf(st:Stmt):Prop:=Lam.LawC P w K mg base 8 st (Pu.spOf mg Cp K)
end M
namespace M
open PySem PySem.Spec PyProof.Rows L2 Own Pu
def Tp{α:Type}{xs:List α}{i:Nat}{d:α}(h:i<xs.length):xs.getD i d=xs[i]:=by rw[Yd,ZZ h];rfl
def AV{α:Type}{xs:List α}{i:Nat}{d:α}(h:i<xs.length):xs.getD i d=xs[i]:=by rw[Yd,ZZ h];rfl
def Lx{ns:List Int}{p:Int}(h1:1<=p)(h2:p<ns.length){b1:p.toNat<ns.length}{b2:(p-1).toNat<ns.length}:cutD (ns.map D.int) none (some (p-1))++[D.int ns[p.toNat],D.int ns[(p-1).toNat]]++cutD (ns.map D.int) (some (p+1)) none=(Ur ns p.toNat).map D.int:=by
 unfold Ur;rw[KQ,KQ,DO ns (by omega),SL ns (by omega),Yt,Yt];have e1:p.toNat-1=(p-1).toNat:=by omega
 have e2:p.toNat+1=(p+1).toNat:=by omega
 rw[e1,e2,AV b1,AV b2];rfl
structure LWs (ws:List (Int×Int)) (l:Int) (ps:List (List Int)) (ls:List Int) (lg:List (List Int)) (kvs:List (Key×V)):Prop where
 g:LW ws l ps ls lg
 nd:(lg.map (JB l)).Nodup
 rc:∀h:Int,(valV kvs (.inl h)).isSome=true↔h∈lg.map (JB l)
 len:kvs.length<=lg.length
section
variable {ws:List (Int×Int)}{l:Int}{ps:List (List Int)}{ls:List Int}{lg:List (List Int)}{kvs:List (Key×V)}
def LWs.len_le (L:LWs ws l ps ls lg kvs):lg.length<=ls.length:=by
 have:=NI L.nd (ys:=ls) fun h hh=>by
  obtain⟨q,hq,e⟩:=Y7.mp hh;obtain⟨p,_,x,hx,rfl,_⟩:=L.g q hq;rw[XY]at e;rw[←e];exact hx
 rwa[Ya]at this
def LWs.put {p:List Int}{h:Int} (hp:p∈ps) (hh:h∈ls) (G:LWs ws l ps ls lg kvs) (new:(valV kvs (.inl h)).isSome=false) (hw:(JB l p,h)∈ws):LWs ws l ps ls (lg++[p++[h]]) (putK kvs (.inl h) (.bl true)):=by
 have lh:JB l (p++[h])=h:=by rw[XY];rfl
 have nh:h∉lg.map (JB l):=fun z=>by rw[(G.rc h).mpr z]at new;cases new
 refine⟨fun q hq=>?_,?_,fun x=>?_,?_⟩
 ·rcases Yz.mp hq with hq|hq
  ·exact G.g q hq
  ·exact⟨p,hp,h,hh,Yf.mp hq,hw⟩
 ·rw[Yt,Qe,lh];refine Wc.mpr ⟨G.nd,by simp,fun a ha b hb=>?_⟩;rw[Yf.mp hb];rintro rfl;exact nh ha
 ·rw[Yt,Qe,lh,TU,Yz,Yf];by_cases e:x=h
  ·subst e;rw[Yg rfl];exact⟨fun _=>.inr rfl,fun _=>rfl⟩
  ·rw[Ye (fun z=>e (Sum.inl.inj z)),G.rc];exact⟨.inl,fun z=>z.elim id fun w=>absurd w e⟩
 ·rw[Yn]
  have:=T4 kvs (.inl h) (.bl true)
  have:=G.len
  simp;omega
end
def Fc(c:Int->Bool):∀ws:List Int,ws.filterMap (fun q=>if c q=true then some (D.int q)else none)=(ws.filter c).map D.int:=US c D.int
def Iq{o:List Int}{q:Int×Int}(h:badM o q=true):badM o (q.2,q.1)=false:=by
 unfold badM at h ⊢;rw[YA,YA]at h
 have:=Ys h.2.2
 rw[Yv (p:=o.idxOf (q.2,q.1).2<o.idxOf (q.2,q.1).1) (by show ¬o.idxOf q.1<o.idxOf q.2;omega),Vc,Vc]
def Zad(ps:List (Int×Int))(os:List Int):(UZ ps os).length<=os.length*ps.length:=by
 unfold UZ
 induction os with
 |nil=>simp
 |cons h r ih=>
  rw[List.flatMap_cons,Yn,Y3,Nat.add_mul]
  have:=Wk (fun q:Int×Int=>decide (q.1=h)) ps
  omega
def Mp{hs:List Int}{ws:List (Int×Int)}{l:Int}(hu:∀q∈ws,q.1≠q.2)(hN:¬ ∃r,Ring hs ws r)(hl:l∈hs):∀(n:Nat) (t:List Int),t.length<=n->¬Ks hs ws l t:=by
 intro n
 induction n with
 |zero=>exact fun t ht hc=>hN ⟨_,CT hu hl hc fun u _=>by omega⟩
 |succ n ih=>exact fun t ht hc=>hN ⟨_,CT hu hl hc fun u hu'=>YL fun z=>ih u (by omega) hu'⟩
def Om(γ:List (Option Pu.S)):Nat:=match γ[4]? with
 |some (some (Pu.S.sh (Pu.D.tup ds)))=>ds.length
 |_=>0
def TL{α:Type}{xs:List α}{x:α}(h:xs[xs.length-1]?=some x):atI xs (-1)=some x:=by
 have hi:=(Y2.mp h).1;unfold atI ixN;rw[Ye (by omega),Yg (by omega)];show xs[_]?=some x;rw[←h];congr 1;omega
def FP{W:List (Int×Int)}{o:List Int}(nd:o.Nodup)(h:∀q∈W,badM o q=false):Keeps W o:=by
 refine YE.mpr fun i j hi hj hij hw=>?_;have hb:=h _ hw;have h1:decide (o[j]∈o)=true:=Yh (Yr hj);have h2:decide (o[i]∈o)=true:=Yh (Yr hi);have h3:decide (o.idxOf o[i]<o.idxOf o[j])=true:=Yh (by rw[nd.idxOf_getElem i hi,nd.idxOf_getElem j hj];exact hij);unfold badM at hb;rw[h1,h2,h3]at hb;cases hb
def LC{W:List (Int×Int)}{o:List Int}(hk:Keeps W o):∀q∈W,badM o q=false:=fun q hq=>by
 cases hb:badM o q with
 |false=>rfl
 |true=>
  unfold badM at hb;rw[YA,YA]at hb;have h1:=Ys hb.1;have h2:=Ys hb.2.1;have h3:=Ys hb.2.2;have g1:=YV.mpr h1;have g2:=YV.mpr h2
  have:=YE.mp hk _ _ g2 g1 h3
  rw[YO g2,YO g1]at this;exact absurd hq this
end M
namespace T
open PySem PySem.Spec PyProof.Rows L2 Own M
section
variable {P:Program}{w:World}{K:Za}{mg:Str->Option Value}{base:Heap}
def Le(G:Glob K mg)(D:Def K mg "holders_of" Nh ["strips"])
  : Callee P w K mg base CX0 1 "holders_of" ["strips"] (A2 K):=by
 refine D.ok (k:=0) Ls (fun vs H Q E h=>?_) (fun f cdv A outer s H vs Q E hr h=>?_)
 ·obtain⟨l,ps,rfl,⟨vs,hl,hv⟩,hF,hz,q⟩:=h;rfl
 ·obtain⟨l,ps,rfl,⟨vs,hl,hv⟩,hF,hz,q⟩:=h;refine⟨_,(Jk (Jt (JY (CW rfl) (by rfl) G.sorted boot_sorted (J1 (Xb (RC rfl) (by rfl) G.set boot_set (J1 (Us (N':=["holder","width"]) (φ:=[none,none]) rfl (Own.CompOk.of (by rfl)) (CM (pv 0)) (fun _ _ _ _ _=>⟨(Xq (K:=K) (n:=2) rfl (Ue (Nn (i:=0) (show(["holder","width"]:List Str).Nodup from by decide +kernel) rfl (by first|exact Or.inl rfl|exact Or.inr rfl)) (Ue (Nn (i:=1) (show(["holder","width"]:List Str).Nodup from by decide +kernel) rfl (by first|exact Or.inl rfl|exact Or.inr rfl)) Xs))),UO,(pv 0)⟩)) J4)) J4)))),?_⟩
  have e1:=hv.1;refine⟨_,rfl,l,rfl,⟨_,SqL.of hl⟩,fun D nD=>Oz (ds:=ps) (fun d=>some (V.int d.1)) (SqL.of hl) e1 nD (Yx hz (by decide)) (fun i x d H2 hx hd S k hk=>?_) ?_⟩
  ·obtain⟨d',hd',a,rfl,ha⟩:=hv.get hx;rw[hd]at hd';cases hd'
   exact⟨a,_,rfl,SqT.of (S _ _ ha),rfl,_,_,rfl,_,_,rfl,rfl,.skip (.skip .refl),_,rfl,hk⟩
  ·have em:ps.filterMap (fun d=>some (V.int d.1))=(ps.map (·.1)).map V.int:=by
    rw[Qg,YK];rfl
   rw[em];have S1:Same H (upd H D (.lst ((ps.map (·.1)).map V.int))):=JT nD;refine⟨D,ps.map (·.1),rfl,SqL.of J8,by rw[Ya];omega,fun s1 n1=>?_⟩;have S2:=Own.Same.new (o:=SetH w s1 ((ps.map (·.1)).foldl SetR.addJ [])) S1 n1;refine⟨s1,_,rfl,?_,.inr J8,fun r ns n2 hp hs=>?_⟩
   ·have:=FJ (ps.map (·.1)) []
    rw[Ya]at this;simp at this ⊢;omega
   ·rw[M5 hF hp hs];exact q r _ (S2.free n2) (Own.Same.new S2 n2) J8
def HL(G:Glob K mg)(D:Def K mg "_law_shuffled" NN ["_law_holders","_law_cell"])
  : Callee P w K mg base CX0 1 "_law_shuffled" ["_law_holders","_law_cell"] (DQ K):=by
 refine D.ok (k:=0) Ph (fun vs H Q E h=>?_) (fun f cdv A outer s H vs Q E hr h=>?_)
 ·obtain⟨l,hs,c,rfl,hl,hz,q⟩:=h;rfl
 ·obtain⟨l,hs,c,rfl,hl,hz,q⟩:=h
  refine⟨_,(Jl (Pu.pz 2 Ph.nd (Xb A7 (by rfl) G.list boot_list (J1 (pv 0) J4)))
   (Jl (Pu.pz 3 Ph.nd (JF J4))
   (Jl (Pu.pz 4 Ph.nd (pv 1))
   (Jl (T8 Y8 (JE (Ei hr.units0) (pv 2) (JF J4) (JJ _))
   (Jl (JL (Uw Y5 YH YI UI (pv 3) (J1 (Bl S8 (pv 2) (Jo JM (pv 4) (JY SZ (by rfl) G.len PySem.boot_len (J1 (pv 2) J4))) (fun _ _=>rfl)) J4)))
   (Jl (Pu.pz 4 Ph.nd (Jo U1 (pv 4) (JY SZ (by rfl) G.len PySem.boot_len (J1 (pv 2) J4))))
   (Jk (JL (Uw Y5 PySem.F.slot_list_remove PySem.F.type_list_remove Za0 (pv 2) (J1 (Bl S8 (pv 3) (Kh XT Ji) (fun _ _=>rfl)) J4)))))))
   (Jk (Jt (pv 3))))))),?_⟩
  refine⟨_,rfl,_,_,rfl,.inl hl,fun L nL=>⟨by decide,fun O nO=>⟨_,rfl,?_⟩⟩⟩;have S1:=JT (o:=.lst (hs.map V.int)) nL;have S2:=Own.Same.new (o:=.lst []) S1 nO;have nLO:L≠O:=fun z=>by rw[←z,J8]at nO;cases nO
  have nO0:=S1.free nO;refine⟨fun m σ H2=>∃(xs os:List Int) (c':Int),m=xs.length/\σ=[some (.ref l),some (.int c),some (.ref L),some (.ref O),some (.int c')]/\H2 L=some (.lst (xs.map V.int))/\H2 O=some (.lst (os.map V.int))/\(os++xs).Perm hs/\Same H H2,⟨hs.length,hs,[],c,rfl,rfl,by rw[Jv nLO,J8],J8,List.Perm.refl _,S2⟩,?_⟩;rintro m σ H2 ⟨xs,os,c',rfl,rfl,hL,hO,hp,S⟩;refine⟨_,rfl,by decide,fun e ne=>⟨L,e,_,_,rfl,rfl,SqL.of (by rw[Jv (JN hL ne)];exact hL),SqL.of J8,XA xs,XA [],_,rfl,?_⟩⟩;show if (!eqL (xs.map V.int) (([]:List Int).map V.int))=true then _ else _;rw[SJ];have S3:=Own.Same.new (o:=.lst []) S ne;have hL3:(upd H2 e (.lst [])) L=some (.lst (xs.map V.int)):=by rw[Jv (JN hL ne)];exact hL
  have hO3:(upd H2 e (.lst [])) O=some (.lst (os.map V.int)):=by rw[Jv (JN hO ne)];exact hO
  generalize upd H2 e (.lst [])=H3 at S3 hL3 hO3;have hlen:=hp.length_eq;rw[Yn]at hlen;by_cases hx:xs=[]
  ·rw[Yh hx];subst hx;refine iteF ⟨_,rfl,q O H3 os nO0 S3 hO3 ?_⟩;simpa using hp
  ·rw[Yv hx];have hpos:0<xs.length:=QZ.mpr hx;refine iteT ⟨fun σ' H'=>∃m',m'<xs.length/\∃(xs' os':List Int) (c':Int),m'=xs'.length/\σ'=[some (.ref l),some (.int c),some (.ref L),some (.ref O),some (.int c')]/\H' L=some (.lst (xs'.map V.int))/\H' O=some (.lst (os'.map V.int))/\(os'++xs').Perm hs/\Same H H',fun σ' H' z=>z,?_⟩;have hi1:=Qd c' (show(xs.length:Int)≠0 by omega);have hi2:=WJ c' (show(0:Int)<xs.length by omega);have hk:(c' % (xs.length:Int)).toNat<xs.length:=by omega
   have ai:atI (xs.map V.int) (c' % (xs.length:Int))=some (.int xs[(c' % (xs.length:Int)).toNat]):=Xi (P7 hi1 (ZZ hk));generalize hz0:xs[(c' % (xs.length:Int)).toNat]=z at ai;have hzx:z∈xs:=by rw[←hz0];exact Yr hk
   refine⟨_,rfl,.inl ⟨rfl,_,SqL.of hO3⟩,_,rfl,_,rfl,_,rfl,_,_,rfl,.inl ⟨_,SqL.of hL3,rfl⟩,_,_,rfl,rfl,(by show(0:Int)<_;rw[Ya];omega),.inl ⟨L,xs.map V.int,c' % ((xs.map V.int).length:Int),.int z,rfl,rfl,SqL.of hL3,by rw[Ya];exact ai,O,_,_,rfl,rfl,hO3,CH (by rw[Ya];omega),?_⟩⟩;have hO4:(upd H3 O (.lst (os.map V.int++[.int z]))) O=some (.lst ((os++[z]).map V.int)):=by rw[J8,Yt];rfl
   have hL4:(upd H3 O (.lst (os.map V.int++[.int z]))) L=some (.lst (xs.map V.int)):=by rw[Jv nLO];exact hL3
   have S4:Same H (upd H3 O (.lst (os.map V.int++[.int z]))):=fun b o e'=>by rw[Jv (JN e' nO0)];exact S3 b o e'
   generalize upd H3 O (.lst (os.map V.int++[.int z]))=H4 at S4 hL4 hO4;refine⟨_,rfl,_,rfl,_,_,rfl,.inl ⟨_,SqL.of hL4,rfl⟩,_,_,rfl,rfl,⟨by rw[Ya];omega,by rw[Ya];omega⟩,?_⟩;have al:atI ((os++[z]).map V.int) (-1)=some (.int z):=by rw[Yt];exact Gh _ _
   refine⟨_,rfl,.inl ⟨rfl,_,SqL.of hL4⟩,_,rfl,_,rfl,.inl ⟨O,_,_,_,rfl,rfl,SqL.of hO4,al,L,xs,z,rfl,rfl,hL4,hzx,?_⟩⟩;have hj:xs.idxOf z<xs.length:=YV.mpr hzx;have e1:(xs.eraseIdx (xs.idxOf z)).length<xs.length:=by rw[Qs hj];omega
   refine⟨_,e1,xs.eraseIdx (xs.idxOf z),os++[z],_,rfl,rfl,J8,by rw[Jv nLO.symm];exact hO4,?_,fun b o e'=>by rw[Jv (JN e' nL)];exact S4 b o e'⟩;have pe:=SetR.TJ xs (xs.idxOf z) hj;have ez:xs[xs.idxOf z]=z:=YO hj;rw[ez]at pe;rw[Qh];exact(pe.append_left os).trans hp
end
open Pu
section
variable {P:Program}{w:World}{K:Za}{mg:Str->Option Value}{base:Heap}
def M9(G:Glob K mg)(DD:Def K mg "check_holder" Bk ["holder"])
  : N2 P w K mg base:=by
 refine DD.ox (k:=0) MW (fun _ _ _ _ _ _ E hr=>⟨_,(Jk (J5 (PW.pt (U8 (JE TM (pv 0) Ji (JJ _)) (UJ (JE UF (pv 0) (ExcR.UY G.HOLDERS) (JJ _))))) (Jk (ExcR.Xz G.g_BadHolder.c G.m_BadHolder ExcR.XB rfl (az (ExcR.pe_f (ExcR.Xu (ExcR.Po (ExcR.UY G.HOLDERS) ExcR.Pv))))))
   J7)), (J6 (U7 (Jz (To (Jg 0) Jh)) (Jz (UK (Jg 0) Jh))) (X0 (sz (se_f (X5 (Pk Jh KB))))) J9)⟩) (.a fun ds R X h=>?_)
 ·obtain⟨h,rfl,hR⟩:=h;refine⟨rfl,?_⟩;unfold KF at hR;refine ite2 (fun g=>iteT ?_) (fun g=>?_)
  ·rw[Ye (by have:=Ys g;omega)]at hR;exact⟨by decide,by decide,by decide,by decide,by simp,hR⟩
  ·have g':¬h<1:=fun z=>g (Yh z);refine ite2 (fun g2=>?_) (fun g2=>?_)
   ·rw[Ye (by have:=Ys g2;omega)]at hR;exact⟨by decide,by decide,by decide,by decide,by simp,hR⟩
   ·have g2':¬10<h:=fun z=>g2 (Yh z);rw[Yg (by omega)]at hR;exact hR
def Ib(G:Glob K mg)(DD:Def K mg "check_width" BC ["width"])
  : BW P w K mg base:=by
 refine DD.ox (k:=0) Rc (fun _ _ _ _ _ _ E hr=>⟨_,(Jk (J5 (PW.pt (U8 (JE TM (pv 0) Ji (JJ _)) (UJ (JE UF (pv 0) (ExcR.UY G.WIDEST) (JJ _))))) (Jk (ExcR.Xz G.g_BadWidth.c G.m_BadWidth ExcR.XB rfl (az (ExcR.pe_f (ExcR.Xu (ExcR.Po (ExcR.UY G.WIDEST) ExcR.Pv))))))
   J7)), (J6 (U7 (Jz (To (Jg 0) Jh)) (Jz (UK (Jg 0) Jh))) (X0 (sz (se_f (X5 (Pk Jh KB))))) J9)⟩) (.a fun ds R X h=>?_)
 ·obtain⟨h,rfl,hR⟩:=h;refine⟨rfl,?_⟩;unfold Nf at hR;refine ite2 (fun g=>iteT ?_) (fun g=>?_)
  ·rw[Ye (by have:=Ys g;omega)]at hR;exact⟨by decide,by decide,by decide,by decide,by simp,hR⟩
  ·have g':¬h<1:=fun z=>g (Yh z);refine ite2 (fun g2=>?_) (fun g2=>?_)
   ·rw[Ye (by have:=Ys g2;omega)]at hR;exact⟨by decide,by decide,by decide,by decide,by simp,hR⟩
   ·have g2':¬1000<h:=fun z=>g2 (Yh z);rw[Yg (by omega)]at hR;exact hR
def Mm(G:Glob K mg)(DD:Def K mg "begins_run" N7 ["strips","index"])
  : Ao P w K mg base:=by
 refine DD.oz (k:=0) O1 (fun _ _ _ _ _ _ E hr=>⟨_,(Jk (Jt (GN (Xm (KS (K:=K) (show _<cLine from hr.units0)) (pv 1) Ji (JJ _)) (P2 (Xm (D2 (K:=K) (show _<cLine from hr.units0)) (jx K (jx K (pv 0) (Jo U3 (pv 1) Ji)) Ji) (jx K (jx K (pv 0) (pv 1)) Ji) (JJ _)))))), (Jy (E6 (UA (Jg 1) Jh) (UM (Ju (Ju (Jg 0) (U5 (Jg 1) Jh)) Jh) (Ju (Ju (Jg 0) (Jg 1)) Jh))))⟩) (.a fun ds R X h=>?_)
 ·obtain⟨ps,k,rfl,hk,hR⟩:=h;refine⟨rfl,?_⟩;have ap:∀(j:Nat) (z:Int),j<ps.length->z=(j:Int)->∃h:j<ps.length,atI (ps.map prD) z=some (prD ps[j]):=fun j z hj e=>⟨hj,by rw[e];exact Tj hj⟩;unfold begM at hR;by_cases c:k=0
  ·subst c;exact hR
  ·show if decide (((k:Nat):Int)=0)=true then _ else _;have c':¬((k:Nat):Int)=0:=by omega
   rw[Yv c'];obtain⟨h1,a1⟩:=ap (k-1) ((k:Int)-1) (by omega) (by omega);obtain⟨h2,a2⟩:=ap k (k:Int) hk rfl;refine iteF ⟨_,a1,_,rfl,_,a2,_,rfl,?_⟩;rw[Yv c,Bool.false_or,JZ h1,JZ h2]at hR;exact hR
def Os(G:Glob K mg)(DD:Def K mg "pair_cost" NT ["strips","ahead","behind"])
  : Es P w K mg base:=by
 refine DD.oz (k:=0) XQ (fun _ _ _ _ _ _ E hr=>⟨_,(Jl (Pu.pz 3 XQ.nd Ji) (Jl (Pu.pz 4 XQ.nd Ji) (Jl (JS Y8 rfl (JI (K:=K) (pv 0)) (Xq (K:=K) (n:=2) rfl (Ue (gz 5 XQ.nd) (Ue (gz 6 XQ.nd) Xs))) (Jk (J5 (cq K hr (pv 5) (pv 2)) (Jk (Dr (i:=3) XQ.nd rfl (by first|exact Or.inl rfl|exact Or.inr rfl) (pv 6) Fn)) (Jk (J5 (cq K hr (pv 5) (pv 1)) (Jk (Dr (i:=4) XQ.nd rfl (by first|exact Or.inl rfl|exact Or.inr rfl) (Jo Kd (pv 3) (pv 6)) Fn))
   J7))))) (Jk (Jt (pv 4)))))), (Jm (Jr Jh (Jj 3)) (Jm (Jr Jh (Jj 4)) (Jm (J0 0 (JQ [5,6] (Uy (Jg 0)) (X4 (Uj (Jj 5) (Uj (Jj 6) Xy))) (J6 (Jz (UA (Jg 5) (Jg 2))) (Ar (Jg 6)) (J6 (Jz (UA (Jg 5) (Jg 1))) (Ar (XC (Jg 3) (Jg 6))) J9)))) (U0 4))))⟩) (.a fun ds R X h=>?_)
 ·obtain⟨ps,x,y,rfl,hF,hR⟩:=h;refine⟨rfl,?_⟩;refine⟨rfl,Uv (xs:=ps) (emb:=prD) (fun i γ'=>γ'=[some (.bor (.lst (ps.map prD))),some (.sh (.int x)),some (.sh (.int y)),some (.sh (.int (tpM ps y i))),some (.sh (.int (pcM ps x y i))),none,none]) rfl ?_ ?_⟩
  ·rintro i hi γ' rfl;have hp:ps.getD i (0,0)=ps[i]:=by rw[Yd,ZZ hi];rfl
   have hw:=hF _ (Yr hi);have e1:tpM ps y (i+1)=tpM ps y i+(if ps[i].1=y then ps[i].2 else 0):=by simp only[tpM];rw[hp]
   have e2:pcM ps x y (i+1)=pcM ps x y i+(if x≠y/\ps[i].1=x then tpM ps y i*ps[i].2 else 0):=by simp only[pcM];rw[hp]
   rw[e1,e2];generalize ps[i]=p at hw;refine⟨rfl,ite2 (fun g=>?_) (fun g=>ite2 (fun g2=>?_) (fun g2=>?_))⟩
   ·have e:p.1=y:=Ys g;rw[Yg e,Ye (by rintro⟨z1,z2⟩;exact z1 (z2.symm.trans e)),Vo];rfl
   ·have e:¬p.1=y:=fun z=>g (Yh z);have e':p.1=x:=Ys g2;rw[Ye e,Yg ⟨fun z=>e (e'.trans z),e'⟩,Vo];exact⟨.inr ⟨by show -(2 ^ 64)<p.2;omega,by show p.2<2 ^ 64;omega⟩,rfl⟩
   ·have e:¬p.1=y:=fun z=>g (Yh z);have e':¬p.1=x:=fun z=>g2 (Yh z);rw[Ye e,Ye (by rintro⟨z1,z2⟩;exact e' z2),Vo,Vo];rfl
  ·rintro γ' rfl;exact hR
def RJ(G:Glob K mg)(DD:Def K mg "own_numbers" Sx ["strips"])
  : Ad P w K mg base:=by
 refine DD.oz (k:=0) IH (fun _ _ _ _ _ _ E hr=>⟨_,(Jk (Jt (Us (N':=["index"]) (φ:=[none]) rfl (Own.CompOk.of (by rfl)) (Xf rfl G.range (az (ln K G.len (pv 0)))) (fun _ _ _ _ _=>⟨(gz 0 (show(["index"]:List Str).Nodup from by decide +kernel)),UO,(Jo Ud (pv 0) Ji)⟩)))), (Jy (Ua (SndI.c (Xj (sz (JH (sz (Jg 0)))))) (Jj 0) Xc (Ub (Jg 0) Jh)))⟩) (.a fun ds R X h=>?_)
 ·obtain⟨ps,rfl,hz,hR⟩:=h;refine⟨rfl,?_⟩;have hl:(ps.map prD).length=ps.length:=Ya ..;refine⟨⟨by omega,by omega⟩,BD (fun i=>some (.int (0+(i:Int)+1))) (by omega) (fun i _=>⟨_,rfl,rfl⟩) ?_⟩
  have e:(List.range ((ps.map prD).length:Int).toNat).filterMap (fun(i:Nat)=>some (D.int (0+(i:Int)+1)))=(runI 1 ps.length).map D.int:=by
   unfold runI;rw[Qg,YK,hl,YF];refine Ww fun i _=>?_;show D.int (0+(i:Int)+1)=D.int (1+(i:Int));congr 1;omega
  rw[e];exact hR
def Mq(G:Glob K mg)(DD:Def K mg "exchange_cost" Sz ["strips","numbers","place"])
  : F8 P w K mg base:=by
 refine DD.oz (k:=0) SQ (fun _ _ _ _ _ _ E hr=>⟨_,(Jl (Pu.pz 3 SQ.nd (jx K (pv 0) (Jo U3 (jx K (pv 1) (Jo U3 (pv 2) Ji)) Ji))) (Jl (Pu.pz 4 SQ.nd (jx K (pv 0) (Jo U3 (jx K (pv 1) (pv 2)) Ji))) (Jk (Jt (Jo Kd (jx K (pv 3) Ji) (jx K (pv 4) Ji)))))), (Jm (Jr (Ju (Jg 0) (U5 (Ju (Jg 1) (U5 (Jg 2) Jh)) Jh)) (Jj 3)) (Jm (Jr (Ju (Jg 0) (U5 (Ju (Jg 1) (Jg 2)) Jh)) (Jj 4)) (Jy (XC (Ju (Jg 3) Jh) (Ju (Jg 4) Jh)))))⟩) (.a fun ds R X h=>?_)
 ·obtain⟨ps,ns,p,rfl,hF,hin,h1,h2,hR⟩:=h;refine⟨rfl,?_⟩;have b1:(p-1).toNat<ns.length:=by omega
  have b2:p.toNat<ns.length:=by omega
  have i1:=hin _ (Yr b1);have i2:=hin _ (Yr b2);refine⟨_,UX (by omega) (by omega),_,UX (by omega) (by omega),_,UX (by omega) (by omega),_,UX (by omega) (by omega),_,rfl,_,rfl,?_⟩;have c1:(ns[(p-1).toNat]-1).toNat<ps.length:=by omega
  have c2:(ns[p.toNat]-1).toNat<ps.length:=by omega
  have f1:=hF _ (Yr c1);refine⟨.inl ⟨by show -(2 ^ 64)<(ps[(ns[(p-1).toNat]-1).toNat]).2;omega,by show(ps[(ns[(p-1).toNat]-1).toNat]).2<2 ^ 64;omega⟩,?_⟩
  have e:exM ps ns p.toNat=(ps[(ns[(p-1).toNat]-1).toNat]).2*(ps[(ns[p.toNat]-1).toNat]).2:=by
   unfold exM
   have e1:ns.getD (p.toNat-1) 0=ns[(p-1).toNat]:=by
    rw[show p.toNat-1=(p-1).toNat by omega];exact Tp b1
   rw[e1,Tp b2,Tp c1,Tp c2]
  rw[e]at hR;exact hR
def Oj(G:Glob K mg)(DD:Def K mg "exchanged" SX ["numbers","place"])
  : D1 P w K mg base:=by
 refine DD.oz (k:=0) Iu (fun _ _ _ _ _ _ E hr=>⟨_,(Jk (Jt (Jo XO (Jo XO (Pr (Pf (K:=K)) (pv 0) KW (Pt (Jo U3 (pv 1) Ji))) (JF (bz (jx K (pv 0) (pv 1)) (jx K (pv 0) (Jo U3 (pv 1) Ji))))) (Pr (Pf (K:=K)) (pv 0) (Pt (Jo Ud (pv 1) Ji)) KW)))), (Jy (Ki (Ki (KG (Jg 0) Pd (Pz (U5 (Jg 1) Jh))) (JG (tz (Ju (Jg 0) (Jg 1)) (Ju (Jg 0) (U5 (Jg 1) Jh))))) (KG (Jg 0) (Pz (Ub (Jg 1) Jh)) Pd)))⟩) (.a fun ds R X h=>?_)
 ·obtain⟨ns,p,rfl,h1,h2,hz,hR⟩:=h;refine⟨rfl,?_⟩;have b1:p.toNat<ns.length:=by omega
  have b2:(p-1).toNat<ns.length:=by omega
  have l1:(cutD (ns.map D.int) none (some (p-1))).length<=1000:=by have:=(T9 (ns.map D.int) none (some (p-1))).length_le;rw[Ya]at this;omega
  have l2:(cutD (ns.map D.int) (some (p+1)) none).length<=1000:=by have:=(T9 (ns.map D.int) (some (p+1)) none).length_le;rw[Ya]at this;omega
  refine⟨KP _,_,UX (by omega) (by omega),_,UX (by omega) (by omega),by simp,rfl,rfl,Yx (WT l1 (Yi 2)) (by decide),KP _,rfl,rfl,Yx (WT (by rw[Yn];exact WT l1 (Yi 2)) l2) (by decide),?_⟩;have e:=Lx h1 h2 (b1:=b1) (b2:=b2);rw[←e]at hR;exact hR
def OW(G:Glob K mg)(DD:Def K mg "first_wrong_place" Sh ["numbers","ranks"])
  : Ay P w K mg base:=by
 refine DD.oz (k:=0) Dw (fun _ _ _ _ _ _ E hr=>⟨_,(Jl (JS Y8 rfl (Aa rfl G.range (bz Ji (ln K G.len (pv 0)))) (gz 2 Dw.nd) (Jk (J5 (JE UF (jx K (pv 1) (Jo U3 (jx K (pv 0) (Jo U3 (pv 2) Ji)) Ji)) (jx K (pv 1) (Jo U3 (jx K (pv 0) (pv 2)) Ji)) (JJ _)) (Jk (Jt (pv 2)))
   J7))) (Jk (Jt Ji))), (Jm (JQ [2] (FQ (tz Jh (JH (sz (Jg 0))))) (Jj 2) (J6 (Jz (UK (Ju (Jg 1) (U5 (Ju (Jg 0) (U5 (Jg 2) Jh)) Jh)) (Ju (Jg 1) (U5 (Ju (Jg 0) (Jg 2)) Jh)))) (U0 2) J9)) (Jy Jh))⟩) (.a fun ds R X h=>?_)
 ·obtain⟨ns,rs,rfl,hin,hz,hR⟩:=h;refine⟨rfl,?_⟩;have hl:(ns.map D.int).length=ns.length:=Ya ..
  have ix:∀(i:Nat) (k:Int),i<ns.length->k=(i:Int)->atI (ns.map D.int) k=some (.int (ns.getD i 0)):=fun i k hi e=>by
   rw[e];exact Xi (f:=D.int) (Td (by rw[Yd,ZZ hi];rfl))
  have rx:∀i:Nat,i<ns.length->atI (rs.map D.int) (ns.getD i 0-1)=some (.int (rs.getD (ns.getD i 0-1).toNat 0)):=fun i hi=>by
   have hm:ns.getD i 0∈ns:=by
    rw[Yd,ZZ hi];exact Yr hi
   have:=hin _ hm
   generalize ns.getD i 0=z at this;rw[UX (f:=D.int) (xs:=rs) (by omega) (by omega),Yd,ZZ (show(z-1).toNat<rs.length by omega)];rfl
  have kx:∀i:Nat,i<ns.length->(ns.map fun m=>rs.getD (m-1).toNat 0).getD i 0=rs.getD (ns.getD i 0-1).toNat 0:=fun i hi=>XJ hi;have lk:(ns.map fun m=>rs.getD (m-1).toNat 0).length=ns.length:=Ya ..;refine⟨⟨by omega,by omega⟩,X9 (fun i γ'=>(∀q,1<=q->q<1+i->(ns.map fun m=>rs.getD (m-1).toNat 0).getD (q-1) 0<=(ns.map fun m=>rs.getD (m-1).toNat 0).getD q 0)/\γ'=[some (.bor (.lst (ns.map D.int))),some (.bor (.lst (rs.map D.int))),none]) ⟨fun q h1 h2=>by omega,rfl⟩ ?_ ?_⟩
  ·rintro i γ' hi ⟨h1,rfl⟩
   have hi':i+1<ns.length:=by
    have:i<((((ns.map D.int).length:Nat):Int)-1).toNat:=hi
    omega
   refine⟨_,ix i _ (by omega) (by omega),_,rx i (by omega),_,ix (i+1) _ hi' (by omega),_,rx (i+1) hi',?_⟩;refine ite2 (fun g=>?_) (fun g=>?_)
   ·have g':rs.getD (ns.getD (i+1) 0-1).toNat 0<rs.getD (ns.getD i 0-1).toNat 0:=Ys g
    have:=hR (i+1) ⟨fun q q1 q2=>h1 q q1 (by rw[Ye (by omega)]at q2;omega),.inr ⟨by omega,by rw[lk];exact hi',by rw[kx _ hi',Qy,kx _ (by omega)];exact g'⟩⟩
    rw[show((i+1:Nat):Int)=1+(i:Int) by omega]at this;exact this
   ·have g':¬rs.getD (ns.getD (i+1) 0-1).toNat 0<rs.getD (ns.getD i 0-1).toNat 0:=fun z=>g (Yh z);refine⟨fun q q1 q2=>?_,rfl⟩;by_cases c:q<1+i
    ·exact h1 q q1 c
    ·have:q=i+1:=by omega
     subst this;rw[kx _ hi',Qy,kx _ (by omega)];omega
  ·rintro γ' ⟨h1,rfl⟩;refine hR 0 ⟨fun q q1 q2=>h1 q q1 ?_,.inl rfl⟩;rw[Yg rfl,lk]at q2;omega
def GQ(G:Glob K mg)(DD:Def K mg "longer_paths" Nj ["paths","left","wishes"])
  : Dj P w K mg base:=by
 refine DD.oz (k:=0) Pm (fun _ _ _ _ _ _ E hr=>⟨_,(Jl (Pu.pz 3 Pm.nd (JF J4)) (Jl (Pu.pz 4 Pm.nd Gc) (Jl (JS Y8 rfl (JI (K:=K) (pv 0)) (gz 5 Pm.nd) (Jk (JS Y8 rfl (JI (K:=K) (pv 1)) (gz 6 Pm.nd) (Jk (J5 (PW.pt (XN (Lq (GR (JP hr) (pv 6) (pv 4))) (Kz (JE (X3 (K:=K) (show _<cLine from JP hr)) (Ui (bz (jx K (pv 5) (Kh XT Ji)) (pv 6))) (pv 2) (by with_unfolding_all rfl))))) (Jl (Bi (JP hr) (pv 4) (pv 6) Up rfl) (Jk (JL (Uw Y5 YH YI UI (pv 3) (az (Jo XO (pv 5) (JF (az (pv 6)))))))))
   J7))))) (Jk (Jt (pv 3)))))), (Jm (Jr (JG J2) (Jj 3)) (Jm (Jr G9 (Jj 4)) (Jm (J0 1 (J0 0 (JQ [5,6] (Uy (Jg 0)) (Jj 5) (J0 1 (JQ [6] (Uy (Jg 1)) (Jj 6) (J6 (XU (st_b (EL (Jg 6) (Jg 4))) (Jz (UC (Uk (tz (Ju (Jg 5) (K5 Jh)) (Jg 6))) (Jg 2)))) (Jm (NO 4 (Jg 6) Uo) (J0 6 (XG 3 (Ki (Jg 5) (JG (sz (Jg 6))))))) J9)))))) (U0 3))))⟩) (.a fun ds R X h=>?_)
 ·obtain⟨l,ps,ls,ws,rfl,hpl,hll,hR⟩:=h;refine⟨rfl,?_⟩
  refine⟨by simp,rfl,Uv (xs:=ps) (emb:=em l) (fun i γ'=>∃lg kvs,γ'=[some (.bor (.lst (ps.map (em l)))),some (.bor (.lst (ls.map D.int))),some (.bor (.lst (ws.map prD))),some (.own (lg.map (em l))),some (.own (.dK kvs)),none,none]/\LWs ws l ps ls lg kvs)
   ⟨[],[],rfl,(fun q hq=>by cases hq),WD,(fun h=>by simp[valV]),Yi _⟩ ?_ ?_⟩
  ·rintro i hi γ' ⟨lg,kvs,rfl,G⟩;have hp:=Yr hi;have hpi:=hpl ps[i] hp;generalize ps[i]=p at hp hpi ⊢;refine⟨rfl,Uv (xs:=ls) (emb:=D.int) (fun j γ'=>∃lg kvs,γ'=[some (.bor (.lst (ps.map (em l)))),some (.bor (.lst (ls.map D.int))),some (.bor (.lst (ws.map prD))),some (.own (lg.map (em l))),some (.own (.dK kvs)),some (.bor (em l p)),none]/\LWs ws l ps ls lg kvs) ⟨lg,kvs,rfl,G⟩ ?_ ?_⟩
   ·rintro j hj γ' ⟨lg,kvs,rfl,G⟩;have hh:=Yr hj;generalize ls[j]=h at hh ⊢;have hlen:=G.len_le;have hkl:=G.len;refine⟨.inl h,rfl,ite2 (fun g=>?_) (fun g=>iteF ⟨lg,kvs,rfl,G⟩)⟩
    have g':(valV kvs (.inl h)).isSome=false:=by
     cases e:(valV kvs (.inl h)).isSome with
     |false=>rfl
     |true=>rw[e]at g;cases g
    refine⟨_,Ba l p,by simp,_,.lp (JB l p,h) ws,ite2 (fun g2=>?_) (fun g2=>⟨lg,kvs,rfl,G⟩)⟩;refine⟨.inl h,.bl true,rfl,rfl,by omega,by simp,KP _,rfl,by simp;omega,by rw[Ya];omega,lg++[p++[h]],_,?_,G.put hp hh g' (Ys g2)⟩;rw[Yt]
    have e:em l (p++[h])=.lst ((l::p).map D.int++[.int h]):=by
     unfold em;rw[←Wr,Yt];rfl
    rw[Qe,e];rfl
   ·rintro γ' ⟨lg,kvs,rfl,G⟩;exact⟨lg,kvs,rfl,G⟩
  ·rintro γ' ⟨lg,kvs,rfl,G⟩;exact hR lg G.g G.len_le
def E5(G:Glob K mg)(DD:Def K mg "sets_of" B3 ["holders"])
  : DV P w K mg base:=by
 refine DD.oz (k:=0) P9 (fun _ _ _ _ _ _ E hr=>⟨_,(Jl (Pu.pz 1 P9.nd (JF (az (Ui J4)))) (Jl (JS Y8 rfl (JI (K:=K) (pv 0)) (gz 2 P9.nd) (Jk (Pu.pz 1 P9.nd (Jo XO (pv 1) (Us (N':=["members","holder"]) (φ:=[none,some 2]) rfl (Own.CompOk.of (by rfl)) (JI (K:=K) (pv 1)) (fun _ _ _ _ _=>⟨(gz 0 (show(["members","holder"]:List Str).Nodup from by decide +kernel)),UO,(Jo (MZ (K:=K)) (pv 0) (Ui (az (pv 1))))⟩)))))) (Jk (Jt (pv 1))))), (Jm (Jr (JG (sz (Uk J2))) (Jj 1)) (Jm (J0 0 (JQ [2] (Uy (Jg 0)) (Jj 2) (J0 2 (Jr (Ki (Jg 1) (Ua (UE (Jg 1)) (Jj 0) Xc (OF (Jg 0) (Uk (sz (Jg 1)))))) (Jj 1))))) (U0 1)))⟩) (.a fun ds R X h=>?_)
 ·obtain⟨hs,rfl,hz,hR⟩:=h;refine⟨rfl,?_⟩;refine⟨by simp,by simp,rfl,Uv (xs:=hs) (emb:=D.int) (fun i γ'=>γ'=[some (.bor (.lst (hs.map D.int))),some (.own ((J3 (hs.take i)).map tD)),none]) rfl ?_ ?_⟩
  ·rintro i hi γ' rfl
   have hlen:(J3 (hs.take i)).length<=1024:=by
    rw[Ex,YD];exact Nat.pow_le_pow_right (j:=10) (by decide) (by omega)
   have hel:∀ms∈J3 (hs.take i),ms.length<=10:=fun ms hm=>by
    have:=(Pb _ ms hm).length_le
    rw[YD]at this;omega
   rw[Y1 hi,Kb];generalize J3 (hs.take i)=S at hlen hel ⊢;generalize hs[i]=h;refine Uh (xs:=S) (emb:=tD) (fun ms=>some (tD (ms++[h]))) (by omega) (fun ms hm=>?_) ?_
   ·refine⟨by simp,_,_,OC ms,rfl,?_,_,rfl,?_⟩
    ·have:=hel ms hm
     rw[Ya];show ms.length+1<=100000;omega
    ·unfold tD;rw[Yt];rfl
   ·rw[mapD];refine⟨rfl,rfl,?_,?_⟩
    ·rw[Ya,Ya];omega
    ·show[_,_,_]=[_,_,_];rw[Yt,YK];rfl
  ·rintro γ' rfl;rw[Wh];exact hR
def HC(G:Glob K mg)(DD:Def K mg "without" Se ["members","holder"])
  : T1 P w K mg base:=by
 refine DD.oz (k:=0) HE (fun _ _ _ _ _ _ E hr=>⟨_,(Jk (Jt (Xb (Ew (K:=K)) (by rfl) G.tuple boot_tuple (az (Us (N':=["member","holder"]) (φ:=[none,some 1]) rfl (Own.CompOk.of (by rfl)) (KE (K:=K) (pv 0)) (fun _ _ _ _ _=>⟨(gz 0 (show(["member","holder"]:List Str).Nodup from by decide +kernel)),(Xe (cn K hr (pv 0) (pv 1))),(pv 0)⟩)))))), (Jy (DP (sz (Ua (SndI.c (Px (Jg 0))) (Jj 0) (Jz (UM (Jg 0) (Jg 1))) (Jg 0)))))⟩) (.a fun ds R X h=>?_)
 ·obtain⟨ms,h,rfl,hz,hR⟩:=h;refine⟨rfl,?_⟩;rw[Pj];refine⟨_,rfl,Uh (s:=.sh .non) (xs:=ms) (emb:=D.int) (fun m=>if decide (m≠h)=true then some (.int m)else none) (by omega) (fun m hm=>?_) ?_⟩
  ·show if (!decide (m=h))=true then _ else _;by_cases e:m=h
   ·rw[Yh e];exact iteF (by simp[e])
   ·rw[Yv e];exact iteT ⟨_,rfl,Yg (Yh e)⟩
  ·rw[US (fun m=>decide (m≠h))];exact⟨rfl,hR⟩
def EW(G:Glob K mg)(DD:Def K mg "may_lie_last" N1 ["members","holder","wishes"])
  : FU P w K mg base:=by
 refine DD.oz (k:=0) Ho (fun _ _ _ _ _ _ E hr=>⟨_,(Jk (Jt (Bp (JY (Ft (K:=K) rfl) (by rfl) G.any boot_any (az (Us (N':=["ahead","behind","holder","members"]) (φ:=[none,none,some 1,some 0]) rfl (Own.CompOk.of (by rfl)) (JI (K:=K) (pv 2)) (fun _ _ _ _ _=>⟨(Xq (K:=K) (n:=2) rfl (Ue (gz 0 (show(["ahead","behind","holder","members"]:List Str).Nodup from by decide +kernel)) (Ue (gz 1 (show(["ahead","behind","holder","members"]:List Str).Nodup from by decide +kernel)) Xs))),UO,(PL (Xm (KS (K:=K) (show _<cLine from hr.units0)) (pv 0) (pv 2) (JJ _)) (P2 (Xm (X3 (K:=K) (show _<cLine from JP hr)) (pv 1) (pv 3) (by with_unfolding_all rfl))))⟩))))))), (Jy (Nw (AD (sz (Ua (UE (Jg 2)) (X4 (Uj (Jj 0) (Uj (Jj 1) Xy))) Xc (Tn (UA (Jg 0) (Jg 2)) (UC (Jg 1) (Jg 3))))))))⟩) (.a fun ds R X h=>?_)
 ·obtain⟨ms,h,ws,rfl,hz,hR⟩:=h;refine⟨rfl,?_⟩;rw[Pj];refine Uh (xs:=ws) (emb:=prD) (fun q=>some (.bl (decide (q.1=h)&&decide (q.2∈ms)))) (by omega) (fun q hq=>?_) ?_
  ·refine⟨rfl,?_⟩;show if true=true then(if decide (q.1=h)=true then _ else _)else(some (D.bl (decide (q.1=h)&&decide (q.2∈ms)))=none);refine iteT (ite2 (fun g=>⟨_,.ti _ _,?_⟩) (fun g=>?_))
   ·refine⟨_,rfl,?_⟩;rw[g,Qt];rfl
   ·refine⟨_,rfl,?_⟩;rw[Qi.mpr g,Qz]
  ·rw[mapD];refine⟨ws.map fun q=>decide (q.1=h)&&decide (q.2∈ms),by rw[YK];rfl,?_⟩;rw[List.any_map];exact hR
def Iz(G:Glob K mg)(DD:Def K mg "may_lie_first" Ss ["members","holder","wishes"])
  : FM P w K mg base:=by
 refine DD.oz (k:=0) L6 (fun _ _ _ _ _ _ E hr=>⟨_,(Jk (Jt (Bp (JY (Ft (K:=K) rfl) (by rfl) G.any boot_any (az (Us (N':=["ahead","behind","holder","members"]) (φ:=[none,none,some 1,some 0]) rfl (Own.CompOk.of (by rfl)) (JI (K:=K) (pv 2)) (fun _ _ _ _ _=>⟨(Xq (K:=K) (n:=2) rfl (Ue (gz 0 (show(["ahead","behind","holder","members"]:List Str).Nodup from by decide +kernel)) (Ue (gz 1 (show(["ahead","behind","holder","members"]:List Str).Nodup from by decide +kernel)) Xs))),UO,(PL (Xm (KS (K:=K) (show _<cLine from hr.units0)) (pv 1) (pv 2) (JJ _)) (P2 (Xm (X3 (K:=K) (show _<cLine from JP hr)) (pv 0) (pv 3) (by with_unfolding_all rfl))))⟩))))))), (Jy (Nw (AD (sz (Ua (UE (Jg 2)) (X4 (Uj (Jj 0) (Uj (Jj 1) Xy))) Xc (Tn (UA (Jg 1) (Jg 2)) (UC (Jg 0) (Jg 3))))))))⟩) (.a fun ds R X h=>?_)
 ·obtain⟨ms,h,ws,rfl,hz,hR⟩:=h;refine⟨rfl,?_⟩;rw[Pj];refine Uh (xs:=ws) (emb:=prD) (fun q=>some (.bl (decide (q.2=h)&&decide (q.1∈ms)))) (by omega) (fun q hq=>?_) ?_
  ·refine⟨rfl,?_⟩;show if true=true then(if decide (q.2=h)=true then _ else _)else(some (D.bl (decide (q.2=h)&&decide (q.1∈ms)))=none);refine iteT (ite2 (fun g=>⟨_,.ti _ _,?_⟩) (fun g=>?_))
   ·refine⟨_,rfl,?_⟩;rw[g,Qt];rfl
   ·refine⟨_,rfl,?_⟩;rw[Qi.mpr g,Qz]
  ·rw[mapD];refine⟨ws.map fun q=>decide (q.2=h)&&decide (q.1∈ms),by rw[YK];rfl,?_⟩;rw[List.any_map];exact hR
def Lm(G:Glob K mg)(DD:Pu.DefM K (Meth K (ExcR.Jq mg "Village") "strips") "strips" "Village.strips" Sa ["self"])
  : Kp P w K mg base:=by
 refine DD.oz (k:=0) MB (fun _ _ _ _ _ _ E hr=>⟨_,(Jk (Jt (Xb (KL (K:=K)) (by rfl) G.list boot_list (az (jx K (Ke (pv 0) rfl) (Kh XT Ji)))))), (Jy (Pe (sz (Ju (Tr 1 G.cl_Village G.n_Village_fields F6 (Jg 0)) (K5 Jh)))))⟩) (.a fun ds R X h=>?_)
 ·obtain⟨bk,fs,ws,f,rfl,hR⟩:=h;refine⟨rfl,?_⟩;exact⟨rfl,rfl,_,rfl,_,TL plD fs f,PZ _,hR⟩
def GP(G:Glob K mg)(DD:Pu.DefM K (Meth K (ExcR.Jq mg "Village") "wishes") "wishes" "Village.wishes" Su ["self"])
  : TK P w K mg base:=by
 refine DD.oz (k:=0) Md (fun _ _ _ _ _ _ E hr=>⟨_,(Jk (Jt (Xb (KL (K:=K)) (by rfl) G.list boot_list (az (jx K (Ke (pv 0) rfl) (Kh XT Ji)))))), (Jy (Pe (sz (Ju (Tr 2 G.cl_Village G.n_Village_wished Fh (Jg 0)) (K5 Jh)))))⟩) (.a fun ds R X h=>?_)
 ·obtain⟨bk,fs,ws,f,rfl,hR⟩:=h;refine⟨rfl,?_⟩;exact⟨rfl,rfl,_,rfl,_,TL plD ws f,PZ _,hR⟩
def OJ(G:Glob K mg)(DD:Pu.DefM K (Meth K (ExcR.Jq mg "Village") "check_room") "check_room" "Village.check_room" Br ["self"])
  : BF P w K mg base:=by
 refine DD.ox (k:=0) O0 (fun _ _ _ _ _ _ E hr=>⟨_,(Jk (J5 (JE DF (ln K G.len (Ke (pv 0) rfl)) (ExcR.UY G.MOST_DEEDS) (JJ _)) (Jk (ExcR.Xz G.g_BookFull.c G.m_BookFull ExcR.XB rfl (az (ExcR.pe_f (ExcR.Xu (ExcR.Po (ExcR.UY G.MOST_DEEDS) (ExcR.Xu ExcR.Pv)))))))
   J7)), (J6 (Jz (Ct (JH (sz (Tr 0 G.cl_Village G.n_Village_book Nc (Jg 0)))) Jh)) (X0 (sz (se_f (X5 (Pk Jh (X5 KB)))))) J9)⟩) (.a fun ds R X h=>?_)
 ·obtain⟨bk,fs,ws,rfl,hR⟩:=h;refine⟨rfl,?_⟩;have hl:(bk.map dD).length=bk.length:=Ya ..;unfold SO at hR;refine⟨rfl,rfl,_,rfl,ite2 (fun g=>?_) (fun g=>?_)⟩
  ·have g':(100:Int)<=((bk.map dD).length:Int):=Ys g;rw[Yg (by omega)]at hR;exact⟨by decide,by decide,by decide,by decide,by decide,by simp,hR⟩
  ·have g':¬(100:Int)<=((bk.map dD).length:Int):=fun z=>g (Yh z);rw[Ye (by omega)]at hR;exact hR
def Lj(G:Glob K mg)(DD:Pu.DefM K (Meth K (ExcR.Jq mg "Village") "enter") "enter" "Village.enter" SA ["self","deed","field","wishes"])
  : FX P w K mg base:=by
 refine DD.oz (k:=0) Ht (fun _ _ _ _ _ _ E hr=>⟨_,(Jl (JL (Uw Y5 YH YI UI (Ke (pv 0) rfl) (az (pv 1)))) (Jl (JL (Uw Y5 YH YI UI (Ke (pv 0) rfl) (az (pv 2)))) (Jl (JL (Uw Y5 YH YI UI (Ke (pv 0) rfl) (az (pv 3)))) (Jk (Jt (ln K G.len (Ke (pv 0) rfl))))))), (Jm (J0 1 (PM (SW 0 0 G.cl_Village G.n_Village_book Nc (Jg 1)))) (Jm (J0 2 (PM (SW 0 1 G.cl_Village G.n_Village_fields F6 (Jg 2)))) (Jm (J0 3 (PM (SW 0 2 G.cl_Village G.n_Village_wished Fh (Jg 3)))) (Hq (JH (sz (Tr 0 G.cl_Village G.n_Village_book Nc (Jg 0))))))))⟩) (.c fun o ss R X h=>?_)
 ·obtain⟨x,b1,b2,b3,bk,fs,ws,q,f,w,rfl,rfl,h1,h2,h3,hR⟩:=h;refine⟨rfl,?_⟩;have k1:(bk.map dD).length<10000000:=by rw[Ya];omega
  have k2:(fs.map plD).length<10000000:=by rw[Ya];omega
  have k3:(ws.map plD).length<10000000:=by rw[Ya];omega
  refine⟨rfl,rfl,_,rfl,k1,rfl,rfl,_,rfl,k2,rfl,rfl,_,rfl,k3,rfl,rfl,_,rfl,_,rfl,⟨rfl,by simp⟩,?_⟩;have e:(((bk.map dD++[dD q]).length:Nat):Int)=(bk.length:Int)+1:=by rw[Yn,Ya];simp
  show R (.ins x _ vF [(b1,bk.map dD++[dD q]),(b2,fs.map plD++[plD f]),(b3,ws.map plD++[plD w])]) (.int (((bk.map dD++[dD q]).length:Nat):Int));rw[e];have e1:bk.map dD++[dD q]=(bk++[q]).map dD:=by rw[Yt];rfl
  have e2:fs.map plD++[plD f]=(fs++[f]).map plD:=by rw[Yt];rfl
  have e3:ws.map plD++[plD w]=(ws++[w]).map plD:=by rw[Yt];rfl
  rw[e1,e2,e3];exact hR
def Zau(G:Glob K mg)(DD:Def K mg "_law_at" Sy ["_law_script","_law_k"])
  : Tw P w K mg base:=by
 refine DD.oz (k:=0) HR (fun _ _ _ _ _ _ E hr=>⟨_,(Jl (J5 (JE TM (pv 1) (ln K G.len (pv 0)) (JJ _)) (Jk (Jt (jx K (pv 0) (pv 1))))
   J7) (Jk (Jt Ji))), (Jm (J6 (Jz (To (Jg 1) (JH (sz (Jg 0))))) (Jy (Ju (Jg 0) (Jg 1))) J9) (Jy Jh))⟩) (.a fun ds R X h=>?_)
 ·obtain⟨ns,k,rfl,hk,hR⟩:=h;refine⟨rfl,?_⟩;refine ite2 (fun g=>?_) (fun _=>hR 0);have g':k<(ns.length:Int):=Ys g;exact⟨_,P7 hk (ZZ (show k.toNat<ns.length by omega)),hR _⟩
def LA(G:Glob K mg)(DD:Def K mg "_law_whole" S7 ["_law_found"])
  : TR P w K mg base:=by
 refine DD.oz (k:=0) RN (fun _ _ _ _ _ _ E hr=>⟨_,(Jk (Jt (PL (JY (XX (K:=K)) (by rfl) G.isinstance WM (bz (pv 0) (XD (v:=.ty "int") rfl G.int boot_int rfl))) (P2 (Bp (JY (XX (K:=K)) (by rfl) G.isinstance WM (bz (pv 0) (XD (v:=.ty "bool") rfl G.bool boot_bool rfl)))))))), (Jy (Tn (Kc (tz (Jg 0) Ka)) (Nw (Kc (tz (Jg 0) Ka)))))⟩) (.a fun ds R X h=>?_)
 ·obtain⟨i,rfl,hR⟩:=h;refine⟨rfl,?_⟩;exact⟨_,.same _,_,.ib,hR⟩
def L3(G:Glob K mg)(DD:Def K mg "_law_mix" NL ["_law_cell","_law_place"])
  : NR P w K mg base:=by
 refine DD.oz (k:=0) A3 (fun _ _ _ _ _ _ E hr=>⟨_,(Jl (Pu.pz 2 A3.nd (Jo JM (Jo Kd (Jo Ud (Jo Ud (Jo JM (pv 0) Ji) (Jo Kd Ji (pv 1))) Ji) Ji) Ji)) (Jk (Jt (Jo JM (Jo Kd (Jo Ud (Jo Ud (pv 2) (Jo Kd Ji (pv 1))) Ji) Ji) Ji)))), (Jm (Jr (JU (XC (Ub (Ub (JU (Jg 0) Jh) (XC Jh (Jg 1))) Jh) Jh) Jh) (Jj 2)) (Jy (JU (XC (Ub (Ub (Jg 2) (XC Jh (Jg 1))) Jh) Jh) Jh)))⟩) (.a fun ds R X h=>?_)
 ·obtain⟨c,p,rfl,hR⟩:=h;refine⟨rfl,?_⟩;exact⟨(by show(0:Int)<2147483647;decide),.inl ⟨by decide,by decide⟩,.inr ⟨by decide,by decide⟩,(by show(0:Int)<2147483647;decide),.inl ⟨by decide,by decide⟩,.inr ⟨by decide,by decide⟩,(by show(0:Int)<2147483647;decide),hR _⟩
def EE(G:Glob K mg)(DD:Def K mg "_law_menu" Sb ["_law_cell"])
  : AJ P w K mg base:=by
 refine DD.oz (k:=0) B9 (fun _ _ _ _ _ _ E hr=>⟨_,(Jl (Pu.pz 1 B9.nd (jx K (JF (J1 Ji (J1 Ji (J1 Ji (J1 Ji (J1 Ji J4)))))) (Jo JM (Jo U1 (pv 0) Ji) Ji))) (Jl (Pu.pz 2 B9.nd (jx K (JF (J1 Ji (J1 Ji (J1 Ji (J1 Ji (J1 Ji J4)))))) (Jo JM (Jo U1 (pv 0) Ji) Ji))) (Jk (Jt (JF (J1 (Jo Ud Ji (Jo JM (pv 0) Ji)) (J1 (jx K (JF (J1 Ji (J1 Ji (J1 Ji (J1 Ji J4))))) (Jo JM (Jo U1 (pv 0) Ji) Ji)) (J1 (Jo JM (Jo U1 (pv 0) Ji) Ji) (J1 (pv 1) (J1 (pv 2) J4)))))))))), (Jm (Jr (Ju (JG (JA Jh (JA Jh (JA Jh (JA Jh (JA Jh J2)))))) (JU (UG (Jg 0) Jh) Jh)) (Jj 1)) (Jm (Jr (Ju (JG (JA Jh (JA Jh (JA Jh (JA Jh (JA Jh J2)))))) (JU (UG (Jg 0) Jh) Jh)) (Jj 2)) (J0 2 (J0 1 (Jy (JG (JA (Ub Jh (JU (Jg 0) Jh)) (JA (Ju (JG (JA Jh (JA Jh (JA Jh (JA Jh J2))))) (JU (UG (Jg 0) Jh) Jh)) (JA (JU (UG (Jg 0) Jh) Jh) (JA (Jg 1) (JA (Jg 2) J2)))))))))))⟩) (.a fun ds R X h=>?_)
 ·obtain⟨c,rfl,hR⟩:=h;refine⟨rfl,?_⟩;have h1:0<=c / 10 % 4/\c / 10 % 4<4:=by omega
  have h2:0<=c / 400 % 5/\c / 400 % 5<5:=by omega
  have hb:∀v∈([1,3,7,9]:List Int),1<=v/\v<=9/\(v=1\/v=3\/v=7\/v=9):=by decide
  have hde:∀i:Int,0<=i->i<5->∃d e:Int,atI [D.int 1000,.int 3,.int 1,.int 2,.int 3] i=some (.int d)/\atI [D.int 1,.int 1,.int 1,.int 1,.int 998] i=some (.int e)/\(1<=d/\d<=1000)/\1<=e/\e+d<=1001:=fun i a b=>by
   have:i=0\/i=1\/i=2\/i=3\/i=4:=by omega
   rcases this with rfl|rfl|rfl|rfl|rfl
   ·exact⟨1000,1,rfl,rfl,by decide,by decide,by decide⟩
   ·exact⟨3,1,rfl,rfl,by decide,by decide,by decide⟩
   ·exact⟨1,1,rfl,rfl,by decide,by decide,by decide⟩
   ·exact⟨2,1,rfl,rfl,by decide,by decide,by decide⟩
   ·exact⟨3,998,rfl,rfl,by decide,by decide,by decide⟩
  obtain⟨d,e,e1,e2,hd,he⟩:=hde _ h2.1 h2.2;have hbb:=hb _ (Yr (l:=([1,3,7,9]:List Int)) (n:=(c / 10 % 4).toNat) (by show(c / 10 % 4).toNat<4;omega));refine⟨by simp,⟨by decide,by decide⟩,(by show(0:Int)<5;decide),_,e1,by simp,⟨by decide,by decide⟩,(by show(0:Int)<5;decide),_,e2,(by show(0:Int)<10;decide),by simp,⟨by decide,by decide⟩,(by show(0:Int)<4;decide),_,UX (f:=D.int) (xs:=[1,3,7,9]) h1.1 h1.2,⟨by decide,by decide⟩,(by show(0:Int)<10;decide),by simp,?_⟩;exact hR [_,_,_,_,_] ⟨_,_,_,_,_,rfl,by omega,hbb,by omega,hd,he⟩
def EU(G:Glob K mg)(DD:Def K mg "_law_holder" SY ["_law_menu_here","_law_k"])
  : Bs P w K mg base:=by
 refine DD.oz (k:=0) OO (fun _ _ _ _ _ _ E hr=>⟨_,(Jk (Jt (Jo Ud Ji (Jo JM (Jo Ud (Jo Kd (pv 1) (jx K (pv 0) Ji)) (jx K (pv 0) Ji)) Ji)))), (Jy (Ub Jh (JU (Ub (XC (Jg 1) (Ju (Jg 0) Jh)) (Ju (Jg 0) Jh)) Jh)))⟩) (.a fun ds R X h=>?_)
 ·obtain⟨m,k,rfl,hM,hR⟩:=h;refine⟨rfl,?_⟩;obtain⟨a,b,c,d,e,rfl,ha,hb,hc,hd,he⟩:=hM;exact⟨_,rfl,.inr ⟨by omega,by omega⟩,_,rfl,(by show(0:Int)<10;decide),hR _ (by omega) (by omega) rfl⟩
def Il(G:Glob K mg)(DD:Def K mg "_law_present" NB ["_law_strips_here"])
  : Cy P w K mg base:=by
 refine DD.oz (k:=0) Cv (fun _ _ _ _ _ _ E hr=>⟨_,(Jl (Pu.pz 1 Cv.nd (Us (N':=["_law_strip"]) (φ:=[none]) rfl (Own.CompOk.of (by rfl)) (JI (K:=K) (pv 0)) (fun _ _ _ _ _=>⟨(gz 0 (show(["_law_strip"]:List Str).Nodup from by decide +kernel)),UO,(jx K (pv 0) Ji)⟩))) (Jk (Jt (Us (N':=["_law_holder_here","_law_owners"]) (φ:=[none,some 1]) rfl (Own.CompOk.of (by rfl)) (Aa rfl G.range (bz Ji Ji)) (fun _ _ _ _ _=>⟨(gz 0 (show(["_law_holder_here","_law_owners"]:List Str).Nodup from by decide +kernel)),(Xe (JE (X3 (K:=K) (show _<cLine from JP hr)) (pv 0) (pv 1) (by with_unfolding_all rfl))),(pv 0)⟩))))), (Jm (Jr (Ua (UE (Jg 0)) (Jj 0) Xc (Ju (Jg 0) Jh)) (Jj 1)) (Jy (Ua (SndI.c (FQ (tz Jh Jh))) (Jj 0) (Jz (UC (Jg 0) (Jg 1))) (Jg 0))))⟩) (.a fun ds R X h=>?_)
 ·obtain⟨ps,rfl,hz,hR⟩:=h;refine⟨rfl,?_⟩;refine Uh (xs:=ps) (emb:=prD) (fun q=>some (.int q.1)) (by omega) (fun q hq=>⟨_,rfl,_,rfl,rfl⟩) ?_;rw[mapD (fun q:Int×Int=>D.int q.1),show ps.map (fun q:Int×Int=>D.int q.1)=(ps.map (·.1)).map D.int by rw[YK];rfl];refine⟨⟨by decide,by decide,by decide,by decide⟩,BD (n:=10) (fun i=>if decide ((1:Int)+(i:Int)∈ps.map (·.1))=true then some (.int (1+(i:Int)))else none) (by decide) (fun i hi=>?_) ?_⟩
  ·exact⟨_,.li _ _,ite2 (fun g=>⟨_,rfl,Yg g⟩) (fun g=>Ye g)⟩
  rw[US (fun i:Nat=>decide ((1:Int)+(i:Int)∈ps.map (·.1)))]
  have e:((List.range 10).filter fun i:Nat=>decide ((1:Int)+(i:Int)∈ps.map (·.1))).map (fun i:Nat=>D.int (1+(i:Int)))=(Jp ps).map D.int:=by
   unfold Jp;rw[Mr,List.filter_map,YK];rfl
  rw[e];exact hR
def Hl(G:Glob K mg)(DD:Def K mg "_law_together" SU ["_law_strips_here"])
  : BM P w K mg base:=by
 refine DD.oz (k:=0) Bt (fun _ _ _ _ _ _ E hr=>⟨_,(Jl (JS Y8 rfl (Xf rfl G.range (az (ln K G.len (pv 0)))) (gz 1 Bt.nd) (Jk (JS Y8 rfl (Xf rfl G.range (az (pv 1))) (gz 2 Bt.nd) (Jk (J5 (PW.pt (XN (cq K hr (jx K (jx K (pv 0) (pv 2)) Ji) (jx K (jx K (pv 0) (pv 1)) Ji)) (Kz (cn K hr (jx K (jx K (pv 0) (Jo U3 (pv 1) Ji)) Ji) (jx K (jx K (pv 0) (pv 1)) Ji))))) (Jk (Jt Up))
   J7))))) (Jk (Jt Up))), (Jm (JQ [1,2] (Xj (sz (JH (sz (Jg 0))))) (Jj 1) (JQ [2] (Xj (sz (Jg 1))) (Jj 2) (J6 (XU (Jz (UA (Ju (Ju (Jg 0) (Jg 2)) Jh) (Ju (Ju (Jg 0) (Jg 1)) Jh))) (Jz (UM (Ju (Ju (Jg 0) (U5 (Jg 1) Jh)) Jh) (Ju (Ju (Jg 0) (Jg 1)) Jh)))) (Jy Uo) J9))) (Jy Uo))⟩) (.a fun ds R X h=>?_)
 ·obtain⟨ps,rfl,hz,hT,hN⟩:=h;refine⟨rfl,?_⟩;have hl:(ps.map prD).length=ps.length:=Ya ..;have ap:∀(j:Nat) (z:Int),j<ps.length->z=(j:Int)->∃h:j<ps.length,atI (ps.map prD) z=some (prD ps[j]):=fun j z hj e=>⟨hj,by rw[e];exact Tj hj⟩;refine⟨⟨by omega,by omega⟩,X9 (fun k γ'=>(∀k' j,k'<k->j<k'->hAt ps j=hAt ps k'->hAt ps (k'-1)=hAt ps k')/\γ'=[some (.bor (plD ps)),none,none]) ⟨fun k' j h=>absurd h (Nat.not_lt_zero _),rfl⟩ ?_ ?_⟩
  ·rintro k γ' hk ⟨hok,rfl⟩;have hk1:k<(((ps.map prD).length:Nat):Int).toNat:=hk;have hk':k<ps.length:=by omega
   refine⟨⟨by omega,by omega⟩,X9 (fun j γ'=>(∀j',j'<j->hAt ps j'=hAt ps k->hAt ps (k-1)=hAt ps k)/\γ'=[some (.bor (plD ps)),some (.sh (.int (0+(k:Int)))),none]) ⟨fun j' h=>absurd h (Nat.not_lt_zero _),rfl⟩ ?_ ?_⟩
   ·rintro j γ' hj ⟨hj0,rfl⟩;have hj1:j<(0+(k:Int)).toNat:=hj;obtain⟨q1,a1⟩:=ap j (0+(j:Int)) (by omega) (by omega);obtain⟨q2,a2⟩:=ap k (0+(k:Int)) hk' (by omega);obtain⟨q3,a3⟩:=ap (k-1) (0+(k:Int)-1) (by omega) (by omega);refine⟨_,a1,_,rfl,_,a2,_,rfl,ite2 (fun g=>⟨_,a3,_,rfl,_,a2,_,rfl,ite2 (fun g2=>?_) (fun g2=>?_)⟩) (fun g=>?_)⟩
    ·refine hN fun z=>?_;have g':ps[j].1=ps[k].1:=Ys g
     have:=z k j (by omega) hk' (by rw[JZ q1,JZ q2];exact g')
     rw[JZ q3,JZ q2]at this;rw[Yg rfl]at g2
     have:decide (ps[k-1].1=ps[k].1)=true:=Yh this
     simp_all
    ·refine⟨fun j' hj' e=>?_,rfl⟩;rw[JZ q3,JZ q2];exact YL fun z=>g2 (by rw[Yg rfl,Yv z];rfl)
    ·refine⟨fun j' hj' e=>?_,rfl⟩;rcases Nat.lt_succ_iff_lt_or_eq.mp hj' with c|c
     ·exact hj0 j' c e
     ·subst c;rw[JZ q1,JZ q2]at e;exact absurd (Yh e) g
   ·rintro γ' ⟨hj0,rfl⟩;refine⟨fun k' j h1 h2 e=>?_,rfl⟩;rcases Nat.lt_succ_iff_lt_or_eq.mp h1 with c|c
    ·exact hok k' j c h2 e
    ·subst c;exact hj0 j (by omega) e
  ·rintro γ' ⟨hok,rfl⟩;exact hT fun k j h1 h2 e=>hok k j (by omega) h1 e
def Hv(G:Glob K mg)(DD:Def K mg "_law_kept" NX ["_law_order","_law_wishes_here"])
  : Sr P w K mg base:=by
 refine DD.oz (k:=0) NH (fun _ _ _ _ _ _ E hr=>⟨_,(Jl (JS Y8 rfl (JI (K:=K) (pv 1)) (Xq (K:=K) (n:=2) rfl (Ue (gz 2 NH.nd) (Ue (gz 3 NH.nd) Xs))) (Jk (J5 (PW.pt (XN (JE (X3 (K:=K) (show _<cLine from JP hr)) (pv 2) (pv 0) (by with_unfolding_all rfl)) (XN (JE (X3 (K:=K) (show _<cLine from JP hr)) (pv 3) (pv 0) (by with_unfolding_all rfl)) (Kz (JE UF (PR (K:=K) Y5 W9 WY (Tg (K:=K)) (pv 0) (az (pv 2))) (PR (K:=K) Y5 W9 WY (Tg (K:=K)) (pv 0) (az (pv 3))) (JJ _)))))) (Jk (Jt Up))
   J7))) (Jk (Jt Up))), (Jm (J0 1 (JQ [2,3] (Uy (Jg 1)) (X4 (Uj (Jj 2) (Uj (Jj 3) Xy))) (J6 (XU (Jz (UC (Jg 2) (Jg 0))) (XU (Jz (UC (Jg 3) (Jg 0))) (Jz (UK (PK (Jg 0) (sz (Jg 2))) (PK (Jg 0) (sz (Jg 3))))))) (Jy Uo) J9))) (Jy Uo))⟩) (.a fun ds R X h=>?_)
 ·obtain⟨os,ws,rfl,hR1,hR2⟩:=h;refine⟨rfl,?_⟩;refine⟨rfl,Uv (xs:=ws) (emb:=prD) (fun i γ'=>γ'=[some (.bor (.lst (os.map D.int))),some (.bor (.lst (ws.map prD))),none,none]/\∀q∈ws.take i,badM os q=false) ⟨rfl,by simp⟩ ?_ ?_⟩
  ·rintro i hi γ' ⟨rfl,hb⟩;have hq:=Yr hi
   have next:badM os ws[i]=false->∀q∈ws.take (i+1),badM os q=false:=fun h q hq=>by
    rw[Y1 hi,Yz,Yf]at hq;rcases hq with hq|hq
    ·exact hb q hq
    ·rw[hq];exact h
   generalize ws[i]=q at hq next ⊢;refine⟨rfl,_,.li _ _,ite2 (fun g1=>⟨_,.li _ _,ite2 (fun g2=>?_) (fun g2=>?_)⟩) (fun g1=>?_)⟩
   ·have g1':decide (q.1∈os)=true:=g1;have g2':decide (q.2∈os)=true:=g2;refine⟨⟨_,rfl⟩,os,rfl,Ys g1',⟨_,rfl⟩,os,rfl,Ys g2',?_⟩;refine ite2 (fun g3=>?_) (fun g3=>?_)
    ·have g3':=Ys g3;refine hR2 ⟨q,hq,?_⟩;unfold badM;rw[g1',g2',Yh (by omega)];rfl
    ·have g3':¬((os.idxOf q.2:Nat):Int)<((os.idxOf q.1:Nat):Int):=fun z=>g3 (Yh z);refine⟨rfl,next ?_⟩;unfold badM;rw[g1',g2',Yv (by omega)];rfl
   ·refine iteF ⟨rfl,next ?_⟩;have g2':decide (q.2∈os)=false:=Qi.mpr g2;unfold badM;rw[g2',Qz,Vc]
   ·refine iteF ⟨rfl,next ?_⟩;have g1':decide (q.1∈os)=false:=Qi.mpr g1;unfold badM;rw[g1',Qz]
  ·rintro γ' ⟨rfl,hb⟩;rw[Wh]at hb;exact hR1 hb
def Oy(G:Glob K mg)(DD:Def K mg "_law_runs" Nz ["_law_strips_here"])
  : FZ P w K mg base:=by
 refine DD.oz (k:=0) Sd (fun _ _ _ _ _ _ E hr=>⟨_,(Jl (Pu.pz 1 Sd.nd (JF J4)) (Jl (JS Y8 rfl (JI (K:=K) (pv 0)) (gz 2 Sd.nd) (Jk (J5 (JE (P5 (K:=K) (show _<cLine from JP hr)) (jx K (pv 2) Ji) (pv 1) (by with_unfolding_all rfl)) (Jk (JL (Uw Y5 YH YI UI (pv 1) (az (jx K (pv 2) Ji)))))
   J7))) (Jk (Jt (pv 1))))), (Jm (Jr (JG J2) (Jj 1)) (Jm (J0 0 (JQ [2] (Uy (Jg 0)) (Jj 2) (J6 (Jz (UC (Ju (Jg 2) Jh) (Jg 1))) (XG 1 (Ju (Jg 2) Jh)) J9))) (U0 1)))⟩) (.a fun ds R X h=>?_)
 ·obtain⟨ps,rfl,hz,hR⟩:=h;refine⟨rfl,?_⟩;refine⟨by simp,rfl,Uv (xs:=ps) (emb:=prD) (fun i γ'=>γ'=[some (.bor (plD ps)),some (.own ((JC ((ps.take i).map (·.1))).map D.int)),none]) rfl ?_ ?_⟩
  ·rintro i hi γ' rfl;have et:(ps.take (i+1)).map (·.1)=(ps.take i).map (·.1)++[ps[i].1]:=by rw[Y1 hi,Yt];rfl
   have hl:=EX ((ps.take i).map (·.1));rw[Ya,YD]at hl;rw[et,Pi];generalize JC ((ps.take i).map (·.1))=L at hl ⊢;generalize ps[i]=q;refine⟨_,P0 _ _,_,.li _ _,ite2 (fun g=>?_) (fun g=>?_)⟩
   ·have g':¬q.1∈L:=fun z=>by rw[Yg rfl,Yh z]at g;cases g
    rw[Ye g',Yt];exact⟨_,P0 _ _,by rw[Ya];omega,rfl⟩
   ·have g':q.1∈L:=YL fun z=>g (by rw[Yg rfl,Yv z];rfl);rw[Yg g'];exact rfl
  ·rintro γ' rfl;rw[Wh];exact hR
def EB(G:Glob K mg)(DD:Def K mg "check_strips" SM ["strips"])(Zj:N2 P w K mg base)(Zt:BW P w K mg base)
  : Ed P w K mg base:=by
 refine DD.ox (k:=1) Bx (fun _ _ _ _ _ _ E hr=>⟨_,(Jl (J5 (JE UF (ln K G.len (pv 0)) (ExcR.UY G.STRIPS) (JJ _)) (Jk (ExcR.Xz G.g_TooManyStrips.c G.m_TooManyStrips ExcR.XB rfl (az (ExcR.pe_f (ExcR.Xu (ExcR.Po (ExcR.UY G.STRIPS) (ExcR.Xu ExcR.Pv)))))))
   J7) (Jk (JS ExcR.Fi rfl (JI (K:=K) (pv 0)) (Xq (K:=K) (n:=2) rfl (Ue (gz 1 Bx.nd) (Ue (gz 2 Bx.nd) Xs))) (Jl (JL (UQ Zj (hr.mono (by decide)) ExcR.X7 (az (pv 1)))) (Jk (JL (UQ Zt (hr.mono (by decide)) ExcR.X7 (az (pv 2))))))))), (Jm (J6 (Jz (UK (JH (sz (Jg 0))) Jh)) (X0 (sz (se_f (X5 (Pk Jh (X5 KB)))))) J9) (J0 0 (JQ [1,2] (Uy (Jg 0)) (X4 (Uj (Jj 1) (Uj (Jj 2) Xy))) (Jm (UW (XZ (sz (Jg 1)))) (UW (XZ (sz (Jg 2))))))))⟩) (.a fun ds R X h=>?_)
 ·obtain⟨ps,rfl,hz,hR⟩:=h;refine⟨rfl,?_⟩;have hl:(ps.map prD).length=ps.length:=Ya ..;unfold K7 at hR;refine ite2 (fun g=>?_) (fun g=>?_)
  ·have g':(40:Int)<((ps.map prD).length:Int):=Ys g;rw[Yg (by omega)]at hR;exact⟨by decide,by decide,by decide,by decide,by decide,by simp,hR⟩
  ·have g':¬(40:Int)<((ps.map prD).length:Int):=fun z=>g (Yh z);rw[Ye (by omega)]at hR;refine⟨rfl,Uv (xs:=ps) (emb:=prD) (fun i γ'=>γ'=[some (.bor (plD ps)),none,none]/\Xx (ps.drop i)=Xx ps) ⟨rfl,rfl⟩ ?_ ?_⟩
   ·rintro i hi γ' ⟨rfl,hf⟩;have ed:ps.drop i=ps[i]::ps.drop (i+1):=YX hi;rw[ed,Rx]at hf;generalize ps[i]=p at hf ⊢;refine⟨rfl,p.1,rfl,?_⟩;unfold KF;by_cases c:1<=p.1/\p.1<=10
    ·rw[Ye (fun z=>z c)]at hf;rw[Yg c];refine⟨p.2,rfl,?_⟩;unfold Nf;by_cases c2:1<=p.2/\p.2<=1000
     ·rw[Ye (fun z=>z c2)]at hf;rw[Yg c2];exact⟨rfl,hf⟩
     ·rw[Yg c2]at hf;rw[Ye c2];rw[←hf]at hR;exact hR
    ·rw[Yg c]at hf;rw[Ye c];rw[←hf]at hR;exact hR
   ·rintro γ' ⟨rfl,hf⟩;rw[List.drop_length]at hf;rw[←hf]at hR;exact hR
def M2(G:Glob K mg)(DD:Def K mg "lies_together" NZ ["strips"])(Zu:Ao P w K mg base)(Zb:Kr P w K mg base)
  : Fu P w K mg base:=by
 refine DD.oz (k:=1) F0 (fun _ _ _ _ _ _ E hr=>⟨_,(Jl (Kf (N':=["index","strips"]) (φ:=[none,some 0]) (i:=1) F0.nd rfl rfl rfl (Own.CompOk.of (by rfl)) (Xf rfl G.range (az (ln K G.len (pv 0)))) (fun _ _ _ _ _=>⟨(gz 0 (show(["index","strips"]:List Str).Nodup from by decide +kernel)),(Xe (JW (K:=K) (fz Zu hr (bz (pv 1) (pv 0))))),(pv 0)⟩)) (Jk (Jt (Xm (KS (K:=K) (show _<cLine from hr.units0)) (ln K G.len (pv 1)) (ln K G.len (fz Zb hr (az (pv 0)))) (JJ _))))), (Jm (Jr (Ua (SndI.c (Xj (sz (JH (sz (Jg 0)))))) (Jj 0) (JX (Js (tz (Jg 1) (Jg 0)))) (Jg 0)) (Jj 1)) (Jy (UA (JH (sz (Jg 1))) (JH (sz (Js (sz (Jg 0))))))))⟩) (.a fun ds R X h=>?_)
 ·obtain⟨ps,rfl,hF,hz,hT,hN⟩:=h;refine⟨rfl,?_⟩;have hl:(ps.map prD).length=ps.length:=Ya ..;refine⟨⟨by omega,by omega⟩,BD (fun i=>if begM ps i=true then some (D.int (0+(i:Int)))else none) (by omega) (fun i hi=>?_) ?_⟩
  ·have hi':i<ps.length:=by omega
   refine⟨ps,i,by rw[show(0:Int)+(i:Int)=((i:Nat):Int) by omega];rfl,hi',?_⟩;exact ite2 (fun g=>⟨_,rfl,Yg g⟩) (fun g=>Ye g)
  rw[US (fun i:Nat=>begM ps i)];refine⟨ps,rfl,hF,hz,?_⟩
  have e1:(((List.range (((ps.map prD).length:Nat):Int).toNat).filter fun i:Nat=>begM ps i).map fun i:Nat=>D.int (0+(i:Int))).length=((List.range ps.length).filter (begM ps)).length:=by
   rw[Ya,show(((ps.map prD).length:Nat):Int).toNat=ps.length by omega]
  have e2:((Jp ps).map D.int).length=(Jp ps).length:=Ya ..;by_cases c:TogP ps
  ·have:=(DC hF).mpr c
   have ee:((((((List.range (((ps.map prD).length:Nat):Int).toNat).filter fun i:Nat=>begM ps i).map fun i:Nat=>D.int (0+(i:Int))).length:Nat):Int)=((((Jp ps).map D.int).length:Nat):Int)):=by omega
   have hR:=hT c;rw[←Yh ee]at hR;exact hR
  ·have h:¬((List.range ps.length).filter (begM ps)).length=(Jp ps).length:=fun z=>c ((DC hF).mp z);have ee:¬((((((List.range (((ps.map prD).length:Nat):Int).toNat).filter fun i:Nat=>begM ps i).map fun i:Nat=>D.int (0+(i:Int))).length:Nat):Int)=((((Jp ps).map D.int).length:Nat):Int)):=by omega
   have hR:=hN c;rw[←Yv ee]at hR;exact hR
def M1(G:Glob K mg)(DD:Def K mg "check_order" NM ["strips","order"])(Zb:Kr P w K mg base)
  : NF P w K mg base:=by
 refine DD.ox (k:=1) GC (fun _ _ _ _ _ _ E hr=>⟨_,(Jk (J5 (cn K hr (JY (NK (K:=K) (w:=w) rfl) (by rfl) G.sorted boot_sorted (az (pv 1))) (fz Zb hr (az (pv 0)))) (Jk (ExcR.Xz G.g_BadOrder.c G.m_BadOrder ExcR.XB rfl (az T7)))
   J7)), (J6 (Jz (UM (NA (sz (Jg 1))) (Js (sz (Jg 0))))) (X0 (sz Ti)) J9)⟩) (.a fun ds R X h=>?_)
 ·obtain⟨ps,os,rfl,hF,hz,hl,hR⟩:=h;refine⟨rfl,?_⟩;refine⟨os,rfl,hl,fun ns h1 h2=>⟨ps,rfl,hF,hz,_,_,rfl,rfl,?_⟩⟩;have q:=MK (ps:=ps) h1 h2;unfold K0 at hR;refine ite2 (fun g=>?_) (fun g=>?_)
  ·have g':¬ns=Jp ps:=fun z=>by rw[Yg rfl,Yh z]at g;cases g
   rw[Ye (fun z=>g' (q.mpr z))]at hR;exact⟨by simp,hR⟩
  ·have g':ns=Jp ps:=YL fun z=>g (by rw[Yg rfl,Yv z];rfl);rw[Yg (q.mp g')]at hR;exact hR
def O3(G:Glob K mg)(DD:Def K mg "ring_from" Bu ["least","holders","wishes"])(Zv:Dj P w K mg base)
  : F5 P w K mg base:=by
 refine DD.oz (k:=1) XM (fun _ _ _ _ _ _ E hr=>⟨_,(Jl (Pu.pz 3 XM.nd (JF (az (JF (az (pv 0)))))) (Jl (Pu.pz 4 XM.nd (JY (NK (K:=K) (w:=w) rfl) (by rfl) G.sorted boot_sorted (az (Us (N':=["holder","least"]) (φ:=[none,some 0]) rfl (Own.CompOk.of (by rfl)) (JI (K:=K) (pv 1)) (fun _ _ _ _ _=>⟨(gz 0 (show(["holder","least"]:List Str).Nodup from by decide +kernel)),(Xe (JE UF (pv 0) (pv 1) (JJ _))),(pv 0)⟩))))) (Jl (T8 Y8 (JW (K:=K) (pv 3)) (Jl (Kf (N':=["path","wishes","least"]) (φ:=[none,some 2,some 0]) (i:=5) XM.nd rfl rfl rfl (Own.CompOk.of (by rfl)) (JI (K:=K) (pv 3)) (fun _ _ _ _ _=>⟨(gz 0 (show(["path","wishes","least"]:List Str).Nodup from by decide +kernel)),(Xe (JE (X3 (K:=K) (show _<cLine from JP hr)) (Ui (bz (jx K (pv 0) (Kh XT Ji)) (pv 2))) (pv 1) (by with_unfolding_all rfl))),(pv 0)⟩)) (Jl (J5 (JW (K:=K) (pv 5)) (Jk (Jt (jx K (pv 5) Ji)))
   J7) (Jl (Pu.pz 3 XM.nd (fz Zv hr (dz (pv 3) (pv 4) (pv 2)))) (Jl (Pu.pz 6 XM.nd (Us (N':=["path"]) (φ:=[none]) rfl (Own.CompOk.of (by rfl)) (JI (K:=K) (pv 3)) (fun _ _ _ _ _=>⟨(gz 0 (show(["path"]:List Str).Nodup from by decide +kernel)),UO,(jx K (pv 0) (Kh XT Ji))⟩))) (Jk (Kf (N':=["holder","reached"]) (φ:=[none,some 6]) (i:=4) XM.nd rfl rfl rfl (Own.CompOk.of (by rfl)) (JI (K:=K) (pv 4)) (fun _ _ _ _ _=>⟨(gz 0 (show(["holder","reached"]:List Str).Nodup from by decide +kernel)),(Xe (JE (P5 (K:=K) (show _<cLine from JP hr)) (pv 0) (pv 1) (by with_unfolding_all rfl))),(pv 0)⟩)))))))) (Jk (Jt (JF J4)))))), (Jm (J0 0 (Jr (JG (sz (JG (sz (Jg 0))))) (Jj 3))) (Jm (Jr (NA (sz (Ua (UE (Jg 1)) (Jj 0) (Jz (UK (Jg 0) (Jg 1))) (Jg 0)))) (Jj 4)) (Jm (NG [5,6] (JX (Jg 3)) (Jm (J0 0 (Jr (Ua (UE (Jg 3)) (Jj 0) (Jz (UC (Uk (tz (Ju (Jg 0) (K5 Jh)) (Jg 2))) (Jg 1))) (Jg 0)) (Jj 5))) (Jm (J6 (JX (Jg 5)) (AA (Ju (Jg 5) Jh)) J9) (Jm (Jr (Js (uz (Jg 3) (Jg 4) (Jg 2))) (Jj 3)) (Jm (Jr (Ua (UE (Jg 3)) (Jj 0) Xc (Ju (Jg 0) (K5 Jh))) (Jj 6)) (Jr (Ua (UE (Jg 4)) (Jj 0) (Jz (UC (Jg 0) (Jg 1))) (Jg 0)) (Jj 4))))))) (AA (JG J2)))))⟩) (.a fun ds R X h=>?_)
 ·obtain⟨l,hs,ws,rfl,hz,hN,hR⟩:=h;refine⟨rfl,?_⟩;refine⟨by simp,by simp,Uh (xs:=hs) (emb:=D.int) (fun h=>if decide (l<h)=true then some (.int h)else none) (by omega) (fun h _=>ite2 (fun g=>⟨_,rfl,Yg g⟩) (fun g=>Ye g)) ?_⟩;rw[Fc fun h=>decide (l<h)];refine⟨hs.filter fun h=>decide (l<h),rfl,Vg (Wk _ _) (by omega),fun ls hp hsrt=>?_⟩
  have hm:∀h∈ls,Gr hs l h:=fun h z=>by
   rw[hp.mem_iff,Y9,Qj]at z;exact z
  have hlen:ls.length<=hs.length:=by
   rw[hp.length_eq];exact Wk _ _
  refine Bm (fun γ'=>∃k ps ls,γ'=[some (.sh (.int l)),some (.bor (.lst (hs.map D.int))),some (.bor (.lst (ws.map prD))),some (.own (ps.map (em l))),some (.own (ls.map D.int)),none,none]/\(∀p∈ps,p.length=k/\Path (Gr hs l) ws l p)/\(∀h∈ls,Gr hs l h)/\ps.length<=60/\ls.length<=hs.length/\(k+ls.length<=hs.length\/(ps=[]/\k<=hs.length+1)))
   (fun γ=>2*AK 4 γ+min 1 (AK 3 γ)) ⟨0,[[]],ls,rfl,(fun p z=>by rw[Yf.mp z];exact⟨rfl,trivial⟩),hm,by simp,hlen,.inl (by omega)⟩ ?_
  rintro γ' ⟨k,ps,ls,rfl,L,hm,hpl,hll,hk⟩;have emp:(!(ps.map (em l)).isEmpty)=decide (ps≠[]):=by cases ps<;>simp
  show if (!(ps.map (em l)).isEmpty)=true then _ else _;rw[emp];refine ite2 (fun g=>?_) (fun g=>?_)
  ·have hne:ps≠[]:=Ys g;have hk':k+ls.length<=hs.length:=hk.elim id fun z=>absurd z.1 hne;have hpk:∀p∈ps,p.length<=60:=fun p hp=>by rw[(L p hp).1];omega
   have hn:∀p∈ps,(JB l p,l)∉ws:=fun p hp z=>hN p ⟨(L p hp).2,z⟩;refine Uh (xs:=ps) (emb:=em l) (fun _=>none) (by omega) (fun p hp=>⟨_,Ba l p,by simp,_,.lp (JB l p,l) ws,ite2 (fun g=>absurd (Ys g) (hn p hp)) (fun g=>rfl)⟩) ?_;have e0:ps.filterMap (fun _=>(none:Option D))=[]:=by simp
   rw[e0];refine⟨l,ps,ls,ws,rfl,fun p hp=>Yx (hpk p hp) (by decide),by omega,fun lg G hlg=>?_⟩;refine Uh (xs:=lg) (emb:=em l) (fun p=>some (.int (JB l p))) (by omega) (fun p _=>⟨_,Ba l p,_,rfl,rfl⟩) ?_;have e1:lg.filterMap (fun p=>some (D.int (JB l p)))=(lg.map (JB l)).map D.int:=by rw[Qg,YK];rfl
   rw[e1];refine Uh (xs:=ls) (emb:=D.int) (fun h=>if decide (¬h∈lg.map (JB l))=true then some (.int h)else none) (by omega) (fun h _=>⟨_,.li h _,?_⟩) ?_
   ·by_cases c:h∈lg.map (JB l)
    ·simp only[Yh c];exact iteF (Ye (by simp[c]))
    ·simp only[Yv c];exact iteT ⟨_,rfl,Yg (by simp[c])⟩
   rw[Fc fun h=>decide (¬h∈lg.map (JB l))];have hfl:=Wk (fun h=>decide (¬h∈lg.map (JB l))) ls
   have hless:lg≠[]->(ls.filter fun h=>decide (¬h∈lg.map (JB l))).length<ls.length:=fun hne=>by
    obtain⟨q,hq⟩:=List.exists_mem_of_ne_nil lg hne
    have hm:JB l q∈ls:=by
     obtain⟨p,_,x,hx,rfl,_⟩:=G q hq;rw[XY];exact hx
    refine Nat.lt_of_le_of_ne hfl fun z=>?_
    have:=List.filter_eq_self.mp (List.Sublist.eq_of_length (List.filter_sublist (l:=ls)) z) (JB l q) hm
    rw[Qj]at this;exact this (List.mem_map_of_mem hq)
   refine⟨⟨k+1,lg,_,rfl,fun q hq=>?_,fun h hh=>hm h (Y9.mp hh).1,by omega,by omega,?_⟩,?_⟩
   ·obtain⟨p,hp,x,hx,rfl,hw⟩:=G q hq;exact⟨by rw[Yn,(L p hp).1];rfl,path_app.mpr ⟨(L p hp).2,hm x hx,hw,trivial⟩⟩
   ·by_cases c:lg=[]
    ·exact .inr ⟨c,by omega⟩
    ·have:=hless c
     exact .inl (by omega)
   ·show 2*((ls.filter fun h=>decide (¬h∈lg.map (JB l))).map D.int).length+min 1 (lg.map (em l)).length<2*(ls.map D.int).length+min 1 (ps.map (em l)).length;rw[Ya,Ya,Ya,Ya]
    have:0<ps.length:=QZ.mpr hne
    by_cases c:lg=[]
    ·rw[c];rw[c]at hfl;simp only[List.length_nil];omega
    ·have:=hless c
     omega
  ·have hpe:ps=[]:=YL fun z=>g (Yh z);subst hpe;exact⟨by simp,hR⟩
def Gm(G:Glob K mg)(DD:Def K mg "with_wish" N4 ["wishes","ahead","behind"])(Zj:N2 P w K mg base)
  : Fm P w K mg base:=by
 refine DD.ox (k:=1) Zba (fun _ _ _ _ _ _ E hr=>⟨_,(Jl (JL (UQ Zj (hr.mono (by decide)) ExcR.X7 (az (pv 1)))) (Jl (JL (UQ Zj (hr.mono (by decide)) ExcR.X7 (az (pv 2)))) (Jl (J5 (cq K hr (pv 1) (pv 2)) (Jk (ExcR.Xz G.g_LikeHolders.c G.m_LikeHolders ExcR.XB rfl (az T7)))
   J7) (Jl (J5 (JE (X3 (K:=K) (show _<cLine from JP hr)) (Ui (bz (pv 1) (pv 2))) (pv 0) (by with_unfolding_all rfl)) (Jk (ExcR.Xz G.g_WishStands.c G.m_WishStands ExcR.XB rfl (az T7)))
   J7) (Jl (J5 (JE DF (ln K G.len (pv 0)) (ExcR.UY G.MOST_WISHES) (JJ _)) (Jk (ExcR.Xz G.g_TooManyWishes.c G.m_TooManyWishes ExcR.XB rfl (az (ExcR.pe_f (ExcR.Xu (ExcR.Po (ExcR.UY G.MOST_WISHES) (ExcR.Xu ExcR.Pv)))))))
   J7) (Jk (Jt (Jo XO (pv 0) (JF (az (Ui (bz (pv 1) (pv 2))))))))))))), (Jm (UW (XZ (sz (Jg 1)))) (Jm (UW (XZ (sz (Jg 2)))) (Jm (J6 (Jz (UA (Jg 1) (Jg 2))) (X0 (sz Ti)) J9) (Jm (J6 (Jz (UC (Uk (tz (Jg 1) (Jg 2))) (Jg 0))) (X0 (sz Ti)) J9) (Jm (J6 (Jz (Ct (JH (sz (Jg 0))) Jh)) (X0 (sz (se_f (X5 (Pk Jh (X5 KB)))))) J9) (J0 2 (J0 1 (Jy (Ki (Jg 0) (JG (sz (Uk (tz (Jg 1) (Jg 2))))))))))))))⟩) (.a fun ds R X h=>?_)
 ·obtain⟨ws,a,b,rfl,hz,hR⟩:=h;refine⟨rfl,?_⟩;have hl:(ws.map prD).length=ws.length:=Ya ..;unfold Xg at hR;refine⟨a,rfl,?_⟩;unfold KF;by_cases c1:1<=a/\a<=10
  ·rw[Ye (fun z=>z c1)]at hR;rw[Yg c1];refine⟨b,rfl,?_⟩;unfold KF;by_cases c2:1<=b/\b<=10
   ·rw[Ye (fun z=>z c2)]at hR;rw[Yg c2];refine ite2 (fun g=>?_) (fun g=>?_)
    ·rw[Yg (Ys g)]at hR;exact⟨by simp,hR⟩
    ·rw[Ye (fun z=>g (Yh z))]at hR;refine⟨by simp,_,.lp (a,b) ws,ite2 (fun g2=>?_) (fun g2=>?_)⟩
     ·rw[Yg (Ys g2)]at hR;exact⟨by simp,hR⟩
     ·rw[Ye (fun z=>g2 (Yh z))]at hR;refine ite2 (fun g3=>?_) (fun g3=>?_)
      ·have g3':(20:Int)<=((ws.map prD).length:Int):=Ys g3;rw[Yg (by omega)]at hR;exact⟨by decide,by decide,by decide,by decide,by decide,by simp,hR⟩
      ·have g3':¬(20:Int)<=((ws.map prD).length:Int):=fun z=>g3 (Yh z);rw[Ye (by omega)]at hR;refine⟨by simp,by simp,PZ _,rfl,Yx (WT (Yx (Wx hl) hz) (Yi 1)) (by decide),?_⟩;rw[Yt]at hR;exact hR
   ·rw[Yg c2]at hR;rw[Ye c2];exact hR
  ·rw[Yg c1]at hR;rw[Ye c1];exact hR
def La(G:Glob K mg)(DD:Def K mg "pair_costs" Ng ["strips"])(Zb:Kr P w K mg base)(Zw:Es P w K mg base)
  : SG P w K mg base:=by
 refine DD.oz (k:=1) Pq (fun _ _ _ _ _ _ E hr=>⟨_,(Jl (Pu.pz 1 Pq.nd (fz Zb hr (az (pv 0)))) (Jl (Pu.pz 2 Pq.nd MU) (Jl (JS Y8 rfl (JI (K:=K) (pv 1)) (gz 3 Pq.nd) (Jk (JS Y8 rfl (JI (K:=K) (pv 1)) (gz 4 Pq.nd) (Jk (Bi (JP hr) (pv 2) (Ui (bz (pv 3) (pv 4))) (fz Zw hr (dz (pv 0) (pv 3) (pv 4))) rfl))))) (Jk (Jt (pv 2)))))), (Jm (Jr (Js (sz (Jg 0))) (Jj 1)) (Jm (Jr Mi (Jj 2)) (Jm (J0 1 (JQ [3,4] (Uy (Jg 1)) (Jj 3) (J0 1 (JQ [4] (Uy (Jg 1)) (Jj 4) (J0 4 (J0 3 (NO 2 (Uk (tz (Jg 3) (Jg 4))) (Js (uz (Jg 0) (Jg 3) (Jg 4)))))))))) (U0 2))))⟩) (.a fun ds R X h=>?_)
 ·obtain⟨ps,rfl,hF,hz,hR⟩:=h;refine⟨rfl,?_⟩;refine⟨ps,rfl,hF,hz,?_⟩;have hh:=Xr ps;generalize Jp ps=hs at hh hR ⊢
  refine⟨rfl,Uv (xs:=hs) (emb:=D.int) (fun i γ'=>∃kvs:List (List Key×V),γ'=[some (.bor (.lst (ps.map prD))),some (.sh (.lst (hs.map D.int))),some (.own (.dT kvs)),none,none]/\kvs.length<=i*10/\
   ∀x∈hs.take i,∀y∈hs,valV kvs [.inl x,.inl y]=some (.int (pcM ps x y ps.length))) ⟨[],rfl,by simp,by simp⟩ ?_ ?_⟩
  ·rintro i hi γ' ⟨kvs,rfl,hl,hv⟩
   refine⟨rfl,Uv (xs:=hs) (emb:=D.int) (fun j γ'=>∃kvs:List (List Key×V),γ'=[some (.bor (.lst (ps.map prD))),some (.sh (.lst (hs.map D.int))),some (.own (.dT kvs)),some (.sh (.int hs[i])),none]/\kvs.length<=i*10+j/\
    (∀x∈hs.take i,∀y∈hs,valV kvs [.inl x,.inl y]=some (.int (pcM ps x y ps.length)))/\∀y∈hs.take j,valV kvs [.inl hs[i],.inl y]=some (.int (pcM ps hs[i] y ps.length))) ⟨kvs,rfl,by omega,hv,by simp⟩ ?_ ?_⟩
   ·rintro j hj γ' ⟨kvs,rfl,hl,hv,hw⟩;refine⟨ps,_,_,rfl,hF,by simp,_,_,rfl,rfl,by omega,_,rfl,Yx (T4 _ _ _) (by omega),fun x hx y hy=>?_,fun y hy=>?_⟩
    ·rw[TU];by_cases e:([.inl x,.inl y]:List Key)=[.inl hs[i],.inl hs[j]]
     ·rw[Yg e];simp only[QX,Sum.inl.injEq,and_true]at e;rw[e.1,e.2]
     ·rw[Ye e];exact hv x hx y hy
    ·rw[TU];by_cases e:([.inl hs[i],.inl y]:List Key)=[.inl hs[i],.inl hs[j]]
     ·rw[Yg e];simp only[QX,Sum.inl.injEq,and_true]at e;rw[e.2]
     ·rw[Ye e];rw[Y1 hj,Yz,Yf]at hy;rcases hy with hy|hy
      ·exact hw y hy
      ·subst hy;exact absurd rfl e
   ·rintro γ' ⟨kvs,rfl,hl,hv,hw⟩;rw[Wh]at hw;refine⟨kvs,rfl,by omega,fun x hx y hy=>?_⟩;rw[Y1 hi,Yz,Yf]at hx;rcases hx with hx|hx
    ·exact hv x hx y hy
    ·subst hx;exact hw y hy
  ·rintro γ' ⟨kvs,rfl,hl,hv⟩;rw[Wh]at hv;exact hR kvs hv
def OA(G:Glob K mg)(DD:Def K mg "cost_with_last" Bc ["members","last","least","pairs"])(Zf:T1 P w K mg base)
  : Eg P w K mg base:=by
 refine DD.oz (k:=1) A1 (fun _ _ _ _ _ _ E hr=>⟨_,(Jl (Pu.pz 4 A1.nd (fz Zf hr (bz (pv 0) (pv 1)))) (Jk (Jt (Jo Ud (KA (JP hr) (pv 2) (pv 4) (fun _ _=>rfl)) (JY (Af (K:=K) rfl) (by rfl) G.sum boot_sum (az (Us (N':=["other","pairs","last"]) (φ:=[none,some 3,some 1]) rfl (Own.CompOk.of (by rfl)) (KE (K:=K) (pv 4)) (fun _ _ _ _ _=>⟨(gz 0 (show(["other","pairs","last"]:List Str).Nodup from by decide +kernel)),UO,(KA (JP hr) (pv 1) (Ui (bz (pv 0) (pv 2))) (fun _ _=>rfl))⟩)))))))), (Jm (Jr (Js (tz (Jg 0) (Jg 1))) (Jj 4)) (J0 1 (Jy (Ub (Py (Jg 2) (Jg 4)) (BY (sz (Ua (SndI.c (Px (Jg 4))) (Jj 0) Xc (Py (Jg 1) (Uk (tz (Jg 0) (Jg 2)))))))))))⟩) (.a fun ds R X h=>?_)
 ·obtain⟨ms,l,le,pa,c,v,rfl,hz,hv,hc,hR⟩:=h;refine⟨rfl,?_⟩;rw[Pj];have hz':(Jw ms l).length<=1000:=Yx less_sub.length_le hz;refine⟨ms,l,rfl,hz,_,_,PP _,hv,rfl,_,rfl,Uh (s:=.sh .non) (xs:=Jw ms l) (emb:=D.int) (fun m=>some (.int (c m))) (by omega) (fun m hm=>?_) ?_⟩
  ·exact⟨by simp,_,_,rfl,hc m hm,rfl,_,rfl,rfl⟩
  ·rw[mapD];exact⟨(Jw ms l).map c,by rw[YK];rfl,hR⟩
def MO(G:Glob K mg)(DD:Def K mg "cost_with_first" Nt ["members","first","least","pairs"])(Zf:T1 P w K mg base)
  : AG P w K mg base:=by
 refine DD.oz (k:=1) Dx (fun _ _ _ _ _ _ E hr=>⟨_,(Jl (Pu.pz 4 Dx.nd (fz Zf hr (bz (pv 0) (pv 1)))) (Jk (Jt (Jo Ud (KA (JP hr) (pv 2) (pv 4) (fun _ _=>rfl)) (JY (Af (K:=K) rfl) (by rfl) G.sum boot_sum (az (Us (N':=["other","pairs","first"]) (φ:=[none,some 3,some 1]) rfl (Own.CompOk.of (by rfl)) (KE (K:=K) (pv 4)) (fun _ _ _ _ _=>⟨(gz 0 (show(["other","pairs","first"]:List Str).Nodup from by decide +kernel)),UO,(KA (JP hr) (pv 1) (Ui (bz (pv 2) (pv 0))) (fun _ _=>rfl))⟩)))))))), (Jm (Jr (Js (tz (Jg 0) (Jg 1))) (Jj 4)) (J0 1 (Jy (Ub (Py (Jg 2) (Jg 4)) (BY (sz (Ua (SndI.c (Px (Jg 4))) (Jj 0) Xc (Py (Jg 1) (Uk (tz (Jg 2) (Jg 0)))))))))))⟩) (.a fun ds R X h=>?_)
 ·obtain⟨ms,l,le,pa,c,v,rfl,hz,hv,hc,hR⟩:=h;refine⟨rfl,?_⟩;rw[Pj];have hz':(Jw ms l).length<=1000:=Yx less_sub.length_le hz;refine⟨ms,l,rfl,hz,_,_,PP _,hv,rfl,_,rfl,Uh (s:=.sh .non) (xs:=Jw ms l) (emb:=D.int) (fun m=>some (.int (c m))) (by omega) (fun m hm=>?_) ?_⟩
  ·exact⟨by simp,_,_,rfl,hc m hm,rfl,_,rfl,rfl⟩
  ·rw[mapD];exact⟨(Jw ms l).map c,by rw[YK];rfl,hR⟩
def IS(G:Glob K mg)(DD:Def K mg "_law_draw" Nx ["_law_script","_law_k"])(Zl:NR P w K mg base)(Zc:Tw P w K mg base)
  : P3 P w K mg base:=by
 refine DD.oz (k:=1) OU (fun _ _ _ _ _ _ E hr=>⟨_,(Jl (J5 (cq K hr (Jo JM (fz Zc hr (bz (pv 0) Ji)) Ji) Ji) (Jk (Jt (fz Zc hr (bz (pv 0) (Jo Ud Ji (pv 1))))))
   J7) (Jk (Jt (fz Zl hr (bz (fz Zc hr (bz (pv 0) Ji)) (pv 1)))))), (Jm (J6 (Jz (UA (JU (Js (tz (Jg 0) Jh)) Jh) Jh)) (Jy (Js (tz (Jg 0) (Ub Jh (Jg 1))))) J9) (Jy (Js (tz (Js (tz (Jg 0) Jh)) (Jg 1)))))⟩) (.a fun ds R X h=>?_)
 ·obtain⟨ns,k,rfl,hk,hR⟩:=h;refine⟨rfl,?_⟩;refine⟨ns,0,rfl,by decide,fun v=>⟨(by show(0:Int)<2;decide),ite2 (fun _=>?_) (fun _=>?_)⟩⟩
  ·exact⟨ns,_,rfl,by omega,fun v=>hR v⟩
  ·exact⟨ns,1,rfl,by decide,fun u=>⟨_,_,rfl,fun v=>hR v⟩⟩
def E2(G:Glob K mg)(DD:Def K mg "_law_spare" Si ["_law_script"])(Zl:NR P w K mg base)(Zc:Tw P w K mg base)
  : AN P w K mg base:=by
 refine DD.oz (k:=1) Oq (fun _ _ _ _ _ _ E hr=>⟨_,(Jl (J5 (cq K hr (Jo JM (fz Zc hr (bz (pv 0) Ji)) Ji) Ji) (Jk (Jt (Jo U1 (fz Zc hr (bz (pv 0) Ji)) Ji)))
   J7) (Jk (Jt (fz Zl hr (bz (fz Zc hr (bz (pv 0) Ji)) Ji))))), (Jm (J6 (Jz (UA (JU (Js (tz (Jg 0) Jh)) Jh) Jh)) (Jy (UG (Js (tz (Jg 0) Jh)) Jh)) J9) (Jy (Js (tz (Js (tz (Jg 0) Jh)) Jh))))⟩) (.a fun ds R X h=>?_)
 ·obtain⟨ns,rfl,hR⟩:=h;refine⟨rfl,?_⟩;exact⟨ns,0,rfl,by decide,fun v=>⟨(by show(0:Int)<2;decide),ite2 (fun _=>⟨ns,0,rfl,by decide,fun u=>⟨⟨by decide,by decide⟩,hR _⟩⟩) (fun _=>⟨ns,1,rfl,by decide,fun u=>⟨_,_,rfl,fun z=>hR _⟩⟩)⟩⟩
def Za5(G:Glob K mg)(DD:Def K mg "_law_row" Bj ["_law_found","_law_due"])(Zg:TR P w K mg base)
  : El P w K mg base:=by
 refine DD.oz (k:=1) F9 (fun _ _ _ _ _ _ E hr=>⟨_,(Jl (J5 (PW.pt (U8 (U9 (JW (K:=K) (JY (XX (K:=K)) (by rfl) G.isinstance WM (bz (pv 0) (XD (v:=.ty "list") rfl G.list boot_list rfl))))) (UJ (cn K hr (ln K G.len (pv 0)) (ln K G.len (pv 1)))))) (Jk (Jt Up))
   J7) (Jl (JS Y8 rfl (Xf rfl G.range (az (ln K G.len (pv 1)))) (gz 2 F9.nd) (Jk (J5 (PW.pt (U8 (U9 (JW (K:=K) (fz Zg hr (az (jx K (pv 0) (pv 2)))))) (UJ (cn K hr (jx K (pv 0) (pv 2)) (jx K (pv 1) (pv 2)))))) (Jk (Jt Up))
   J7))) (Jk (Jt Up)))), (Jm (J6 (U7 (U4 (JX (Kc (tz (Jg 0) Ka)))) (Jz (UM (JH (sz (Jg 0))) (JH (sz (Jg 1)))))) (Jy Uo) J9) (Jm (JQ [2] (Xj (sz (JH (sz (Jg 1))))) (Jj 2) (J6 (U7 (U4 (JX (Js (sz (Ju (Jg 0) (Jg 2)))))) (Jz (UM (Ju (Jg 0) (Jg 2)) (Ju (Jg 1) (Jg 2))))) (Jy Uo) J9)) (Jy Uo)))⟩) (.a fun ds R X h=>?_)
 ·obtain⟨xs,rfl,hz,hR⟩:=h;refine⟨rfl,?_⟩;have hl:(xs.map D.int).length=xs.length:=Ya ..;refine⟨_,.same _,iteF (PU rfl ?_)⟩;refine⟨⟨by omega,by omega⟩,X9 (fun i γ'=>γ'=[some (.bor (.lst (xs.map D.int))),some (.bor (.lst (xs.map D.int))),none]) rfl ?_ ?_⟩
  ·rintro i γ' hi rfl;have hi':i<(((xs.map D.int).length:Nat):Int).toNat:=hi;have ez:(0:Int)+(i:Int)=(i:Int):=by omega
   have hb:i<xs.length:=by omega
   have ha:atI (xs.map D.int) (0+(i:Int))=some (.int xs[i]):=by rw[ez];exact Tj hb
   exact⟨_,ha,_,rfl,iteF ⟨_,ha,_,ha,PU rfl rfl⟩⟩
  ·rintro γ' rfl;exact hR
def Zaa(G:Glob K mg)(DD:Def K mg "_law_tuples" Np ["_law_found","_law_due"])(Zg:TR P w K mg base)
  : Ac P w K mg base:=by
 refine DD.oz (k:=1) NU (fun _ _ _ _ _ _ E hr=>⟨_,(Jl (J5 (PW.pt (U8 (U9 (JW (K:=K) (JY (XX (K:=K)) (by rfl) G.isinstance WM (bz (pv 0) (XD (v:=.ty "list") rfl G.list boot_list rfl))))) (UJ (cn K hr (ln K G.len (pv 0)) (ln K G.len (pv 1)))))) (Jk (Jt Up))
   J7) (Jl (JS Y8 rfl (Xf rfl G.range (az (ln K G.len (pv 1)))) (gz 2 NU.nd) (Jl (J5 (PW.pt (U8 (U9 (JW (K:=K) (JY (XX (K:=K)) (by rfl) G.isinstance WM (bz (jx K (pv 0) (pv 2)) (XD (v:=.ty "tuple") rfl G.tuple boot_tuple rfl))))) (UJ (cn K hr (ln K G.len (jx K (pv 0) (pv 2))) (ln K G.len (jx K (pv 1) (pv 2))))))) (Jk (Jt Up))
   J7) (Jk (JS Y8 rfl (Xf rfl G.range (az (ln K G.len (jx K (pv 1) (pv 2))))) (gz 3 NU.nd) (Jk (J5 (PW.pt (U8 (U9 (JW (K:=K) (fz Zg hr (az (jx K (jx K (pv 0) (pv 2)) (pv 3)))))) (UJ (cn K hr (jx K (jx K (pv 0) (pv 2)) (pv 3)) (jx K (jx K (pv 1) (pv 2)) (pv 3)))))) (Jk (Jt Up))
   J7)))))) (Jk (Jt Up)))), (Jm (J6 (U7 (U4 (JX (Kc (tz (Jg 0) Ka)))) (Jz (UM (JH (sz (Jg 0))) (JH (sz (Jg 1)))))) (Jy Uo) J9) (Jm (JQ [2,3] (Xj (sz (JH (sz (Jg 1))))) (Jj 2) (Jm (J6 (U7 (U4 (JX (Kc (tz (Ju (Jg 0) (Jg 2)) Ka)))) (Jz (UM (JH (sz (Ju (Jg 0) (Jg 2)))) (JH (sz (Ju (Jg 1) (Jg 2))))))) (Jy Uo) J9) (JQ [3] (Xj (sz (JH (sz (Ju (Jg 1) (Jg 2)))))) (Jj 3) (J6 (U7 (U4 (JX (Js (sz (Ju (Ju (Jg 0) (Jg 2)) (Jg 3)))))) (Jz (UM (Ju (Ju (Jg 0) (Jg 2)) (Jg 3)) (Ju (Ju (Jg 1) (Jg 2)) (Jg 3))))) (Jy Uo) J9)))) (Jy Uo)))⟩) (.a fun ds R X h=>?_)
 ·obtain⟨ps,rfl,hz,hR⟩:=h;refine⟨rfl,?_⟩;have hl:(ps.map prD).length=ps.length:=Ya ..;refine⟨_,.same _,iteF (PU rfl ?_)⟩;refine⟨⟨by omega,by omega⟩,X9 (fun i γ'=>∃t,γ'=[some (.bor (.lst (ps.map prD))),some (.bor (.lst (ps.map prD))),none,t]) ⟨_,rfl⟩ ?_ ?_⟩
  ·rintro i γ' hi ⟨t,rfl⟩;have hi':i<(((ps.map prD).length:Nat):Int).toNat:=hi;have ez:(0:Int)+(i:Int)=(i:Int):=by omega
   have hb:i<ps.length:=by omega
   have ha:atI (ps.map prD) (0+(i:Int))=some (prD ps[i]):=by rw[ez];exact Tj hb
   generalize ps[i]=q at ha;refine⟨_,ha,_,.same _,iteF ⟨_,ha,_,ha,?_⟩⟩;refine⟨_,ha,⟨(by show -(2 ^ 62)<=(2:Int);decide),(by show(2:Int)<2 ^ 62;decide)⟩,X9 (fun j γ'=>∃t,γ'=[some (.bor (.lst (ps.map prD))),some (.bor (.lst (ps.map prD))),some (.sh (.int (0+(i:Int)))),t]) ⟨_,rfl⟩ ?_ ?_⟩
   ·rintro j γ' hj ⟨t,rfl⟩;have hj2:j<2:=hj
    obtain⟨z,ea⟩:∃z:Int,atI [D.int q.1,D.int q.2] (0+(j:Int))=some (.int z):=by
     have:j=0\/j=1:=by omega
     rcases this with rfl|rfl
     ·exact⟨_,rfl⟩
     ·exact⟨_,rfl⟩
    exact⟨_,ha,_,ea,z,rfl,iteF ⟨_,ha,_,ea,_,ha,_,ea,PU rfl ⟨_,rfl⟩⟩⟩
   ·rintro γ' ⟨t,rfl⟩;exact⟨_,rfl⟩
  ·rintro γ' ⟨t,rfl⟩;exact hR
def MT(G:Glob K mg)(DD:Def K mg "_law_along" N8 ["_law_wishes_here","_law_order"])(Zm:Sr P w K mg base)
  : CG P w K mg base:=by
 refine DD.oz (k:=1) Km (fun _ _ _ _ _ _ E hr=>⟨_,(Jl (Pu.pz 2 Km.nd (JF J4)) (Jl (JS Y8 rfl (JI (K:=K) (pv 0)) (Xq (K:=K) (n:=2) rfl (Ue (gz 3 Km.nd) (Ue (gz 4 Km.nd) Xs))) (Jl (Pu.pz 5 Km.nd (Ui (bz (pv 3) (pv 4)))) (Sq (J5 (U9 (JW (K:=K) (fz Zm hr (bz (pv 1) (JF (az (pv 5))))))) (Jk (Pu.pz 5 Km.nd (Ui (bz (pv 4) (pv 3)))))
   J7) (Jk (J5 (JE (P5 (K:=K) (show _<cLine from JP hr)) (pv 5) (pv 2) (by with_unfolding_all rfl)) (Jk (JL (Uw Y5 YH YI UI (pv 2) (az (pv 5)))))
   J7))))) (Jk (Jt (pv 2))))), (Jm (Jr (JG J2) (Jj 2)) (Jm (J0 0 (JQ [3,4,5] (Uy (Jg 0)) (X4 (Uj (Jj 3) (Uj (Jj 4) Xy))) (Jm (J0 4 (J0 3 (Jr (Uk (tz (Jg 3) (Jg 4))) (Jj 5)))) (NQ (J6 (U4 (JX (Js (tz (Jg 1) (JG (sz (Jg 5))))))) (J0 3 (J0 4 (Jr (Uk (tz (Jg 4) (Jg 3))) (Jj 5)))) J9) (J6 (Jz (UC (Jg 5) (Jg 2))) (J0 5 (XG 2 (Jg 5))) J9))))) (U0 2)))⟩) (.a fun ds R X h=>?_)
 ·obtain⟨ws,o,rfl,hW,hR⟩:=h;refine⟨rfl,?_⟩;have lw:=hW.1;refine⟨by simp,rfl,Uv (xs:=ws) (emb:=prD) (fun i γ'=>∃M:List (Int×Int),γ'=[some (.bor (.lst (ws.map prD))),some (.bor (.lst (o.map D.int))),some (.own (M.map prD)),none,none,none]/\M.length<=i/\M.Nodup/\∀q∈M,((1<=q.1/\q.1<=10/\1<=q.2/\q.2<=10)/\q.1≠q.2)/\badM o q=false) ⟨[],rfl,Wb _,.nil,fun _ h=>by cases h⟩ ?_ ?_⟩
  ·rintro i hi γ' ⟨M,rfl,h1,h2,h3⟩;obtain⟨⟨r1,r2,r3,r4⟩,hne⟩:=hW.2.2 ws[i] (Yr hi);generalize ws[i]=q at r1 r2 r3 r4 hne;refine⟨rfl,by simp,Sm (fun γ'=>∃p:Int×Int,γ'=[some (.bor (.lst (ws.map prD))),some (.bor (.lst (o.map D.int))),some (.own (M.map prD)),some (.sh (.int q.1)),some (.sh (.int q.2)),some (.sh (prD p))]/\(p=q\/p=(q.2,q.1))/\badM o p=false) ?_ ?_⟩
   ·refine⟨by simp,o,[q],rfl,fun h=>?_,fun⟨p,hp,hb⟩=>?_⟩
    ·exact iteF ⟨q,rfl,.inl rfl,h q (Yf.mpr rfl)⟩
    ·rw[Yf.mp hp]at hb;exact iteT ⟨by simp,(q.2,q.1),rfl,.inr rfl,Iq hb⟩
   rintro γ' ⟨p,rfl,hpq,hb⟩;refine⟨_,.lp _ _,ite2 (fun g=>⟨by rw[Ya];omega,M++[p],by rw[Yt];rfl,by rw[Yn];exact Nat.succ_le_succ h1,?_,fun z hz=>?_⟩) (fun _=>⟨M,rfl,by omega,h2,h3⟩)⟩
   ·have g':p∉M:=fun z=>by rw[Yg rfl,Yh z]at g;cases g
    rw[Wc];refine⟨h2,by simp,fun a ha b hb e=>g' ?_⟩;rw[←Yf.mp hb,←e];exact ha
   ·rcases Yz.mp hz with hz|hz
    ·exact h3 z hz
    ·rw[Yf.mp hz];rcases hpq with rfl|rfl
     ·exact⟨⟨⟨r1,r2,r3,r4⟩,hne⟩,hb⟩
     ·exact⟨⟨⟨r3,r4,r1,r2⟩,fun e=>hne e.symm⟩,hb⟩
  ·rintro γ' ⟨M,rfl,h1,h2,h3⟩;exact hR M ⟨by omega,h2,fun q hq=>(h3 q hq).1⟩ fun q hq=>(h3 q hq).2
def MX(G:Glob K mg)(DD:Def K mg "gathered" Nl ["strips","order"])(Zn:NF P w K mg base)
  : Aj P w K mg base:=by
 refine DD.ox (k:=2) NY (fun _ _ _ _ _ _ E hr=>⟨_,(Jl (JL (UQ Zn (hr.mono (by decide)) ExcR.X7 (bz (pv 0) (pv 1)))) (Jl (Pu.pz 2 NY.nd (JF J4)) (Jl (JS ExcR.Fi rfl (JI (K:=K) (pv 1)) (gz 3 NY.nd) (Jk (JL (Uw Y5 PySem.F.slot_list_extend PySem.F.type_list_extend Hh (pv 2) (az (Us (N':=["strip","holder"]) (φ:=[none,some 3]) rfl (Own.CompOk.of (by rfl)) (JI (K:=K) (pv 0)) (fun _ _ _ _ _=>⟨(gz 0 (show(["strip","holder"]:List Str).Nodup from by decide +kernel)),(Xe (cq K hr (jx K (pv 0) Ji) (pv 1))),(pv 0)⟩))))))) (Jk (Jt (pv 2)))))), (Jm (UW (XZ (tz (Jg 0) (Jg 1)))) (Jm (Jr (JG J2) (Jj 2)) (Jm (J0 1 (JQ [3] (Uy (Jg 1)) (Jj 3) (Ip 2 (Ua (UE (Jg 0)) (Jj 0) (Jz (UA (Ju (Jg 0) Jh) (Jg 1))) (Jg 0))))) (U0 2))))⟩) (.a fun ds R X h=>?_)
 ·obtain⟨ps,os,rfl,hF,hz,hl,hR⟩:=h;refine⟨rfl,?_⟩;refine⟨ps,os,rfl,hF,hz,hl,?_⟩;cases e:K0 ps os with
  |some c=>rw[e]at hR;exact hR
  |none=>
   rw[e]at hR;have hR':R (.own ((UZ ps os).map prD)):=hR;refine⟨by simp,rfl,Uv (xs:=os) (emb:=D.int) (fun i γ'=>γ'=[some (.bor (plD ps)),some (.bor (.lst (os.map D.int))),some (.own ((UZ ps (os.take i)).map prD)),none]) rfl ?_ ?_⟩
   ·rintro i hi γ' rfl;have hg:=Zad ps (os.take i);have ht:(os.take i).length<=64:=by rw[YD];omega
    have hm:=Nat.mul_le_mul ht hz;have hf:=Wk (fun q:Int×Int=>decide (q.1=os[i])) ps;refine Uh (xs:=ps) (emb:=prD) (fun q=>if decide (q.1=os[i])=true then some (prD q)else none) (by omega) (fun q hq=>⟨_,rfl,ite2 (fun g=>⟨_,rfl,Yg g⟩) (fun g=>Ye g)⟩) ?_;rw[US (fun q:Int×Int=>decide (q.1=os[i]))];refine⟨by rw[Ya,Ya];omega,?_⟩
    have et:UZ ps (os.take (i+1))=UZ ps (os.take i)++ps.filter fun q=>decide (q.1=os[i]):=by
     unfold UZ;rw[Y1 hi,List.flatMap_append];simp
    rw[et,Yt];rfl
   ·rintro γ' rfl;rw[Wh];exact hR'
def Ou(G:Glob K mg)(DD:Def K mg "told_moves" SS ["strips","order"])(Zn:NF P w K mg base)(Zx:Ad P w K mg base)(Zr:Ay P w K mg base)(Zy:D1 P w K mg base)(Zz:F8 P w K mg base)
  : Ep P w K mg base:=by
 refine DD.oz (k:=2) Kj (fun _ _ _ _ _ _ E hr=>⟨_,(Jl (JL (UQ Zn (hr.mono (by decide)) TX (bz (pv 0) (pv 1)))) (Jl (Kf (N':=["holder","width","order"]) (φ:=[none,none,some 1]) (i:=2) Kj.nd rfl rfl rfl (Own.CompOk.of (by rfl)) (JI (K:=K) (pv 0)) (fun _ _ _ _ _=>⟨(Xq (K:=K) (n:=2) rfl (Ue (gz 0 (show(["holder","width","order"]:List Str).Nodup from by decide +kernel)) (Ue (gz 1 (show(["holder","width","order"]:List Str).Nodup from by decide +kernel)) Xs))),UO,(PR (K:=K) Y5 W9 WY (Tg (K:=K)) (pv 2) (az (pv 0)))⟩)) (Jl (Pu.pz 3 Kj.nd (fz Zx hr (az (pv 0)))) (Jl (Pu.pz 4 Kj.nd (JF J4)) (Jl (Pu.pz 5 Kj.nd (fz Zr hr (bz (pv 3) (pv 2)))) (Jl (T8 Y8 (JE UF (pv 5) Ji (JJ _)) (Jl (JL (Uw Y5 YH YI UI (pv 4) (az (Ui (J1 (pv 5) (J1 (jx K (pv 3) (Jo U3 (pv 5) Ji)) (J1 (jx K (pv 3) (pv 5)) (J1 (fz Zz hr (dz (pv 0) (pv 3) (pv 5))) J4)))))))) (Jl (Pu.pz 3 Kj.nd (fz Zy hr (bz (pv 3) (pv 5)))) (Jk (Pu.pz 5 Kj.nd (fz Zr hr (bz (pv 3) (pv 2)))))))) (Jk (Jt (pv 4))))))))), (Jm (UW (Js (tz (Jg 0) (Jg 1)))) (Jm (Jr (Ua (UE (Jg 0)) (X4 (Uj (Jj 0) (Uj (Jj 1) Xy))) Xc (PK (Jg 2) (sz (Jg 0)))) (Jj 2)) (Jm (Jr (Js (sz (Jg 0))) (Jj 3)) (Jm (Jr (JG J2) (Jj 4)) (Jm (Jr (Js (tz (Jg 3) (Jg 2))) (Jj 5)) (Jm (NG [] (Jz (UK (Jg 5) Jh)) (Jm (J0 5 (XG 4 (Uk (JA (Jg 5) (JA (Ju (Jg 3) (U5 (Jg 5) Jh)) (JA (Ju (Jg 3) (Jg 5)) (JA (Js (uz (Jg 0) (Jg 3) (Jg 5))) J2))))))) (Jm (Jr (Js (tz (Jg 3) (Jg 5))) (Jj 3)) (Jr (Js (tz (Jg 3) (Jg 2))) (Jj 5))))) (U0 4)))))))⟩) (.a fun ds R X h=>?_)
 ·obtain⟨ps,o,rfl,hF,hz,hp,hR⟩:=h;refine⟨rfl,?_⟩;have hh:=Xr ps;have hol:=hp.length_eq;have hin:=B8 hF hp;refine⟨ps,o,rfl,hF,by omega,by omega,?_⟩;rw[A5 hp];refine Uh (xs:=ps) (emb:=prD) (fun q=>some (.int (o.idxOf q.1:Nat))) (by omega) (fun q hq=>?_) ?_
  ·exact⟨rfl,⟨_,rfl⟩,o,rfl,hin q hq,_,rfl,rfl⟩
  rw[mapD (fun q:Int×Int=>D.int (o.idxOf q.1:Nat))];have er:ps.map (fun q:Int×Int=>D.int (o.idxOf q.1:Nat))=(ps.map fun q:Int×Int=>((o.idxOf q.1:Nat):Int)).map D.int:=by rw[YK];rfl
  rw[er];generalize ers:(ps.map fun q:Int×Int=>((o.idxOf q.1:Nat):Int))=rs;have lrs:rs.length=ps.length:=by rw[←ers,Ya]
  have rk:∀m:Int,1<=m/\m<=ps.length->rs.getD (m-1).toNat 0=rkN ps o m:=fun m hm=>by
   have hi:(m-1).toNat<ps.length:=by omega
   rw[←ers];unfold rkN hdN;rw[Yd,Yd,Yj,ZZ hi];rfl
  have keys:∀ns:List Int,ns.Perm (runI 1 ps.length)->ns.map (fun m=>rs.getD (m-1).toNat 0)=ns.map (rkN ps o):=fun ns hn=>Ww fun m hm=>rk m (runI_mem.mp (hn.mem_iff.mp hm))
  have inr:∀ns:List Int,ns.Perm (runI 1 ps.length)->∀m∈ns,1<=m/\m<=rs.length:=fun ns hn m hm=>by
   have:=runI_mem.mp (hn.mem_iff.mp hm)
   omega
  refine⟨ps,rfl,by omega,by simp,?_⟩;refine⟨_,rs,rfl,inr _ (.refl _),by rw[Tv];omega,fun p0 hw0=>?_⟩;rw[keys _ (.refl _)]at hw0
  have e0:∀ns:List Int,ns.Perm (runI 1 ps.length)->cntN (fun m=>rs.getD (m-1).toNat 0) ns=cntN (rkN ps o) ns:=fun ns hn=>by
   unfold cntN;congr 1;exact Ww fun m hm=>by show(rs.getD (m-1).toNat 0,(1:Int))=_;rw[rk m (runI_mem.mp (hn.mem_iff.mp hm))]
  have b0:=TZ (rkN ps o) (runI 1 ps.length)
  have nn:((ps.length:Int))*ps.length<=1600:=by
   have:=Int.mul_le_mul (a:=(ps.length:Int)) (b:=ps.length) (c:=40) (d:=40) (by omega) (by omega) (by omega) (by omega)
   omega
  rw[Tv]at b0;refine Bm (fun γ'=>∃(ns:List Int) (ms0:List Mo) (p:Nat),FW (ns.map (rkN ps o)) p/\ns.Perm (runI 1 ps.length)/\(∀ms,Mv ps (rkN ps o) ns ms->Mv ps (rkN ps o) (runI 1 ps.length) (ms0++ms))/\(ms0.length:Int)+cntN (rkN ps o) ns=cntN (rkN ps o) (runI 1 ps.length)/\γ'=[some (.bor (plD ps)),some (.bor (.lst (o.map D.int))),some (.own (rs.map D.int)),some (.own (ns.map D.int)),some (.own (ms0.map mvD)),some (.sh (.int p))]) mvN ⟨runI 1 ps.length,[],p0,hw0,.refl _,fun ms h=>h,by simp,rfl⟩ ?_;rintro γ' ⟨ns,ms0,p,hw,hn,hM,hc,rfl⟩;have hl:ns.length=ps.length:=by rw[hn.length_eq,Tv]
  have b1:=TZ (rkN ps o) ns;refine ite2 (fun g=>?_) (fun g=>?_)
  ·have g':0<((p:Nat):Int):=Ys g;obtain⟨h1,h2,h3⟩:=hw.2.resolve_left (by omega);rw[Ya]at h2;rw[XJ h2,XJ (by omega)]at h3;have hs:=F1 (rkN ps o) h1 h2 h3;have hn2:(Ur ns p).Perm (runI 1 ps.length):=(Fz h1 h2).trans hn;have b2:=TZ (rkN ps o) (Ur ns p)
   have ix:∀(i:Nat) (k:Int),i<ns.length->k=(i:Int)->atI (ns.map D.int) k=some (.int (ns.getD i 0)):=fun i k hi e=>by
    rw[e];exact Xi (f:=D.int) (Td (by rw[Yd,ZZ hi];rfl))
   have lm:(ms0.map mvD).length=ms0.length:=Ya ..;have inn:∀m∈ns,1<=m/\m<=ps.length:=fun m hm=>runI_mem.mp (hn.mem_iff.mp hm);refine⟨_,ix (p-1) _ (by omega) (by omega),_,ix p _ h2 rfl,?_⟩;refine⟨ps,ns,p,rfl,hF,inn,by omega,by omega,by simp,by omega,?_⟩;refine⟨ns,p,rfl,by omega,by omega,by omega,?_⟩;rw[YF];refine⟨Ur ns p,rs,rfl,inr _ hn2,by rw[Hf h1 h2];omega,fun p' hw'=>?_⟩;rw[keys _ hn2]at hw';refine⟨⟨Ur ns p,ms0++[((p:Int),ns.getD (p-1) 0,ns.getD p 0,exM ps ns p)],p',hw',hn2,fun ms hms=>?_,?_,?_⟩,?_⟩
   ·rw[Qh];exact hM _ (.step ns p ms hw (by omega) hms)
   ·rw[Yn,YZ];omega
   ·rw[Yt];rfl
   ·show(cntN _ (((Ur ns p).map D.int).map toI)).toNat<(cntN _ ((ns.map D.int).map toI)).toNat;rw[NS,NS,NS,e0 _ hn2,e0 _ hn];omega
  ·have g':¬0<((p:Nat):Int):=fun z=>g (Yh z);have hp0:p=0:=by omega
   subst hp0
   have:=hM [] (.done ns hw)
   rw[Wd]at this;exact hR ms0 this
def Mt(G:Glob K mg)(DD:Def K mg "find_ring" NV ["holders","wishes"])(Z0:F5 P w K mg base)
  : FE P w K mg base:=by
 refine DD.oz (k:=2) KN (fun _ _ _ _ _ _ E hr=>⟨_,(Jl (Pu.pz 2 KN.nd (JF J4)) (Jl (JS Y8 rfl (JI (K:=K) (JY (NK (K:=K) (w:=w) rfl) (by rfl) G.sorted boot_sorted (az (pv 0)))) (gz 3 KN.nd) (Jl (Pu.pz 4 KN.nd (fz Z0 hr (dz (pv 3) (pv 0) (pv 1)))) (Jk (J5 (PW.pt (XN (JW (K:=K) (pv 4)) (Kz (PW.pt (U8 (U9 (JW (K:=K) (pv 2))) (UJ (JE TM (ln K G.len (pv 4)) (ln K G.len (pv 2)) (JJ _)))))))) (Jk (Pu.pz 2 KN.nd (pv 4)))
   J7)))) (Jk (Jt (pv 2))))), (Jm (Jr (JG J2) (Jj 2)) (Jm (J0 2 (JQ [3,4] (Uy (NA (sz (Jg 0)))) (Jj 3) (Jm (Jr (Js (uz (Jg 3) (Jg 0) (Jg 1))) (Jj 4)) (J6 (XU (JX (Jg 4)) (U7 (U4 (JX (Jg 2))) (Jz (To (JH (sz (Jg 4))) (JH (sz (Jg 2))))))) (J0 4 (Jr (Jg 4) (Jj 2))) J9)))) (J0 2 (U0 2))))⟩) (.a fun ds R X h=>?_)
 ·obtain⟨hs,ws,rfl,hz,hN,hR⟩:=h;refine⟨rfl,?_⟩;refine⟨by simp,hs,rfl,by omega,fun ns hp hsrt=>?_⟩;refine⟨rfl,Uv (xs:=ns) (emb:=D.int) (fun i γ'=>γ'=[some (.bor (.lst (hs.map D.int))),some (.bor (.lst (ws.map prD))),some (.sh (.lst [])),none,none]) rfl ?_ ?_⟩
  ·rintro i hi γ' rfl;have hl:=hN ns[i] (hp.mem_iff.mp (Yr hi));generalize ns[i]=l at hl ⊢;exact⟨l,hs,ws,rfl,hz,hl,rfl⟩
  ·rintro γ' rfl;exact hR
def IY(G:Glob K mg)(DD:Def K mg "least_costs" SE ["strips","wishes","pairs"])(Z1:DV P w K mg base)(Zb:Kr P w K mg base)(Z2:FU P w K mg base)(Z3:Eg P w K mg base)
  : NC P w K mg base:=by
 refine DD.oz (k:=2) PB (fun _ _ _ _ _ _ E hr=>⟨_,(Jl (Pu.pz 3 PB.nd (Mf (JP hr) (Ui J4) Ji)) (Jl (JS Y8 rfl (JI (K:=K) (Pr (Pf (K:=K)) (fz Z1 hr (az (fz Zb hr (az (pv 0))))) (Pt Ji) KW)) (gz 4 PB.nd) (Jl (Kf (N':=["holder","members","wishes"]) (φ:=[none,some 4,some 1]) (i:=5) PB.nd rfl rfl rfl (Own.CompOk.of (by rfl)) (KE (K:=K) (pv 4)) (fun _ _ _ _ _=>⟨(gz 0 (show(["holder","members","wishes"]:List Str).Nodup from by decide +kernel)),(Xe (JW (K:=K) (fz Z2 hr (dz (pv 1) (pv 0) (pv 2))))),(pv 0)⟩)) (Jk (Bi (JP hr) (pv 3) (pv 4) (JY (E8 (K:=K) rfl) (by rfl) G.min boot_min (az (Us (N':=["last","members","least","pairs"]) (φ:=[none,some 4,some 3,some 2]) rfl (Own.CompOk.of (by rfl)) (JI (K:=K) (pv 5)) (fun _ _ _ _ _=>⟨(gz 0 (show(["last","members","least","pairs"]:List Str).Nodup from by decide +kernel)),UO,(fz Z3 hr (J1 (pv 1) (J1 (pv 0) (J1 (pv 2) (J1 (pv 3) J4)))))⟩)))) rfl)))) (Jk (Jt (pv 3))))), (Jm (Jr (RM (Uk J2) Jh) (Jj 3)) (Jm (JQ [4,5] (Uy (KG (Js (sz (Js (sz (Jg 0))))) (Pz Jh) Pd)) (Jj 4) (Jm (Jr (Ua (SndI.c (Px (Jg 4))) (Jj 0) (JX (Js (uz (Jg 1) (Jg 0) (Jg 2)))) (Jg 0)) (Jj 5)) (NO 3 (Jg 4) (Rl (sz (Ua (UE (Jg 5)) (Jj 0) Xc (Js (JA (Jg 1) (JA (Jg 0) (JA (Jg 2) (JA (Jg 3) J2))))))))))) (U0 3)))⟩) (.a fun ds R X h=>?_)
 ·obtain⟨ps,ws,pa,c,rfl,hF,hz,hw,hu,hc,hL,hR⟩:=h;refine⟨rfl,?_⟩;refine⟨by simp,_,_,rfl,rfl,?_⟩;refine⟨ps,rfl,hF,hz,_,rfl,Xr ps,?_⟩;have hh:=Xr ps;have nd:(Jp ps).Nodup:=(UN ps).imp (fun h=>WK h);generalize Jp ps=hs at hh nd hc hL hR ⊢;have hsl:=Ex hs;have hsub:=Pb hs;have hbef:=Cb nd;have hsn:=AS nd
  have hlen:(J3 hs).length<=1024:=by
   rw[hsl];exact Nat.pow_le_pow_right (j:=10) (by decide) hh
  obtain⟨T,eT⟩:=HG hs;rw[eT]at hsub hbef hsn hlen hR ⊢;refine⟨rfl,rfl,?_⟩
  have ec:Pu.cutD (List.map tD ([]::T)) (some 1) none=T.map tD:=by
   rw[KQ,SL _ (by decide)];rfl
  rw[ec];refine Uv (xs:=T) (emb:=tD) (fun i γ'=>∃kvs:List (List Key×V),γ'=[some (.bor (.lst (ps.map prD))),some (.bor (.lst (ws.map prD))),some (.bor (.dT pa)),some (.own (.dT kvs)),none,none]/\Tab ws c ([]::T.take i) kvs) ⟨_,rfl,Gd ws c⟩ ?_ ?_
  ·rintro i hi γ' ⟨kvs,rfl,ht⟩;have em:([]::T)[i+1]?=some T[i]:=by rw[WW,ZZ hi]
   have hmem:T[i]∈[]::T:=Y4 em;have hsm:=hsub _ hmem;have hne:T[i]≠[]:=fun e=>(YG.mp hsn).1 (e▸Yr hi)
   have hnew:T[i]∉[]::T.take i:=fun z=>by
    rcases Yo.mp z with z|z
    ·exact hne z
    ·obtain⟨j,hj,e⟩:=YJ.mp z;rw[YD]at hj;rw[WQ]at e;exact YE.mp (YG.mp hsn).2 j i (by omega) hi (by omega) e
   have hml:T[i].length<=10:=Yx hsm.length_le hh
   have hless:∀l∈T[i],Jw T[i] l∈[]::T.take i:=fun l hl=>by
    obtain⟨j,hj,e⟩:=hbef (i+1) _ em l hl
    have:([]::T.take i)=([]::T).take (i+1):=by rw[List.take_succ_cons]
    rw[this];refine Y4 (i:=j) ?_;rw[Wq hj];exact e
   have ndm:T[i].Nodup:=nd.sublist hsm
   have hkl:kvs.length<=1024:=by
    have:=YS List.length ht.keys
    rw[Ya,Ya,Y3,YD]at this;rw[Y3]at hlen;omega
   have etk:[]::T.take (i+1)=([]::T.take i)++[T[i]]:=by rw[Y1 hi];rfl
   rw[etk];generalize T[i]=ms at *;obtain⟨vs,hvs⟩:=AZ fun l hl=>ht.val _ (hless l hl);obtain⟨l0,hl0,hl0'⟩:=hL ms hsm hne;refine⟨_,rfl,Uh (s:=.sh .non) (xs:=ms) (emb:=D.int) (fun h=>if UU ws ms h=true then some (.int h)else none) (by omega) (fun h hm=>?_) ?_⟩
   ·refine⟨ms,h,ws,rfl,hw,?_⟩;refine ite2 (fun g=>⟨_,rfl,Yg g⟩) (fun g=>Ye g)
   ·rw[US (fun h=>UU ws ms h)];refine Uh (xs:=ms.filter (fun h=>UU ws ms h)) (emb:=D.int) (fun l=>some (.int (vs l+((Jw ms l).map (c · l)).sum))) (Yx (Wk _ _) (by omega)) (fun l hl=>?_) ?_
    ·obtain⟨hl1,hl2⟩:=Y9.mp hl;exact⟨ms,l,kvs,pa,(c · l),vs l,rfl,by omega,(hvs l hl1).1,fun m hm=>hc m (hsm.subset (less_sub.subset hm)) l (hsm.subset hl1),_,rfl,rfl⟩
    ·rw[mapD];refine⟨(ms.filter (fun h=>UU ws ms h)).map fun l=>vs l+((Jw ms l).map (c · l)).sum,by rw[YK];rfl,?_,fun M hM hle=>⟨_,_,PP ms,rfl,by omega,_,rfl,ht.put hnew (R3 ndm hu (fun l hl=>(hvs l hl).2) ?_ ?_)⟩⟩
     ·rw[Ya];exact List.length_pos_of_mem (Y9.mpr ⟨hl0,lastM_iff.mpr hl0'⟩)
     ·obtain⟨l,hl,e⟩:=Y7.mp hM;obtain⟨hl1,hl2⟩:=Y9.mp hl;exact⟨l,hl1,hl2,e.symm⟩
     ·intro l hl hlast;exact hle _ (Y7.mpr ⟨l,Y9.mpr ⟨hl,hlast⟩,rfl⟩)
  ·rintro γ' ⟨kvs,rfl,ht⟩;rw[Wh]at ht;exact hR kvs ht
def MV(G:Glob K mg)(DD:Pu.DefM K (Mk K (ExcR.Jq mg "Village")) "__init__" "Village.__init__" B6 ["self","strips"])(Z4:Ed P w K mg base)
  : CA P w K mg base:=by
 refine DD.ox (k:=2) ER (fun _ _ _ _ _ _ E hr=>⟨_,(Jl (JL (UQ Z4 (hr.mono (by decide)) ExcR.X7 (az (pv 1)))) (Jl (NJ (pv 0) (JF J4) rfl) (Jl (NJ (pv 0) (JF (az (Xb (KL (K:=K)) (by rfl) G.list boot_list (az (pv 1))))) rfl) (Jk (NJ (pv 0) (JF (az (JF J4))) rfl))))), (Jm (UW (XZ (sz (Jg 1)))) (Jm (SD 0 G.cl_Village G.n_Village_book M6 (JG J2)) (Jm (SD 0 G.cl_Village G.n_Village_fields Lf (JG (sz (Pe (sz (Jg 1)))))) (SD 0 G.cl_Village G.n_Village_wished Hi (JG (sz (JG J2)))))))⟩) (.c fun o ss R X h=>?_)
 ·obtain⟨x,ps,rfl,rfl,hz,hR⟩:=h;refine⟨rfl,?_⟩;refine⟨ps,rfl,hz,?_⟩;cases e:K7 ps with
  |some c=>
   rw[e]at hR;exact⟨_,rfl,⟨rfl,by simp⟩,hR⟩
  |none=>
   rw[e]at hR;refine⟨by simp,rfl,rfl,by decide,fun b1=>?_⟩;refine⟨rfl,by simp,rfl,rfl,by decide,fun b2=>?_⟩;refine⟨by simp,by simp,rfl,rfl,by decide,fun b3=>?_⟩;exact⟨_,rfl,⟨rfl,by simp⟩,hR b1 b2 b3⟩
def Zap(G:Glob K mg)(DD:Pu.DefM K (Meth K (ExcR.Jq mg "Village") "wish") "wish" "Village.wish" B7 ["self","ahead","behind"])(Z5:BF P w K mg base)(Z6:Fm P w K mg base)(Z7:FX P w K mg base)(Zh:TK P w K mg base)(Zd:Kp P w K mg base)
  : Fq P w K mg base:=by
 refine DD.ox (k:=2) CZ (fun _ _ _ _ _ _ E hr=>⟨_,(Jl (JL (Uq Z5 G.cl_Village (hr.mono (by decide)) ExcR.X7 (pv 0))) (Jl (Pu.pz 3 CZ.nd (UQ Z6 (hr.mono (by decide)) ExcR.X7 (dz (Uq Zh G.cl_Village (hr.mono (by decide)) Um (pv 0)) (pv 1) (pv 2)))) (Jk (Jt (FV Z7 G.cl_Village (hr.mono (by decide)) Um (pv 0) (dz (Ui (dz T7 (pv 1) (pv 2))) (Uq Zd G.cl_Village (hr.mono (by decide)) Um (pv 0)) (pv 3))))))), (Jm (UW (Za1 Hk (Jg 0) J2)) (Jm (Jr (XZ (uz (Ux BB (Jg 0) J2) (Jg 1) (Jg 2))) (Jj 3)) (J0 2 (J0 1 (J0 3 (O5 (Fg 0 Zat (uz (Uk (uz Ti (Jg 1) (Jg 2))) (Ux K8 (Jg 0) J2) (Jg 3)))))))))⟩) (.c fun o ss R X h=>?_)
 ·obtain⟨x,b1,b2,b3,bk,fs,ws,f,w,p,h,rfl,rfl,hb,hf,hw,hz,hR⟩:=h;refine⟨rfl,?_⟩;unfold Sk at hR;refine⟨rfl,rfl,bk,fs++[f],ws++[w],rfl,?_⟩;unfold SO;by_cases c:100<=bk.length
  ·rw[Yg c]at hR ⊢;exact⟨_,rfl,⟨rfl,by simp⟩,hR⟩
  ·rw[Ye c]at hR ⊢;refine⟨rfl,rfl,bk,fs++[f],ws,w,rfl,w,p,h,rfl,hz,?_⟩;cases e:Xg w p h with
   |some c=>
    rw[e]at hR;exact⟨_,rfl,⟨rfl,by simp⟩,hR⟩
   |none=>
    rw[e]at hR;refine⟨rfl,rfl,by simp,rfl,rfl,bk,fs,ws++[w],f,rfl,?_⟩;exact⟨x,b1,b2,b3,bk,fs++[f],ws++[w],("wish",[p,h]),f,w++[(p,h)],rfl,rfl,hb,by rw[Yn];simp;omega,by rw[Yn];simp;omega,_,rfl,⟨rfl,by simp⟩,hR⟩
def Ge(G:Glob K mg)(DD:Def K mg "_law_strips" B0 ["_law_script","_law_menu_here","_law_many"])(Ze:P3 P w K mg base)(Zk:Bs P w K mg base)
  : BL P w K mg base:=by
 refine DD.oz (k:=2) KU (fun _ _ _ _ _ _ E hr=>⟨_,(Jl (Pu.pz 3 KU.nd (JF J4)) (Jl (JS Y8 rfl (Xf rfl G.range (az (pv 2))) (gz 4 KU.nd) (Jl (Pu.pz 5 KU.nd (fz Ze hr (bz (pv 0) (Jo Ud Ji (pv 4))))) (Jl (Pu.pz 6 KU.nd (Jo Ud (jx K (pv 1) Ji) (Jo JM (Jo U1 (pv 5) (jx K (pv 1) Ji)) (jx K (pv 1) Ji)))) (Jk (JL (Uw Y5 YH YI UI (pv 3) (az (Ui (bz (fz Zk hr (bz (pv 1) (Jo JM (pv 5) (jx K (pv 1) Ji)))) (pv 6)))))))))) (Jk (Jt (pv 3))))), (Jm (Jr (JG J2) (Jj 3)) (Jm (JQ [4,5,6] (Xj (sz (Jg 2))) (Jj 4) (Jm (Jr (Js (tz (Jg 0) (Ub Jh (Jg 4)))) (Jj 5)) (Jm (Jr (Ub (Ju (Jg 1) Jh) (JU (UG (Jg 5) (Ju (Jg 1) Jh)) (Ju (Jg 1) Jh))) (Jj 6)) (J0 6 (XG 3 (Uk (tz (Js (tz (Jg 1) (JU (Jg 5) (Ju (Jg 1) Jh)))) (Jg 6)))))))) (U0 3)))⟩) (.a fun ds R X h=>?_)
 ·obtain⟨ns,m,n,rfl,hM,h0,h1,hR⟩:=h;refine⟨rfl,?_⟩;have hMM:=hM;obtain⟨a,b,c,d,e,rfl,ha,hb,hc,hd,he⟩:=hM;refine⟨by simp,⟨by omega,by omega⟩,X9 (fun i γ'=>∃ps:List (Int×Int),γ'=[some (.bor (.scr ns)),some (.bor (.lst (([a,b,c,d,e]:List Int).map D.int))),some (.sh (.int n)),some (.own (ps.map prD)),none,none,none]/\Field ps/\ps.length=i) ⟨[],rfl,(fun q hq=>by cases hq),rfl⟩ ?_ ?_⟩
  ·rintro i γ' hi ⟨ps,rfl,hF,hl⟩;have hlm:(ps.map prD).length=ps.length:=Ya ..;have hi':i<n.toNat:=hi;refine⟨ns,_,rfl,by omega,fun v=>?_⟩;have q1:=Qd (v / a) (show d≠0 by omega);have q2:=WJ (v / a) (show 0<d by omega);refine⟨_,rfl,_,rfl,⟨by omega,by omega⟩,_,rfl,(by show 0<d;omega),_,rfl,(by show 0<a;omega),[a,b,c,d,e],_,rfl,hMM,fun h l1 l2 _=>⟨by simp,by omega,ps++[(h,e+v / a % d)],?_,fun q hq=>?_,by rw[Yn,hl];rfl⟩⟩
   ·rw[Yt];rfl
   ·rcases Yz.mp hq with hq|hq
    ·exact hF q hq
    ·rw[Yf]at hq;subst hq;exact⟨l1,l2,by show 1<=e+v / a % d;omega,by show e+v / a % d<=1000;omega⟩
  ·rintro γ' ⟨ps,rfl,hF,hl⟩;exact hR ps hF hl
def Ow(G:Glob K mg)(DD:Def K mg "_law_wishes" SR ["_law_script","_law_menu_here"])(Ze:P3 P w K mg base)(Zk:Bs P w K mg base)
  : Dm P w K mg base:=by
 refine DD.oz (k:=2) Xd (fun _ _ _ _ _ _ E hr=>⟨_,(Jl (Pu.pz 2 Xd.nd (fz Ze hr (bz (pv 0) Ji))) (Jl (Pu.pz 3 Xd.nd (jx K (JF (bz Ji (JY (Hn rfl) (by rfl) G.max boot_max (bz Ji (jx K (pv 1) Ji))))) (Jo JM (Jo U1 (pv 2) Ji) Ji))) (Jl (Pu.pz 4 Xd.nd (JF J4)) (Jl (JS Y8 rfl (Xf rfl G.range (az (Jo JM (pv 2) Ji))) (gz 5 Xd.nd) (Jl (Pu.pz 6 Xd.nd (fz Ze hr (bz (pv 0) (Jo Ud Ji (pv 5))))) (Jl (Pu.pz 7 Xd.nd (Jo JM (pv 6) (pv 3))) (Jl (Pu.pz 8 Xd.nd (Jo JM (Jo Ud (Jo Ud (pv 7) Ji) (Jo JM (Jo U1 (pv 6) (pv 3)) (Jo U3 (pv 3) Ji))) (pv 3))) (Sq (J5 (PW.pt (XN (JE UF (Jo JM (Jo U1 (pv 2) Ji) Ji) Ji (JJ _)) (Kz (JE UF (pv 7) (pv 8) (JJ _))))) (Jk (OS (i:=7) (j:=8) rfl Xd.nd rfl rfl (by decide) rfl rfl (bz (pv 8) (pv 7)) (by rfl)))
   J7) (Jl (Pu.pz 9 Xd.nd (Ui (bz (fz Zk hr (bz (pv 1) (pv 7))) (fz Zk hr (bz (pv 1) (pv 8)))))) (Jk (J5 (JE (P5 (K:=K) (show _<cLine from JP hr)) (pv 9) (pv 4) (by with_unfolding_all rfl)) (Jk (JL (Uw Y5 YH YI UI (pv 4) (az (pv 9)))))
   J7)))))))) (Jk (Jt (pv 4))))))), (Jm (Jr (Js (tz (Jg 0) Jh)) (Jj 2)) (Jm (Jr (Ju (JG (tz Jh (Gy (tz Jh (Ju (Jg 1) Jh))))) (JU (UG (Jg 2) Jh) Jh)) (Jj 3)) (Jm (Jr (JG J2) (Jj 4)) (Jm (JQ [5,6,7,8,9] (Xj (sz (JU (Jg 2) Jh))) (Jj 5) (Jm (Jr (Js (tz (Jg 0) (Ub Jh (Jg 5)))) (Jj 6)) (Jm (Jr (JU (Jg 6) (Jg 3)) (Jj 7)) (Jm (Jr (JU (Ub (Ub (Jg 7) Jh) (JU (UG (Jg 6) (Jg 3)) (U5 (Jg 3) Jh))) (Jg 3)) (Jj 8)) (NQ (J6 (XU (Jz (UK (JU (UG (Jg 2) Jh) Jh) Jh)) (Jz (UK (Jg 7) (Jg 8)))) (J0 7 (J0 8 (Ih (tz (Jg 8) (Jg 7))))) J9) (Jm (Jr (Uk (tz (Js (tz (Jg 1) (Jg 7))) (Js (tz (Jg 1) (Jg 8))))) (Jj 9)) (J6 (Jz (UC (Jg 9) (Jg 4))) (J0 9 (XG 4 (Jg 9))) J9))))))) (U0 4)))))⟩) (.a fun ds R X h=>?_)
 ·obtain⟨ns,m,rfl,hM,hR⟩:=h;refine⟨rfl,?_⟩;have hMM:=hM;obtain⟨a,b,c,d,e,rfl,ha,hb,hc,hd,he⟩:=hM;refine⟨ns,1,rfl,by decide,fun how=>?_⟩
  have hpool:∃p:Int,atI [D.int 10,.int (if a>2 then a else 2)] (how / 63 % 2)=some (.int p)/\2<=p/\p<=10:=by
   have:how / 63 % 2=0\/how / 63 % 2=1:=by omega
   rcases this with e|e<;>rw[e]
   ·exact⟨10,rfl,by decide,by decide⟩
   ·exact⟨_,rfl,by split<;>omega,by split<;>omega⟩
  obtain⟨pool,ep,hp⟩:=hpool;refine⟨_,rfl,by simp,⟨by decide,by decide⟩,(by show(0:Int)<2;decide),_,ep,by simp,(by show(0:Int)<21;decide),⟨by omega,by omega⟩,X9 (fun i γ'=>∃ws:List (Int×Int),γ'=[some (.bor (.scr ns)),some (.bor (.lst (([a,b,c,d,e]:List Int).map D.int))),some (.sh (.int how)),some (.sh (.int pool)),some (.own (ws.map prD)),none,none,none,none,none]/\X8 ws/\ws.length<=i) ⟨[],rfl,EV,Yi _⟩ ?_ ?_⟩
  ·rintro i γ' hi ⟨ws,rfl,hW,hl⟩;have hi':i<(how % 21).toNat:=hi;have hlm:(ws.map prD).length=ws.length:=Ya ..;refine⟨ns,_,rfl,by omega,fun cell=>?_⟩;refine⟨(by show 0<pool;omega),⟨by omega,by omega⟩,(by show 0<pool-1;omega),(by show 0<pool;omega),?_⟩
   have fit:(0<=cell % pool/\cell % pool<=9)/\(0<=(cell % pool+1+cell / pool % (pool-1)) % pool/\(cell % pool+1+cell / pool % (pool-1)) % pool<=9)/\cell % pool≠(cell % pool+1+cell / pool % (pool-1)) % pool:=by
    have g1:=Qd cell (show pool≠0 by omega);have g2:=WJ cell (show 0<pool by omega);have g3:=Qd (cell / pool) (show pool-1≠0 by omega);have g4:=WJ (cell / pool) (show 0<pool-1 by omega);obtain⟨⟨k1,k2⟩,k3⟩:=two_ne ⟨g1,g2⟩ ⟨g3,g4⟩;exact⟨⟨g1,by omega⟩,⟨k1,by omega⟩,k3⟩
   refine Sm (fun γ'=>∃(o t:Int) (t1 t2:Option S),((0<=o/\o<=9)/\(0<=t/\t<=9)/\o≠t)/\γ'=[some (.bor (.scr ns)),some (.bor (.lst (([a,b,c,d,e]:List Int).map D.int))),some (.sh (.int how)),some (.sh (.int pool)),some (.own (ws.map prD)),t1,t2,some (.sh (.int o)),some (.sh (.int t)),none]) ?_ ?_
   ·refine⟨⟨by decide,by decide⟩,(by show(0:Int)<3;decide),ite2 (fun _=>ite2 (fun _=>?_) (fun _=>?_)) (fun _=>iteF ?_)⟩
    ·exact⟨_,_,_,_,⟨fit.2.1,fit.1,fun z=>fit.2.2 z.symm⟩,rfl⟩
    ·exact⟨_,_,_,_,fit,rfl⟩
    ·exact⟨_,_,_,_,fit,rfl⟩
   ·rintro γ' ⟨o,t,t1,t2,hot,rfl⟩;refine⟨_,_,rfl,hMM,fun h1 l1 l2 e1=>⟨_,_,rfl,hMM,fun h2 l3 l4 e2=>?_⟩⟩;have b3:=E1 hMM hot.1 hot.2.1 hot.2.2;refine⟨by simp,_,.lp (h1,h2) ws,ite2 (fun g=>?_) (fun g=>?_)⟩
    ·have g':(h1,h2)∉ws:=fun z=>by rw[Yg rfl,Yh z]at g;cases g
     refine⟨by omega,ws++[(h1,h2)],?_,Gj hW (FS ⟨l1,l2⟩ ⟨l3,l4⟩ (by rw[e1,e2];exact b3) g' (by omega)),?_⟩
     ·rw[Yt];rfl
     ·rw[Yn,YZ];omega
    ·exact⟨ws,rfl,hW,by omega⟩
  ·rintro γ' ⟨ws,rfl,hW,hl⟩;exact hR ws hW
def RZ(G:Glob K mg)(DD:Def K mg "check_no_ring" SB ["strips","wishes"])(Z8:FE P w K mg base)(Zb:Kr P w K mg base)
  : Nr P w K mg base:=by
 refine DD.oz (k:=3) Az (fun _ _ _ _ _ _ E hr=>⟨_,(Jl (Pu.pz 2 Az.nd (fz Z8 hr (bz (fz Zb hr (az (pv 0))) (pv 1)))) (Jk (J5 (JW (K:=K) (pv 2)) (Jk RF)
   J7))), (Jm (Jr (Js (tz (Js (sz (Jg 0))) (Jg 1))) (Jj 2)) (J6 (JX (Jg 2)) OT J9))⟩) (.a fun ds R X h=>?_)
 ·obtain⟨ps,ws,rfl,hF,hz,hu,hN,hR⟩:=h;refine⟨rfl,?_⟩;exact⟨ps,rfl,hF,hz,_,ws,rfl,Yx (Xr ps) (by decide),fun l hl t=>Mp hu hN hl _ t (Yi _),iteF (A:=False) hR⟩
def IL(G:Glob K mg)(DD:Def K mg "cost_table" Bw ["strips","wishes"])(Zo:Nr P w K mg base)(Zp:NC P w K mg base)(Zq:SG P w K mg base)
  : DZ P w K mg base:=by
 refine DD.oz (k:=4) FA (fun _ _ _ _ _ _ E hr=>⟨_,(Jl (JL (fz Zo hr (bz (pv 0) (pv 1)))) (Jl (Pu.pz 2 FA.nd (fz Zp hr (dz (pv 0) (pv 1) (fz Zq hr (az (pv 0)))))) (Jk (Jt (Xb (Of rfl) (by rfl) G.list boot_list (J1 (Zar (K:=K) (pv 2)) J4)))))), (Jm (UW (Js (tz (Jg 0) (Jg 1)))) (Jm (Jr (Js (uz (Jg 0) (Jg 1) (Js (sz (Jg 0))))) (Jj 2)) (Jy (MD (Jg 2)))))⟩) (.a fun ds R X h=>?_)
 ·obtain⟨ps,ws,rfl,hF,hz,hw,hu,hN,hR⟩:=h;refine⟨rfl,?_⟩;refine⟨ps,ws,rfl,hF,hz,hu,hN,ps,rfl,hF,hz,fun pa hpa=>⟨ps,ws,pa,pcc ps,rfl,hF,hz,hw,hu,hpa,Ef hu hN,fun kvs T=>?_⟩⟩;have nd:(Jp ps).Nodup:=(UN ps).imp (fun h=>WK h);obtain⟨vs,e,hv⟩:=T.vals (AS nd);obtain⟨e1,e2⟩:=Aw e;refine⟨kvs,rfl,e1,?_⟩;rw[e2];exact hR vs hv
def ME(G:Glob K mg)(DD:Def K mg "best_order" Ny ["strips","wishes"])(Zo:Nr P w K mg base)(Zq:SG P w K mg base)(Zp:NC P w K mg base)(Zb:Kr P w K mg base)(Zf:T1 P w K mg base)(Z9:FM P w K mg base)(ZA:AG P w K mg base)
  : Co P w K mg base:=by
 refine DD.oz (k:=4) X2 (fun _ _ _ _ _ _ E hr=>⟨_,(Jl (JL (fz Zo hr (bz (pv 0) (pv 1)))) (Jl (Pu.pz 2 X2.nd (fz Zq hr (az (pv 0)))) (Jl (Pu.pz 3 X2.nd (fz Zp hr (dz (pv 0) (pv 1) (pv 2)))) (Jl (Pu.pz 4 X2.nd (Xb (Ew (K:=K)) (by rfl) G.tuple boot_tuple (az (fz Zb hr (az (pv 0)))))) (Jl (Pu.pz 5 X2.nd (JF J4)) (Jl (T8 Y8 (JW (K:=K) (pv 4)) (Jl (Kf (N':=["holder","members","wishes"]) (φ:=[none,some 4,some 1]) (i:=6) X2.nd rfl rfl rfl (Own.CompOk.of (by rfl)) (KE (K:=K) (pv 4)) (fun _ _ _ _ _=>⟨(gz 0 (show(["holder","members","wishes"]:List Str).Nodup from by decide +kernel)),(Xe (JW (K:=K) (fz Z9 hr (dz (pv 1) (pv 0) (pv 2))))),(pv 0)⟩)) (Jl (Kf (N':=["first","members","least","pairs"]) (φ:=[none,some 4,some 3,some 2]) (i:=7) X2.nd rfl rfl rfl (Own.CompOk.of (by rfl)) (JI (K:=K) (pv 6)) (fun _ _ _ _ _=>⟨(gz 0 (show(["first","members","least","pairs"]:List Str).Nodup from by decide +kernel)),(Xe (cq K hr (fz ZA hr (J1 (pv 1) (J1 (pv 0) (J1 (pv 2) (J1 (pv 3) J4))))) (KA (JP hr) (pv 2) (pv 1) (fun _ _=>rfl)))),(pv 0)⟩)) (Jl (JL (Uw Y5 YH YI UI (pv 5) (az (jx K (pv 7) Ji)))) (Jk (Pu.pz 4 X2.nd (fz Zf hr (bz (pv 4) (jx K (pv 7) Ji))))))))) (Jk (Jt (pv 5))))))))), (Jm (UW (Js (tz (Jg 0) (Jg 1)))) (Jm (Jr (Js (sz (Jg 0))) (Jj 2)) (Jm (Jr (Js (uz (Jg 0) (Jg 1) (Jg 2))) (Jj 3)) (Jm (Jr (DP (sz (Js (sz (Jg 0))))) (Jj 4)) (Jm (Jr (JG J2) (Jj 5)) (Jm (NG [6,7] (JX (Jg 4)) (Jm (Jr (Ua (SndI.c (Px (Jg 4))) (Jj 0) (JX (Js (uz (Jg 1) (Jg 0) (Jg 2)))) (Jg 0)) (Jj 6)) (Jm (Jr (Ua (UE (Jg 6)) (Jj 0) (Jz (UA (Js (JA (Jg 1) (JA (Jg 0) (JA (Jg 2) (JA (Jg 3) J2))))) (Py (Jg 2) (Jg 1)))) (Jg 0)) (Jj 7)) (Jm (XG 5 (Ju (Jg 7) Jh)) (Jr (Js (tz (Jg 4) (Ju (Jg 7) Jh))) (Jj 4)))))) (U0 5)))))))⟩) (.a fun ds R X h=>?_)
 ·obtain⟨ps,ws,rfl,hF,hz,hw,hu,hN,hR⟩:=h;refine⟨rfl,?_⟩;refine⟨ps,ws,rfl,hF,hz,hu,hN,ps,rfl,hF,hz,fun pa hpa=>⟨ps,ws,pa,pcc ps,rfl,hF,hz,hw,hu,hpa,Ef hu hN,fun kvs T=>⟨ps,rfl,hF,hz,?_⟩⟩⟩;have hh:=Xr ps;have hri:=UN ps;have nd:(Jp ps).Nodup:=hri.imp (fun h=>WK h);have hpa':∀x∈Jp ps,∀y∈Jp ps,valV pa [.inl x,.inl y]=some (.int (pcc ps x y)):=hpa;generalize pcc ps=c at *;generalize Jp ps=hs at *
  refine⟨rfl,by simp,Bm (fun γ'=>∃(ms o:List Int),γ'=[some (.bor (.lst (ps.map prD))),some (.bor (.lst (ws.map prD))),some (.own (.dT pa)),some (.own (.dT kvs)),some (.sh (tD ms)),some (.own (o.map D.int)),none,none]/\ms∈J3 hs/\o.length+ms.length<=10/\
   ∀p,Best ws c ms p->Best ws c hs (o++p)) Om ⟨hs,[],rfl,List.mem_of_getLast? (Dq hs),by simpa using hh,fun p hp=>hp⟩ ?_⟩
  rintro γ' ⟨ms,o,rfl,hms,hol,hB⟩;show if (!(ms.map D.int).isEmpty)=true then _ else _;refine ite2 (fun g=>?_) (fun g=>?_)
  ·have hsm:=Pb hs ms hms;have hne:ms≠[]:=fun e=>by subst e;simp at g
   have ndm:ms.Nodup:=nd.sublist hsm;have hrm:=hri.sublist hsm
   have hless:∀l∈ms,Jw ms l∈J3 hs:=fun l hl=>by
    obtain⟨k,hk,e⟩:=YJ.mp hms;obtain⟨j,_,ej⟩:=Cb nd k ms (by rw[ZZ hk,e]) l hl;exact Y4 ej
   obtain⟨vs,hvs⟩:=AZ fun l hl=>T.val _ (hless l hl);obtain⟨V,hV1,hV2⟩:=T.val ms hms;have hv2:∀l∈ms,Least ws c (Jw ms l) (vs l):=fun l hl=>(hvs l hl).2
   have hsome:∃f rest,(ms.filter (fun h=>firstM ws ms h)).filter (fun f=>decide (vs f+((Jw ms f).map (c f)).sum=V))=f::rest:=by
    obtain⟨q,q1,q2,q3⟩:=hV2.is;cases q with
    |nil=>exact absurd q1.nil_eq.symm hne
    |cons g p=>
     obtain⟨r1,r2,r3,_⟩:=Ae ndm hu hv2 hV2 q1 q2 q3;exact List.exists_cons_of_ne_nil (List.ne_nil_of_mem (Y9.mpr ⟨Y9.mpr ⟨r1,r2⟩,Yh r3⟩))
   obtain⟨f,rest,ef⟩:=hsome;have hfm:f∈(ms.filter (fun h=>firstM ws ms h)).filter (fun f=>decide (vs f+((Jw ms f).map (c f)).sum=V)):=by rw[ef];exact Yy ..
   obtain⟨hfm,hf3⟩:=Y9.mp hfm;obtain⟨hf1,hf2⟩:=Y9.mp hfm
   have hmin:∀g∈ms,firstM ws ms g=true->vs g+((Jw ms g).map (c g)).sum=V->f<=g:=fun g h1 h2 h3=>by
    have hg:g∈(ms.filter (fun h=>firstM ws ms h)).filter (fun f=>decide (vs f+((Jw ms f).map (c f)).sum=V)):=Y9.mpr ⟨Y9.mpr ⟨h1,h2⟩,Yh h3⟩
    have hr:(f::rest).Pairwise (· < ·):=by
     rw[←ef];exact(hrm.filter _).filter _
    rw[ef]at hg;rcases Yo.mp hg with e|hg
    ·omega
    ·have:=(YN.mp hr).1 g hg
     omega
   refine⟨_,rfl,Uh (s:=.sh .non) (xs:=ms) (emb:=D.int) (fun h=>if firstM ws ms h=true then some (.int h)else none) (by omega) (fun h hm=>?_) ?_⟩
   ·refine⟨ms,h,ws,rfl,hw,?_⟩;refine ite2 (fun g=>⟨_,rfl,Yg g⟩) (fun g=>Ye g)
   ·rw[US (fun h=>firstM ws ms h)];refine Uh (xs:=ms.filter (fun h=>firstM ws ms h)) (emb:=D.int) (fun f=>if decide (vs f+((Jw ms f).map (c f)).sum=V)=true then some (.int f)else none) (Yx (Wk _ _) (by omega)) (fun l hl=>?_) ?_
    ·obtain⟨hl1,hl2⟩:=Y9.mp hl;refine⟨ms,l,kvs,pa,c l,vs l,rfl,by omega,(hvs l hl1).1,fun m hm=>hpa' l (hsm.subset hl1) m (hsm.subset (less_sub.subset hm)),_,_,PP ms,hV1,rfl,?_⟩;refine ite2 (fun g=>⟨_,rfl,Yg g⟩) (fun g=>Ye g)
    ·rw[US (fun f=>decide (vs f+((Jw ms f).map (c f)).sum=V)),ef];refine⟨_,P0 _ _,by rw[Ya];omega,_,P0 _ _,ms,f,rfl,by omega,⟨Jw ms f,o++[f],?_,hless f hf1,?_,fun p hp=>?_⟩,?_⟩
     ·rw[Yt];rfl
     ·have:=(Xk ndm hf1).length_eq
      rw[Yn];rw[Y3]at this;show o.length+1+_<=10;omega
     ·rw[Qh];exact hB _ (O7 ndm hu hv2 hV2 hf1 hf2 (Ys hf3) hmin hp)
     ·have:=(Xk ndm hf1).length_eq
      rw[Y3]at this;show((Jw ms f).map D.int).length<(ms.map D.int).length;rw[Ya,Ya];omega
  ·have e:ms=[]:=by
    cases ms with
    |nil=>rfl
    |cons a r=>exact absurd rfl g
   subst e
   have:=hB [] (Lw ws c)
   rw[Wd]at this;exact hR o this
def Lz(G:Glob K mg)(DD:Def K mg "least_cost" Nk ["strips","wishes"])(ZC:DZ P w K mg base)
  : DK P w K mg base:=by
 refine DD.oz (k:=5) Hm (fun _ _ _ _ _ _ E hr=>⟨_,(Jk (Jt (jx K (fz ZC hr (bz (pv 0) (pv 1))) (Kh XT Ji)))), (Jy (Ju (Js (tz (Jg 0) (Jg 1))) (K5 Jh)))⟩) (.a fun ds R X h=>?_)
 ·obtain⟨ps,ws,rfl,hF,hz,hw,hu,hN,hR⟩:=h;refine⟨rfl,?_⟩;refine⟨ps,ws,rfl,hF,hz,hw,hu,hN,fun vs hv=>?_⟩;have e1:=Dq (Jp ps);rw[List.getLast?_eq_getElem?]at e1;have hi:=(Y2.mp e1).1;have hl:=hv.1;obtain⟨v,h2⟩:∃v,vs[(J3 (Jp ps)).length-1]?=some v:=⟨_,ZZ (by omega)⟩;have L:=hv.2 _ _ _ e1 h2;rw[←hl]at h2;exact⟨_,Xi (f:=D.int) (TL h2),hR _ L⟩
def L4(G:Glob K mg)(DD:Pu.DefM K (Meth K (ExcR.Jq mg "Village") "order") "order" "Village.order" Sg ["self"])(ZD:Co P w K mg base)(Zd:Kp P w K mg base)(Zh:TK P w K mg base)
  : Tx P w K mg base:=by
 refine DD.oz (k:=5) Za2 (fun _ _ _ _ _ _ E hr=>⟨_,(Jk (Jt (fz ZD hr (bz (Uq Zd G.cl_Village (hr.mono (by decide)) Um (pv 0)) (Uq Zh G.cl_Village (hr.mono (by decide)) Um (pv 0)))))), (Jy (Js (tz (Ux K8 (Jg 0) J2) (Ux BB (Jg 0) J2))))⟩) (.a fun ds R X h=>?_)
 ·obtain⟨bk,fs,ws,f,w,rfl,hF,hz,hw,hu,hN,hR⟩:=h;refine⟨rfl,?_⟩;exact⟨rfl,rfl,bk,fs,ws++[w],f,rfl,rfl,rfl,bk,fs++[f],ws,w,rfl,f,w,rfl,hF,hz,hw,hu,hN,hR⟩
def LJ(G:Glob K mg)(DD:Pu.DefM K (Meth K (ExcR.Jq mg "Village") "cost") "cost" "Village.cost" BA ["self"])(ZE:DK P w K mg base)(Zd:Kp P w K mg base)(Zh:TK P w K mg base)
  : Ak P w K mg base:=by
 refine DD.oz (k:=6) GL (fun _ _ _ _ _ _ E hr=>⟨_,(Jk (Jt (fz ZE hr (bz (Uq Zd G.cl_Village (hr.mono (by decide)) Um (pv 0)) (Uq Zh G.cl_Village (hr.mono (by decide)) Um (pv 0)))))), (Jy (Js (tz (Ux K8 (Jg 0) J2) (Ux BB (Jg 0) J2))))⟩) (.a fun ds R X h=>?_)
 ·obtain⟨bk,fs,ws,f,w,rfl,hF,hz,hw,hu,hN,hR⟩:=h;refine⟨rfl,?_⟩;exact⟨rfl,rfl,bk,fs,ws++[w],f,rfl,rfl,rfl,bk,fs++[f],ws,w,rfl,f,w,rfl,hF,hz,hw,hu,hN,hR⟩
def O4(G:Glob K mg)(DD:Pu.DefM K (Meth K (ExcR.Jq mg "Village") "moves") "moves" "Village.moves" BE ["self"])(ZF:Ep P w K mg base)(Zd:Kp P w K mg base)(Zi:Tx P w K mg base)
  : FT P w K mg base:=by
 refine DD.oz (k:=6) Ri (fun _ _ _ _ _ _ E hr=>⟨_,(Jk (Jt (fz ZF hr (bz (Uq Zd G.cl_Village (hr.mono (by decide)) Um (pv 0)) (Uq Zi G.cl_Village (hr.mono (by decide)) Um (pv 0)))))), (Jy (Js (tz (Ux K8 (Jg 0) J2) (Ux Nu (Jg 0) J2))))⟩) (.a fun ds R X h=>?_)
 ·obtain⟨bk,fs,ws,f,w,rfl,hF,hz,hw,hu,hN,hR⟩:=h;refine⟨rfl,?_⟩;exact⟨rfl,rfl,bk,fs,ws++[w],f,rfl,rfl,rfl,bk,fs,ws,f,w,rfl,hF,by omega,hw,hu,hN,fun o hB=>⟨f,o,rfl,hF,hz,hB.perm,fun ms hm=>hR o ms hB hm⟩⟩
def R4(G:Glob K mg)(DD:Pu.DefM K (Meth K (ExcR.Jq mg "Village") "melded") "melded" "Village.melded" Nd ["self"])(ZG:Aj P w K mg base)(Zd:Kp P w K mg base)(Zi:Tx P w K mg base)
  : Cr P w K mg base:=by
 refine DD.oz (k:=6) G5 (fun _ _ _ _ _ _ E hr=>⟨_,(Jk (Jt (UQ ZG (hr.mono (by decide)) TX (bz (Uq Zd G.cl_Village (hr.mono (by decide)) Um (pv 0)) (Uq Zi G.cl_Village (hr.mono (by decide)) Um (pv 0)))))), (Jy (Js (tz (Ux K8 (Jg 0) J2) (Ux Nu (Jg 0) J2))))⟩) (.a fun ds R X h=>?_)
 ·obtain⟨bk,fs,ws,f,w,rfl,hF,hz,hw,hu,hN,hR⟩:=h;refine⟨rfl,?_⟩;refine⟨rfl,rfl,bk,fs,ws++[w],f,rfl,rfl,rfl,bk,fs,ws,f,w,rfl,hF,by omega,hw,hu,hN,fun o hB=>⟨f,o,rfl,hF,by omega,?_,?_⟩⟩
  ·have:=hB.perm.length_eq
   have:=Xr f
   omega
  ·rw[A5 hB.perm];exact hR o hB
def Zbb(G:Glob K mg)(ZH:AJ P w K mg base)(ZI:BL P w K mg base)(ZJ:AN P w K mg base)(ZK:IM P w K mg base)(ZL:CG P w K mg base)(ZM:CA P w K mg base)(ZN:BM P w K mg base)(ZO:Fu P w K mg base)(ZP:Ak P w K mg base)(ZQ:FT P w K mg base)(ZS:El P w K mg base)(Ze:P3 P w K mg base)(ZT:Cy P w K mg base)(ZU:Dm P w K mg base)(ZV:Fq P w K mg base)(Zi:Tx P w K mg base)(Zs:FZ P w K mg base)(Zg:TR P w K mg base)(Zm:Sr P w K mg base)(ZW:Ac P w K mg base)(Zc:Tw P w K mg base)(ZX:Cr P w K mg base)
  : Rf P w K mg base Xo:=by
 refine Lam.Za9 (k:=7) Ul (fun _ _ _ _ _ _ _ hr T=>⟨_,(Lam.PX (Pu.pz 1 Ul.nd (fz ZH hr (az (fz Ze hr (bz (pv 0) Ji)))))
   (Lam.PX (Pu.pz 2 Ul.nd (fz ZI hr (dz (pv 0) (pv 1) (Jo JM (Jo U1 (fz Zc hr (bz (pv 0) Ji)) Ji) Ji))))
   (Lam.PX (Pu.pz 3 Ul.nd (fz ZJ hr (az (pv 0))))
   (Lam.PX (Pu.pz 4 Ul.nd (fz ZK hr (bz (fz ZT hr (az (pv 2))) (Jo U1 (pv 3) Ji))))
   (Lam.Mj (Lam.GH 2 Ul.nd (Lam.MA (N':=["_law_strip","_law_order"]) (φ:=[none,some 4]) (x:="_law_strip") T hr (Lam.LamOk.of (by rfl)) rfl G.sorted (az (pv 2)) (fun _ _ _ _ _ _=>rfl) (fun _ _ _ _ _ _ _=>(PR (K:=K) Y5 W9 WY (Tg (K:=K)) (pv 1) (az (jx K (pv 0) Ji))))))
   (Jl (Pu.pz 5 Ul.nd (fz ZL hr (bz (fz ZU hr (bz (pv 0) (pv 1))) (pv 4))))
   (Sq (J5 (PW.pt (XN (cq K hr (Jo JM (pv 3) Ji) Ji) (Kz (JE UF (ln K G.len (pv 2)) Ji (JJ _)))))
   (Jl (Pu.pz 6 Ul.nd (Jo JM (Jo U1 (pv 3) Ji) (Jo U3 (ln K G.len (pv 2)) Ji)))
   (Jk (Pu.pz 2 Ul.nd (Jo XO (Jo XO (Pr (Pf (K:=K)) (pv 2) KW (Pt (pv 6))) (JF (bz (jx K (pv 2) (Jo Ud (pv 6) Ji)) (jx K (pv 2) (pv 6))))) (Pr (Pf (K:=K)) (pv 2) (Pt (Jo Ud (pv 6) Ji)) KW)))))
   J7)
   (Jl (Pu.pz 7 Ul.nd (Ml ZM G.m_Village (hr.mono (by decide)) TX (az (Xb (KL (K:=K)) (by rfl) G.list boot_list (az (pv 2))))))
   (Jl (JS Y8 rfl (JI (K:=K) (pv 5)) (Xq (K:=K) (n:=2) rfl (Ue (gz 8 Ul.nd) (Ue (gz 9 Ul.nd) Xs)))
   (Jk (JL (FV ZV G.cl_Village (hr.mono (by decide)) TX (pv 7) (bz (pv 8) (pv 9))))))
   (Jl (Pu.pz 10 Ul.nd (fz ZN hr (az (pv 2))))
   (Jl (Pu.pz 11 Ul.nd (fz ZO hr (az (Xb (KL (K:=K)) (by rfl) G.list boot_list (az (pv 2))))))
   (Jl (J5 (PW.pt (U8 (U9 (JW (K:=K) (JY (XX (K:=K)) (by rfl) G.isinstance WM (bz (pv 11) (XD (v:=.ty "bool") rfl G.bool boot_bool rfl))))) (UJ (cn K hr (pv 11) (pv 10)))))
   (Jk (Jt Up))
   J7)
   (Jl (Pu.pz 12 Ul.nd (Uq ZP G.cl_Village (hr.mono (by decide)) Um (pv 7)))
   (Jl (Pu.pz 13 Ul.nd (Uq ZQ G.cl_Village (hr.mono (by decide)) Um (pv 7)))
   (Jl (J5 (PW.pt (U8 (U9 (JW (K:=K) (fz Zg hr (az (pv 12))))) (UJ (U9 (JW (K:=K) (JY (XX (K:=K)) (by rfl) G.isinstance WM (bz (pv 13) (XD (v:=.ty "list") rfl G.list boot_list rfl))))))))
   (Jk (Jt Up))
   J7)
   (Jl (J5 (PW.pt (U8 (U9 (JW (K:=K) (pv 10))) (UJ (U9 (JW (K:=K) (fz Zm hr (bz (fz Zs hr (az (pv 2))) (pv 5))))))))
   (Jk (Jt (PL (Xm UF (pv 12) Ji (JJ _)) (P2 (Xm UF (ln K G.len (pv 13)) Ji (JJ _))))))
   J7)
   (Jl (J5 (PW.pt (U8 (cn K hr (pv 12) Ji) (U8 (cn K hr (ln K G.len (pv 13)) Ji) (UJ (U9 (JW (K:=K) (fz ZW hr (bz (Uq ZX G.cl_Village (hr.mono (by decide)) Um (pv 7)) (pv 2)))))))))
   (Jk (Jt Up))
   J7)
   (Jk (Jt (fz ZS hr (bz (Uq Zi G.cl_Village (hr.mono (by decide)) Um (pv 7)) (fz Zs hr (az (pv 2)))))))))))))))))))))))),
   (Jm (Jr (Js (sz (Js (tz (Jg 0) Jh)))) (Jj 1))
    (Jm (Jr (Js (uz (Jg 0) (Jg 1) (JU (UG (Js (tz (Jg 0) Jh)) Jh) Jh))) (Jj 2))
    (Jm (Jr (Js (sz (Jg 0))) (Jj 3))
    (Jm (Jr (Js (tz (Js (sz (Jg 2))) (UG (Jg 3) Jh))) (Jj 4))
    (Jm (Jr (Lam.Ia (Lam.HF (Lam.DU 1) (Lam.LU (Lam.DU 0) (Lam.RA _))) (PK (Jg 1) (sz (Ju (Jg 0) Jh))) (sz (Jg 2))) (Jj 2))
    (Jm (Jr (Js (tz (Js (tz (Jg 0) (Jg 1))) (Jg 4))) (Jj 5))
    (NQ (J6 (XU (Jz (UA (JU (Jg 3) Jh) Jh)) (Jz (UK (JH (sz (Jg 2))) Jh))) (Jm (Jr (JU (UG (Jg 3) Jh) (U5 (JH (sz (Jg 2))) Jh)) (Jj 6))
    (Jr (Ki (Ki (KG (Jg 2) Pd (Pz (Jg 6))) (JG (tz (Ju (Jg 2) (Ub (Jg 6) Jh)) (Ju (Jg 2) (Jg 6))))) (KG (Jg 2) (Pz (Ub (Jg 6) Jh)) Pd)) (Jj 2))) J9)
    (Jm (Jr (RW (sz (Pe (sz (Jg 2))))) (Jj 7))
    (Jm (J0 5 (JQ [8,9] (Uy (Jg 5)) (X4 (Uj (Jj 8) (Uj (Jj 9) Xy)))
    (J0 9 (J0 8 (PM (Fg 7 LX (tz (Jg 8) (Jg 9))))))))
    (Jm (Jr (Js (sz (Jg 2))) (Jj 10))
    (Jm (Jr (Js (sz (Pe (sz (Jg 2))))) (Jj 11))
    (Jm (J6 (U7 (U4 (JX (Kc (tz (Jg 11) Ka)))) (Jz (UM (Jg 11) (Jg 10)))) (Jy Uo) J9)
    (Jm (Jr (Ux Ii (Jg 7) J2) (Jj 12))
    (Jm (Jr (Ux Lu (Jg 7) J2) (Jj 13))
    (Jm (J6 (U7 (U4 (JX (Js (sz (Jg 12))))) (U4 (JX (Kc (tz (Jg 13) Ka))))) (Jy Uo) J9)
    (Jm (J6 (U7 (U4 (JX (Jg 10))) (U4 (JX (Js (tz (Js (sz (Jg 2))) (Jg 5)))))) (Jy (Tn (UK (Jg 12) Jh) (UK (JH (sz (Jg 13))) Jh))) J9)
    (Jm (J6 (U7 (Jz (UM (Jg 12) Jh)) (U7 (Jz (UM (JH (sz (Jg 13))) Jh)) (U4 (JX (Js (tz (Ux Zaz (Jg 7) J2) (Jg 2))))))) (Jy Uo) J9)
    (Jy (Js (tz (Ux Nu (Jg 7) J2) (Js (sz (Jg 2)))))))))))))))))))))))⟩) (.a fun ds R X h=>?_)
 ·obtain⟨ns,rfl,hR⟩:=h;refine⟨rfl,?_⟩;refine⟨ns,0,rfl,by decide,fun c0=>⟨c0,rfl,fun m hM=>?_⟩⟩;refine⟨ns,0,rfl,by decide,fun a0=>⟨⟨by decide,by decide⟩,(by show(0:Int)<41;decide),ns,m,_,rfl,hM,by omega,by omega,fun ps hF hlen=>?_⟩⟩;have hz:ps.length<=40:=by omega
  have hh:=Xr ps;refine⟨ns,rfl,fun how=>?_⟩;refine⟨ps,rfl,by omega,⟨by decide,by decide⟩,Jp ps,_,rfl,by omega,fun o ho=>?_⟩;have hin0:=B8 hF ho;refine⟨⟨_,ps.map prD,ps.map fun q=>((o.idxOf q.1:Nat):Int),rfl,rfl,Lam.FB ps,by rw[Ya];omega,by rw[Ya,Ya],fun i d k hd hk=>?_,fun qs hq _=>?_⟩⟩
  ·rw[Yj]at hd hk;cases e:ps[i]? with
   |none=>rw[e]at hd;cases hd
   |some q=>
    rw[e]at hd hk;cases hd
    cases hk
    have hi:q.1∈o:=hin0 q (Y4 e);exact⟨⟨_,rfl⟩,_,P0 _ _,o,rfl,hi,rfl⟩
  obtain⟨rs,h1,h2⟩:=Lam.G2 (by rw[Ya]) hq;rw[h2];refine⟨ns,m,rfl,hM,fun ws0 hW0=>⟨ws0,o,rfl,hW0,fun W hW hb=>?_⟩⟩;refine Sm (fun γ'=>∃(f:List (Int×Int)) (x:Option S),f.Perm ps/\γ'=[some (.bor (.scr ns)),some (.own (m.map D.int)),some (.own (f.map prD)),some (.sh (.int how)),some (.own (o.map D.int)),some (.own (W.map prD)),x,none,none,none,none,none,none,none]) ?_ ?_
  ·have hlr:=h1.length_eq;have hlm:(rs.map prD).length=rs.length:=Ya ..;refine⟨(by show(0:Int)<2;decide),ite2 (fun _=>ite2 (fun g=>?_) (fun _=>⟨rs,none,h1,rfl⟩)) (fun _=>⟨rs,none,h1,rfl⟩)⟩;have hl1:(1:Int)<(((rs.map prD).length:Nat):Int):=Ys g;have hk0:=Qd (how / 2) (show(((rs.map prD).length:Nat):Int)-1≠0 by omega);have hk1:=WJ (how / 2) (show(0:Int)<(((rs.map prD).length:Nat):Int)-1 by omega);refine⟨⟨by decide,by decide⟩,(by show(0:Int)<(((rs.map prD).length:Nat):Int)-1;omega),?_⟩
   dsimp only
   generalize how / 2 % ((((rs.map prD).length:Nat):Int)-1)=k at hk0 hk1 ⊢;have b1:(k+1).toNat<rs.length:=by omega
   have b2:k.toNat<rs.length:=by omega
   have l1:(cutD (rs.map prD) none (some k)).length<=1000:=by have:=(T9 (rs.map prD) none (some k)).length_le;rw[Ya]at this;omega
   have l2:(cutD (rs.map prD) (some (k+2)) none).length<=1000:=by have:=(T9 (rs.map prD) (some (k+2)) none).length_le;rw[Ya]at this;omega
   refine⟨rfl,_,UX (by omega) (by omega),_,UX (by omega) (by omega),by simp,rfl,rfl,Yx (WT l1 (Yi 2)) (by decide),rfl,rfl,rfl,Yx (WT (by rw[Yn];exact WT l1 (Yi 2)) l2) (by decide),?_⟩;refine⟨rs.take k.toNat++[rs[(k+1).toNat],rs[k.toNat]]++rs.drop (k+2).toNat,some (.sh (.int k)),?_,?_⟩
   ·refine List.Perm.trans ?_ h1;have e1:(k+1).toNat=k.toNat+1:=by omega
    have e2:(k+2).toNat=k.toNat+1+1:=by omega
    have e3:rs=rs.take k.toNat++rs[k.toNat]::rs[(k+1).toNat]::rs.drop (k+2).toNat:=by
     rw[e2];simp only[e1];rw[←YX (by omega),←YX b2,QL]
    have e4:(rs.take k.toNat++[rs[(k+1).toNat],rs[k.toNat]]++rs.drop (k+2).toNat).Perm (rs.take k.toNat++rs[k.toNat]::rs[(k+1).toNat]::rs.drop (k+2).toNat):=by
     rw[Qh];exact(List.Perm.swap _ _ _).append_left _
    rw[←e3]at e4;exact e4
   ·have e:(rs.take k.toNat++[rs[(k+1).toNat],rs[k.toNat]]++rs.drop (k+2).toNat).map prD=cutD (rs.map prD) none (some k)++[prD rs[(k+1).toNat],prD rs[k.toNat]]++cutD (rs.map prD) (some (k+2)) none:=by
     rw[KQ,KQ,DO rs (by omega),SL rs (by omega),Yt,Yt];rfl
    rw[e];rfl
  rintro γ' ⟨f,x0,hp,rfl⟩;have hFf:Field f:=fun q h=>hF q (hp.mem_iff.mp h);have hfl:=hp.length_eq;have ehold:Jp f=Jp ps:=O2 hp;have hho:o.Perm (Jp f):=by rw[ehold];exact ho
  have hu:∀q∈W,q.1≠q.2:=fun q hq=>(hW.2.2 q hq).2;have ndo:o.Nodup:=ho.nodup_iff.mpr ((UN ps).imp fun h=>WK h);have hkW:Keeps W o:=FP ndo hb;have hN:¬ ∃r,Ring (Jp f) W r:=Lh hu ndo (fun z hz=>hho.mem_iff.mpr hz) hkW;have lW:=hW.1;refine⟨rfl,fun x=>⟨x,f,rfl,rfl,by omega,?_⟩⟩;rw[LQ hFf (by omega)];refine fun b1 b2 b3=>⟨rfl,?_⟩;refine⟨rfl,Uv (xs:=W) (emb:=prD) (fun i γ'=>∃(bk:List (Str×List Int)) (fs us:List (List (Int×Int))),γ'=[some (.bor (.scr ns)),some (.own (m.map D.int)),some (.own (f.map prD)),some (.sh (.int how)),some (.own (o.map D.int)),some (.sh (plD W)),x0,some (.own (vO (ExcR.Jq mg "Village") x b1 b2 b3 bk (fs++[f]) (us++[W.take i]))),none,none,none,none,none,none]/\bk.length=i/\fs.length=i/\us.length=i) ⟨[],[],[],rfl,rfl,rfl,rfl⟩ ?_ ?_⟩
  ·rintro i hi γ' ⟨bk,fs,us,rfl,k1,k2,k3⟩;refine⟨rfl,rfl,rfl,x,b1,b2,b3,bk,fs,us,f,W.take i,W[i].1,W[i].2,rfl,rfl,by omega,by omega,by omega,by rw[YD];omega,?_⟩;unfold Sk;rw[Ye (by omega),L8 hW hi];refine⟨bk++[(("wish" : Str),[W[i].1,W[i].2])],fs++[f],us++[W.take i],?_,by simp[k1],by simp[k2],by simp[k3]⟩;rw[Y1 hi];rfl
  rintro γ' ⟨bk,fs,us,rfl,k1,k2,k3⟩;rw[Wh]
  have hR0:∀{v:Int},Least W (pcc f) (Jp f) v->∀{o':List Int},Best W (pcc f) (Jp f) o'->v=priM f o' f.length:=fun hv o' hB=>by
   rw[←Nm hFf hB.perm];exact hv.uniq ⟨⟨o',hB.perm,hB.keeps,rfl⟩,hB.le⟩
  have facts:∀{v:Int} {o':List Int} {ms:List Mo},Least W (pcc f) (Jp f) v->Best W (pcc f) (Jp f) o'->Mv f (rkN f o') (runI 1 f.length) ms->0<=v/\(v=0↔ByR o' f)/\(((ms.map mvD).length:Nat):Int)<=10000/\((((ms.map mvD).length:Nat):Int)=0↔ByR o' f):=fun {v o' ms} hv hB hMv=>by
   have e1:=hR0 hv hB;obtain⟨p1,p2⟩:=Ca (o:=o') hFf;obtain⟨q1,q2⟩:=Ob (ps:=f) (o:=o');have cn:=hMv.count;have lmm:(ms.map mvD).length=ms.length:=Ya ..;have h2:=Dy (rkN f o') (runI 1 f.length);rw[Tv]at h2;have h3:=M0 f.length (by omega);rw[←e1]at p1 p2;rw[←cn]at q2;rw[lmm];exact⟨p1,p2,by omega,q2⟩
  have memO:∀{o':List Int},o'.Perm (Jp f)->o'.Nodup/\(∀z,z∈o'↔z∈f.map (·.1))/\∀q∈f,q.1∈o':=fun {o'} hp'=>
   ⟨hp'.nodup_iff.mpr ((UN f).imp fun h=>WK h),fun z=>hp'.mem_iff.trans (K4 hFf),B8 hFf hp'⟩
  refine⟨f,rfl,by omega,fun T=>?_,fun T=>?_⟩
  ·refine⟨rfl,f,rfl,hFf,by omega,fun _=>?_,fun N=>absurd T N⟩;refine⟨_,.same _,iteF ?_⟩;refine⟨rfl,rfl,bk,fs,us,f,W,rfl,hFf,by omega,by omega,hu,hN,fun v hv=>⟨rfl,rfl,bk,fs,us,f,W,rfl,hFf,by omega,by omega,hu,hN,fun o' ms hB hMv=>?_⟩⟩;obtain⟨f1,f2,f3,f4⟩:=facts hv hB hMv;obtain⟨m1,m2,m3⟩:=memO hB.perm;refine⟨v,rfl,iteF ⟨_,.same _,iteF ?_⟩⟩;refine⟨f,rfl,by omega,JC (f.map (·.1)),W,rfl,fun hg=>?_,fun⟨q,hq,hbad⟩=>?_⟩
   ·refine iteF ?_;obtain⟨n1,n2,n3⟩:=memO (Tu hFf);have hkl:Keeps W (JC (f.map (·.1))):=FP n1 hg;have bl:=R5 f T;have z1:=(Ca (o:=JC (f.map (·.1))) hFf).2.mpr bl;have le:=hB.le _ (Tu hFf) hkl;have e1:oc (pcc f) o'=priM f o' f.length:=Nm hFf hB.perm;have e2:oc (pcc f) (JC (f.map (·.1)))=priM f (JC (f.map (·.1))) f.length:=Nm hFf (Tu hFf);rw[e1,e2,z1,←hR0 hv hB]at le;have v0:v=0:=by omega
    have by':=f2.mp v0
    have eo:JC (f.map (·.1))=o':=FN m1 m2 by'
    have l0:=f4.mpr by'
    have eg:UZ f o'=f:=LN m1 m3 by'
    have hll:=(Tu hFf).length_eq;have hhf:=Xr f;refine ite2 (fun g=>absurd g (by rw[Yg rfl,Yh v0];decide)) (fun _=>?_);refine ite2 (fun g=>absurd g (by rw[Yg rfl,Yh l0];decide)) (fun _=>?_);refine⟨rfl,rfl,bk,fs,us,f,W,rfl,hFf,by omega,by omega,hu,hN,fun o2 hB2=>?_⟩;obtain rfl:=Pu.Best.uniq hB2 hB;rw[eg];refine⟨f,rfl,by omega,iteF ?_⟩;refine⟨rfl,rfl,bk,fs,us,f,W,rfl,hFf,by omega,by omega,hu,hN,fun o3 hB3=>?_⟩;obtain rfl:=Pu.Best.uniq hB3 hB;refine⟨f,rfl,by omega,?_⟩;rw[eo];exact⟨o3,rfl,by have:=hB3.perm.length_eq;omega,hR⟩
   ·refine iteT ?_
    have nb:¬ByR o' f:=fun z=>by
     have:=FN m1 m2 z
     rw[this,LC hB.keeps q hq]at hbad;cases hbad
    have v0:¬v=0:=fun z=>nb (f2.mp z);have l0:¬(((ms.map mvD).length:Nat):Int)=0:=fun z=>nb (f4.mp z);refine ite2 (fun _=>?_) (fun g=>absurd (Yh (by omega)) g);show R (.sh (.bl (decide ((0:Int)<(((ms.map mvD).length:Nat):Int)))));rw[Yh (by omega)];exact hR
  ·refine⟨rfl,f,rfl,hFf,by omega,fun T2=>absurd T2 T,fun _=>?_⟩;refine⟨_,.same _,iteF ?_⟩;refine⟨rfl,rfl,bk,fs,us,f,W,rfl,hFf,by omega,by omega,hu,hN,fun v hv=>⟨rfl,rfl,bk,fs,us,f,W,rfl,hFf,by omega,by omega,hu,hN,fun o' ms hB hMv=>?_⟩⟩;obtain⟨f1,f2,f3,f4⟩:=facts hv hB hMv;obtain⟨m1,m2,m3⟩:=memO hB.perm;have nb:¬ByR o' f:=fun z=>T (II m3 z);refine⟨v,rfl,iteF ⟨_,.same _,iteF ?_⟩⟩;have v0:¬v=0:=fun z=>nb (f2.mp z);have l0:¬(((ms.map mvD).length:Nat):Int)=0:=fun z=>nb (f4.mp z);refine ite2 (fun _=>?_) (fun g=>absurd (Yh (by omega)) g);show R (.sh (.bl (decide ((0:Int)<(((ms.map mvD).length:Nat):Int)))));rw[Yh (by omega)];exact hR
end
end T
namespace T
open PySem PySem.Spec PyProof.Rows L2 Own M
def Zaf{l:PySem.W.OpenLaw}{w:World}{K:Za}{h:Heap}{mg:Str->Option Value}{fa:Addr}(X:K.In h)(G0:h.Ns mainGlobals mg)(hfa:mg "law"=some (.ref fa)){Vp:Addr}(Vr:PySem.W.nsIn K mainGlobals "Village"=some (some (.ref Vp)))(V0:PySem.W.plainGet K Vp Str.empty=true)(V1:PySem.W.hasDictIn K Vp=true)(V2:PySem.W.plainOver K Vp=true)(V3:PySem.W.findIn K (.ref Vp) "__setattr__"=some (some (.builtin "object.__setattr__")))(V4:PySem.W.makesIn K Vp=true)(V5:PySem.W.keepIn K (.ref Vp)=true)(V6:PySem.W.findIn K (.ref Vp) "book"=some none)(V7:PySem.W.findIn K (.ref Vp) "fields"=some none)(V8:PySem.W.findIn K (.ref Vp) "wished"=some none)(a0:Pu.DI K "check_holder" Bk)(a1:Pu.DI K "check_width" BC)(a2:Pu.DI K "check_strips" SM)(a3:Pu.DI K "holders_of" Nh)(a4:Pu.DI K "begins_run" N7)(a5:Pu.DI K "lies_together" NZ)(a6:Pu.DI K "check_order" NM)(a7:Pu.DI K "gathered" Nl)(a8:Pu.DI K "pair_cost" NT)(a9:Pu.DI K "own_numbers" Sx)(a10:Pu.DI K "exchange_cost" Sz)(a11:Pu.DI K "exchanged" SX)(a12:Pu.DI K "first_wrong_place" Sh)(a13:Pu.DI K "told_moves" SS)(a14:Pu.DI K "longer_paths" Nj)(a15:Pu.DI K "ring_from" Bu)(a16:Pu.DI K "find_ring" NV)(a17:Pu.DI K "check_no_ring" SB)(a18:Pu.DI K "with_wish" N4)(a19:Pu.DI K "pair_costs" Ng)(a20:Pu.DI K "sets_of" B3)(a21:Pu.DI K "without" Se)(a22:Pu.DI K "may_lie_last" N1)(a23:Pu.DI K "may_lie_first" Ss)(a24:Pu.DI K "cost_with_last" Bc)(a25:Pu.DI K "cost_with_first" Nt)(a26:Pu.DI K "least_costs" SE)(a27:Pu.DI K "cost_table" Bw)(a28:Pu.DI K "best_order" Ny)(a29:Pu.DI K "least_cost" Nk)(a30:Pu.MI K Vp "__init__" "Village.__init__" B6)(a31:Pu.MI K Vp "strips" "Village.strips" Sa)(a32:Pu.MI K Vp "wishes" "Village.wishes" Su)(a33:Pu.MI K Vp "check_room" "Village.check_room" Br)(a34:Pu.MI K Vp "enter" "Village.enter" SA)(a35:Pu.MI K Vp "wish" "Village.wish" B7)(a36:Pu.MI K Vp "order" "Village.order" Sg)(a37:Pu.MI K Vp "cost" "Village.cost" BA)(a38:Pu.MI K Vp "moves" "Village.moves" BE)(a39:Pu.MI K Vp "melded" "Village.melded" Nd)(a40:Pu.DI K "_law_at" Sy)(a41:Pu.DI K "_law_whole" S7)(a42:Pu.DI K "_law_mix" NL)(a43:Pu.DI K "_law_draw" Nx)(a44:Pu.DI K "_law_spare" Si)(a45:Pu.DI K "_law_menu" Sb)(a46:Pu.DI K "_law_holder" SY)(a47:Pu.DI K "_law_strips" B0)(a48:Pu.DI K "_law_wishes" SR)(a49:Pu.DI K "_law_row" Bj)(a50:Pu.DI K "_law_tuples" Np)(a51:Pu.DI K "_law_present" NB)(a52:Pu.DI K "_law_together" SU)(a53:Pu.DI K "_law_kept" NX)(a54:Pu.DI K "_law_shuffled" NN)(a55:Pu.DI K "_law_along" N8)(a56:Pu.DI K "_law_runs" Nz){f57:Addr}{od57 an57:Option Addr}{sl57:Array (Option Value)}{oc57 kV57 dc57 pm57 cd57 ct57:Value}(a57:PySem.W.nsIn K mainGlobals "law"=some (some (.ref f57)))(l57:K.lookup f57=some ⟨oc57,od57,.func (PySem.W.fnOf "law" "law" (UH Xo) (JO Xo) (Jn Xo) .none kV57 dc57 pm57 an57 cd57 ct57),sl57⟩)(c57:PySem.W.codeIn K cd57 "law"=true)(k57:PySem.W.keepIn K (.ref f57)=true)(V9:PySem.W.nsIn K mainGlobals "any"=some none)(VA:PySem.W.nsIn K mainGlobals "bool"=some none)(VB:PySem.W.nsIn K mainGlobals "int"=some none)(VC:PySem.W.nsIn K mainGlobals "isinstance"=some none)(VD:PySem.W.nsIn K mainGlobals "len"=some none)(VE:PySem.W.nsIn K mainGlobals "list"=some none)(VF:PySem.W.nsIn K mainGlobals "max"=some none)(VG:PySem.W.nsIn K mainGlobals "min"=some none)(VH:PySem.W.nsIn K mainGlobals "range"=some none)(VI:PySem.W.nsIn K mainGlobals "set"=some none)(VJ:PySem.W.nsIn K mainGlobals "sorted"=some none)(VL:PySem.W.nsIn K mainGlobals "sum"=some none)(VM:PySem.W.nsIn K mainGlobals "tuple"=some none){VS:Tok}(VN:PySem.W.nsIn K mainGlobals "HOLDERS"=some (some (.int 10 VS))){VT:Tok}(VO:PySem.W.nsIn K mainGlobals "STRIPS"=some (some (.int 40 VT))){VU:Tok}(VP:PySem.W.nsIn K mainGlobals "WIDEST"=some (some (.int 1000 VU))){VW:Tok}(VQ:PySem.W.nsIn K mainGlobals "MOST_WISHES"=some (some (.int 20 VW))){VX:Tok}(VR:PySem.W.nsIn K mainGlobals "MOST_DEEDS"=some (some (.int 100 VX))){VY:Addr}(Vs:Pu.EI K "TooManyStrips" VY){VZ:Addr}(Vt:Pu.EI K "BadHolder" VZ){Ja:Addr}(Vu:Pu.EI K "BadWidth" Ja){Jb:Addr}(Vv:Pu.EI K "BadOrder" Jb){Jc:Addr}(Vw:Pu.EI K "LikeHolders" Jc){Jd:Addr}(Vx:Pu.EI K "WishStands" Jd){Je:Addr}(Vy:Pu.EI K "TooManyWishes" Je){Jf:Addr}(Vz:Pu.EI K "BookFull" Jf){cc Pl:Addr}(hq:cd57=.ref cc)(hPK:K.lookup Pl=none)(hPC:PySem.W.codeHdIn K cc Pl=true)
  : ∃(fd:FuncData) (c:Addr),(∀(s:Shared) (v:Value),BindsTo s fd ⟨[v],[]⟩ [("_law_script",v)])/\K.lookup Pl=none/\PySem.W.codeHdIn K c Pl=true/\∀base:Heap,K.In base->base.Ns mainGlobals mg->PySem.W.CodeHd base c Pl->base.BuiltinsAt mg Pl->mainGlobals≠Pl->Lam.LawT l.prog w K mg base 8 fa fd "_law_script" (Pu.SN K) Pl:=by
 have e:=hfa.symm.trans (Wu X G0 a57);cases e
 have Vq:=ExcR.DJ (Wu X G0 Vr);have G:Glob K mg:=⟨YQ X G0 V9,YQ X G0 VA,YQ X G0 VB,YQ X G0 VC,YQ X G0 VD,YQ X G0 VE,YQ X G0 VF,YQ X G0 VG,YQ X G0 VH,YQ X G0 VI,YQ X G0 VJ,YQ X G0 VL,YQ X G0 VM,⟨_,Wu X G0 VN,⟨_,rfl⟩⟩,⟨_,Wu X G0 VO,⟨_,rfl⟩⟩,⟨_,Wu X G0 VP,⟨_,rfl⟩⟩,⟨_,Wu X G0 VQ,⟨_,rfl⟩⟩,⟨_,Wu X G0 VR,⟨_,rfl⟩⟩,(Vs.m X G0),(Vs.k X G0),(Vt.m X G0),(Vt.k X G0),(Vu.m X G0),(Vu.k X G0),(Vv.m X G0),(Vv.k X G0),(Vw.m X G0),(Vw.k X G0),(Vx.m X G0),(Vx.k X G0),(Vy.m X G0),(Vy.k X G0),(Vz.m X G0),(Vz.k X G0),(by rw[Vq];exact Wu X G0 Vr),(by rw[Vq];exact⟨V0,V1,V2,V3⟩),(by rw[Vq];exact V6),(by rw[Vq];exact V7),(by rw[Vq];exact V8)⟩;have F57:=N5 (st:=Xo) l57 c57 k57;refine⟨PySem.W.fnOf "law" "law" (UH Xo) (JO Xo) (Jn Xo) .none kV57 dc57 pm57 an57 cd57 ct57,cc,fun s v=>.of_eq rfl,hPK,hPC,fun base _ _ hC hB hg=>?_⟩;have C0:=@M9 l.prog w K mg base G (a0.e X G0);have C1:=@Ib l.prog w K mg base G (a1.e X G0);have C3:=@Le l.prog w K mg base G (a3.e X G0);have C4:=@Mm l.prog w K mg base G (a4.e X G0);have C8:=@Os l.prog w K mg base G (a8.e X G0);have C9:=@RJ l.prog w K mg base G (a9.e X G0);have C10:=@Mq l.prog w K mg base G (a10.e X G0);have C11:=@Oj l.prog w K mg base G (a11.e X G0);have C12:=@OW l.prog w K mg base G (a12.e X G0);have C14:=@GQ l.prog w K mg base G (a14.e X G0);have C20:=@E5 l.prog w K mg base G (a20.e X G0);have C21:=@HC l.prog w K mg base G (a21.e X G0);have C22:=@EW l.prog w K mg base G (a22.e X G0);have C23:=@Iz l.prog w K mg base G (a23.e X G0);have C31:=@Lm l.prog w K mg base G (a31.e Vq);have C32:=@GP l.prog w K mg base G (a32.e Vq);have C33:=@OJ l.prog w K mg base G (a33.e Vq);have C34:=@Lj l.prog w K mg base G (a34.e Vq);have C40:=@Zau l.prog w K mg base G (a40.e X G0);have C41:=@LA l.prog w K mg base G (a41.e X G0);have C42:=@L3 l.prog w K mg base G (a42.e X G0);have C45:=@EE l.prog w K mg base G (a45.e X G0);have C46:=@EU l.prog w K mg base G (a46.e X G0);have C51:=@Il l.prog w K mg base G (a51.e X G0);have C52:=@Hl l.prog w K mg base G (a52.e X G0);have C53:=@Hv l.prog w K mg base G (a53.e X G0);have C54:=@HL l.prog w K mg base G (a54.e X G0);have C56:=@Oy l.prog w K mg base G (a56.e X G0);have C2:=@EB l.prog w K mg base G (a2.e X G0) C0 C1;have C5:=@M2 l.prog w K mg base G (a5.e X G0) C4 (Kx C3);have C6:=@M1 l.prog w K mg base G (a6.e X G0) (Kx C3);have C15:=@O3 l.prog w K mg base G (a15.e X G0) C14;have C18:=@Gm l.prog w K mg base G (a18.e X G0) C0;have C19:=@La l.prog w K mg base G (a19.e X G0) (Kx C3) C8;have C24:=@OA l.prog w K mg base G (a24.e X G0) C21;have C25:=@MO l.prog w K mg base G (a25.e X G0) C21;have C43:=@IS l.prog w K mg base G (a43.e X G0) C42 C40;have C44:=@E2 l.prog w K mg base G (a44.e X G0) C42 C40;have C49:=@Za5 l.prog w K mg base G (a49.e X G0) C41;have C50:=@Zaa l.prog w K mg base G (a50.e X G0) C41;have C55:=@MT l.prog w K mg base G (a55.e X G0) C53;have C7:=@MX l.prog w K mg base G (a7.e X G0) C6;have C13:=@Ou l.prog w K mg base G (a13.e X G0) C6 C9 C12 C11 C10;have C16:=@Mt l.prog w K mg base G (a16.e X G0) C15;have C26:=@IY l.prog w K mg base G (a26.e X G0) C20 (Kx C3) C22 C24;have C30:=@MV l.prog w K mg base G (a30.j Vq V4 V5) C2;have C35:=@Zap l.prog w K mg base G (a35.e Vq) C33 C18 C34 C32 C31;have C47:=@Ge l.prog w K mg base G (a47.e X G0) C43 C46;have C48:=@Ow l.prog w K mg base G (a48.e X G0) C43 C46;have C17:=@RZ l.prog w K mg base G (a17.e X G0) C16 (Kx C3);have C27:=@IL l.prog w K mg base G (a27.e X G0) C17 C26 C19;have C28:=@ME l.prog w K mg base G (a28.e X G0) C17 C19 C26 (Kx C3) C21 C23 C25;have C29:=@Lz l.prog w K mg base G (a29.e X G0) C27;have C36:=@L4 l.prog w K mg base G (a36.e Vq) C28 C31 C32;have C37:=@LJ l.prog w K mg base G (a37.e Vq) C29 C31 C32;have C38:=@O4 l.prog w K mg base G (a38.e Vq) C13 C31 C36;have C39:=@R4 l.prog w K mg base G (a39.e Vq) C7 C31 C36;have C57:=@Zbb l.prog w K mg base G  C45 C47 C44 (Zan C54) C55 C30 C52 C5 C37 C38 C49 C43 C51 C48 C35 C36 C56 C41 C53 C50 C40 C39;exact(C57 fa _ cc Pl F57 hq hC hB hg).imp fun _ _ _ _ z=>Pu.NW z
end T
structure PySem.W.Fast:Prop where (tw10835617269369366006 tw8143879029708856320 tw9455195091180398592 tw10543702777530903616 tw16233654754038093920 tw8218871870717303904 tw2594916508982837440 tw13777745199102518464 tw1941677099834991840 tw943534438595176704 tw17933604985772902688 tw17619517952141805920 tw10454130128281920864 tw2851841779425068416 tw166390711785967040 tw13605178099346421216 tw8426157506860639776 tw13660877320278272576 tw11667569464499460736 tw8569354539110653632 tw4955786071074385696 tw14748681658302775072 tw10496247867022763808 tw10087493935239456576 tw13126311745910517664 tw15910333275600207840 tw926659119231747073 tw15320465613428382753 tw1584759372850522145 tw5007562038235819041 tw5115677903811728449 tw7001738784857742497 tw16931596022183655585 tw12631949119530597601 tw15506507417081954689 tw14055041088882005409 tw14679893734813364737 tw4252004598287532609 tw14226147049080019521 tw14267911838496982625 tw6074329158867122785 tw23058370168619681 tw2831685589433371297 tw5176621147812652801 tw5048292031939607329 tw1706566063215958849 tw863705119327791969 tw6860760524503137217 tw3619513959629307841 tw13227090336882288642 tw15337824456671261698 tw5596782299099468834 tw3747817296359501858 tw9022103411007009826 tw7760874169707508770 tw10417610274255253634 tw2738294870381998210 tw2834596804054242434 tw2716802762746637474 tw11591198330649657538 tw16809278984130068738 tw7053325515668611362 tw18060868239013879138 tw5839265659330154850 tw5869747609722463714 tw9152706289858710050 tw13120789752727613986 tw13409226686768251458 tw5291891857233733218 tw17952998753215844994 tw12106539892314330818 tw17500544779654100674 tw8371422622335689442 tw8148947333305901826 tw17978111235037986562 tw9741339558282792738 tw820756388183990050 tw4512050159014618978 tw2930874335713704866 tw6241908439069664259 tw14130103512321914979 tw8950110745233571011 tw4999966623472245987 tw5368450697720557795 tw746424135357974787 tw8187367337140019523 tw17367641695889778019 tw2543494844186569091 tw5539792125655154051 tw18053627221400349091 tw5794344796665767395 tw587870576582331907 tw18048073741826586147 tw2407500192344686147 tw11234862457616845379 tw7861525021787044451 tw17792638912668937955 tw10950690290644270851 tw11545630125368004355 tw2965829109044493091 tw11717496768304508707 tw2316290908347619139 tw11444196578875327331 tw14250458227542496131 tw6353385500047080355 tw7122502622663453732 tw6501305166775663652 tw13975852832446013476 tw13921844502259284036 tw9432538621782365380 tw10122909247514835140 tw17261668750860163300 tw14974481086539959556 tw11394390956989170948 tw1000661305363760420 tw3362694413387340068 tw2824434620032206116 tw11262886544764764580 tw4085362304091217316 tw14950021202808993188 tw12555997415667559876 tw1681363271645843940 tw15473417665978598052 tw8320477946881481412 tw6163632916245094084 tw1465411757495999172 tw6923211283833452324 tw5767891486991219556 tw8023264401126392740 tw9748858438163917732 tw487595165472945124 tw15955085838754200581 tw2585814057424802853 tw16931847635972554821 tw13725794937446334533 tw659272662364716165 tw4463562624464701701 tw13770451817763560709 tw7127871195395289349 tw14325725350192558373 tw13095014404311790917 tw16761111449678981509 tw11542589822341102981 tw8432760664073053637 tw8172526688291702245 tw10793439561448586789 tw2979248772344135237 tw2238469946818227781 tw2785539271669300965 tw1056363766750694149 tw10439609738540160869 tw1361543278222493541 tw1862995273506852837 tw15608592272465435654 tw18304304131162054662 tw13372380543740628998 tw9190535699390583814 tw12966906177926866982 tw4974173748133279814 tw9240097675993267270 tw2467710410903819366 tw8185260197677878406 tw14245051942106822790 tw1366030789899365606 tw16045822856018453766 tw2799123712622545222 tw1684937335838285158 tw7729578387314126182 tw39870661261674854 tw6558904009815907718 tw16696729339352793702 tw8078633001665326694 tw3234896799479165542 tw2547601664504879750 tw17721669536415814310 tw8032134621325455014 tw15265127112993926822 tw13398049403736875718 tw8212349392739184358 tw12904334286446611238 tw7539008335435685670 tw5783744785501380422 tw17424099219159958438 tw7162480631392242662 tw6566301053951423462 tw8507379212746461255 tw13060072501913998407 tw3174186431331336295 tw2725442096648487111 tw2931471930021451975 tw12561240590775115271 tw7981883576333413927 tw6266810178915973767 tw1868513173904449191 tw9522848373642862279 tw17309298293129030343 tw16548648067849680583 tw784004693749862151 tw883161825915816743 tw6694679143311246279 tw5239666453203284008 tw16109108841001223240 tw11944281572674865224 tw1651529012795941000 tw13213784901711112360 tw4857606565881695400 tw1668482182413310120 tw17969847529874365640 tw5733319909947664584 tw420862881547178248 tw15708937003043831112 tw13154670896237736296 tw9668538339446082952 tw5514184882499956136 tw8320285714881912264 tw3244340318285442504 tw8509850382342263272 tw6506710940403765736 tw6668907385548796456 tw7685439449933989512 tw13070402980282662568 tw12497377372451057352 tw11627811539221532392 tw15229270471516443464 tw16600375287448226728 tw8286013918778869704 tw8039721672592667624 tw14206437969451872297 tw10479954818534634537 tw8932960036294401097 tw14819567636915984489 tw6525800516707815593 tw4782019207966213321 tw7027031401504465193 tw9317186027538054473 tw16999584432702521705 tw10027560877950825833 tw16618622968846612873 tw11701403675077375433 tw17250601657376907753 tw1207136037273263593 tw6791507679530669577 tw16986368186898241033 tw621977912567265865 tw3614403205279999593 tw14086831362217865865 tw6873499272153722537 tw6175924433830058729 tw280257433238327049 tw11140124863303442185 tw12537235706792350569 tw4682240727210669961 tw16039934765084985257 tw9806928583603761129 tw5314621731262031882 tw15882652222044961802 tw13606919139474974794 tw8219121726981583946 tw7064389287959087210 tw15113602823690534122 tw10440436184711586058 tw13802448272589811978 tw8028033480435110250 tw5231960009252395370 tw15171085748037516682 tw1030838822114895498 tw6005816792680791722 tw1563010978831942346 tw6693151168977183466 tw7577918505751982826 tw16266634018691410666 tw5773407299493680906 tw11297060581721397034 tw16704714282104693610 tw2969902040529027946 tw17564364965278828394 tw12465305329770589034 tw8348565382521662410 tw9504190769064332266 tw2395381242957817867 tw10518138819711641707 tw15196188190443787371 tw9261874093162356843 tw8041939116316639371 tw7760235894798893195 tw5626230434283841675 tw1023187491097803915 tw5448519956257055947 tw8768144460840455371 tw16856076586540535019 tw9944503004076496107 tw1411473802999374155 tw210813542311837035 tw2409510264470488427 tw11600955016406069611 tw17792877950559922571 tw1462068050584179115 tw11746640362782631339 tw1954434558877987243 tw2655196105431088555 tw12987024042642221515 tw17149828241879845323 tw17962785685890537963 tw14102225980866186763 tw15465302697500529195 tw2178738782067250827 tw6417114738277655275 tw833778009477275371 tw524212136313018155 tw12558776453341437739 tw15452535462613914443 tw3640479064708194123 tw11625934356843795307 tw3976956287099975563 tw15932027251667275755 tw128601584733856747 tw17517194435135185899 tw17035571001886420971 tw1979855602734369932 tw7502679185685459084 tw6587819511605527788 tw15472225248320592172 tw9659606055074792876 tw1435013422539959724 tw9407256279890304620 tw8975742599623331436 tw10465158755076817548 tw8729528109645952652 tw12022151365982188268 tw15840470782745191244 tw2417674684162224972 tw15074355797508355948 tw126797100577025932 tw17016000988782826476 tw4698299423419724845 tw5570332222179492941 tw1880111688414240909 tw13483341307772204205 tw7670073079666108653 tw16649290729845125389 tw112237197259153773 tw13962974785975330157 tw4901373642049421837 tw7730722503416408589 tw15978842207842100845 tw9882920378188752493 tw15802421855003857549 tw16202608478726923949 tw13951610117827835565 tw4721779143393348301 tw13744701195078838029 tw16493149656122786605 tw17091539431820314413 tw2727920813120619341 tw969608342211821389 tw5949591670043613037 tw17431792443926223725 tw2424741269983830989 tw13965648461525708781 tw9747994090340515821 tw4441446056119883790 tw15012147741231960270 tw12011945959076775182 tw2841911298670883118 tw12078411542333898062 tw16884053534519173518 tw7570775949603649934 tw8751584652702723566 tw6122090434290377230 tw3163769839369188878 tw8520517743025063534 tw8296788906735351406 tw4425940813850007182 tw12675323327368919694 tw7443106124738664206 tw11097124272192483150 tw11794904225840636782 tw9622850805294954350 tw15340245832478360462 tw2482815096688354190 tw6124493489090591726 tw11583836453688978511 tw13321505529804255311 tw7528048494924037231 tw11081794924233209999 tw8728985092969827567 tw18258422958409617647 tw10637783854197646639 tw10506819951014580591 tw5845882441795522927 tw4917753762007072175 tw4993745085726042639 tw9023005867206985295 tw4840225145712887407 tw13177420401422463695 tw7242982618478399279 tw615314563555013615 tw16206690644268574703 tw17030757223564001328 tw13951032628558074992 tw6414400341591188592 tw6490704848011286704 tw15758743800649458960 tw16300036957514815760 tw7698725243829488016 tw6546352183454506384 tw7824098676858652080 tw982456762713484880 tw16192927806148254384 tw16829738903550838448 tw8542967323232096976 tw7179294817430296400 tw18043649786906752880 tw17799016673366346672 tw6233155291271375824 tw9122426415347209200 tw17173381291778526321 tw15103941353058252945 tw9582080208345478353 tw15570329399271220433 tw6081165080586915057 tw880045408082956561 tw9497173091827562801 tw12178497357498501425 tw2179901261542122833 tw16357555360161868209 tw8096896604967421457 tw9504917651246348017 tw12614770943784063793 tw995653408105280337 tw13518749381808820113 tw5339538244666722257 tw472513997453160466 tw1810219538979367026 tw10657773367685969042 tw14403761803291039922 tw17734609951883650226 tw3513928439084320978 tw6634725960034865362 tw2304412664987153650 tw646242838163472658 tw15572513127706979666 tw17495894686297707890 tw2624344828372413810 tw18296970026722433458 tw15200177260304678354 tw9620440937285580306 tw10040421242335640114 tw15378344889830603346 tw1336212263117955794 tw2172498630480962258 tw5228436284786998994 tw3431545554208151282 tw2383864555125728050 tw2172198132908976946 tw13297022706138651474 tw16168158622827490226 tw14726902635708591058 tw15711095929496124402 tw5530139668782414931 tw5215667094631306355 tw15469512948655569075 tw5323859620982234323 tw18234072137595987219 tw12003733982555749651 tw4193355259603057939 tw17752319129842032947 tw6239805363879213363 tw16072631627215672691 tw14424358850593348979 tw11685624582140995987 tw17038674909933569491 tw6205219819519256051 tw4211884707603146227 tw896580131733137971 tw16736589411976374835 tw13879674393332264531 tw13563656592469003891 tw6460640031915794035 tw5821546824846712563 tw7760949479047438067 tw6774791380640641811 tw11610063136777706387 tw12631204049006087059 tw17900880743397515219 tw12801589657880477683 tw15253268114781409300 tw10825951862213616660 tw12951331916325420052 tw5225683725460386900 tw7270567355487068276 tw13588484739774024020 tw11949230261427656020 tw3765201718116198772 tw9377044493108888948 tw12434480203546350964 tw6356199286286022036 tw9882388739713369556 tw2071556143260959220 tw3194850376631237140 tw10411058053478923796 tw9145860454353687092 tw9066958739989350996 tw15466620001220675220 tw6257972411643020980 tw750769779184197364 tw7195649147032210196 tw16227571656836840212 tw1057163513444158292 tw9080316568315260756 tw3542009759365342068 tw11535219303638880148 tw7245636473442569269 tw13952312465616814133 tw16207454640147934325 tw3455954116646089845 tw17808788949280742517 tw8168475334061987029 tw10350287951711530229 tw15974529092973500693 tw11805226533803828533 tw8127462034142603701 tw14305962621296266677 tw7938453876457485781 tw11986019308012582389 tw17443873125789452917 tw2253138098294973045 tw7145976800657538709 tw8629675519463837365 tw13133542385288415989 tw7475140084435942133 tw2980366690483536661 tw17083747099174256469 tw18161919728427038549 tw7776515519457740725 tw13064718149684257717 tw14368392676883055573 tw7851204976993661974 tw16217125069998594102 tw13849584224032441398 tw15647825355628075094 tw757553579098501270 tw12845453686285769942 tw7578588921268698326 tw9464127111706714358 tw4211853637417417974 tw11492655698393025814 tw15108112273236851030 tw16557201980210123126 tw16351410119531047286 tw16504473916358507926 tw10394536249324897846 tw456633567968239190 tw2623809341675289174 tw17553148434438740566 tw14901261911799033462 tw2341205970397104854 tw14763935659584681686 tw413976106363303670 tw7231613008943998710 tw4398091624224351030 tw13099489150746977110 tw5243541184593389430 tw13877711515150193590 tw12234898377480513462 tw1917445836809787318 tw14906941512841459638 tw14336550878424286263 tw1004374052440321143 tw16938267811577598135 tw13519206298734559575 tw11597879075567046999 tw2106257210822202711 tw1070985588471205271 tw11338705954571907479 tw4011583029674628567 tw17539320937494509015 tw15259178475970099735 tw9564023448884431415 tw12942538253469369943 tw10253389496005108343 tw1921758754665938551 tw11099087680901601975 tw3702240840751577815 tw15627410027667109655 tw9152297263664878359 tw13693718025438195479 tw9316279806519391031 tw8657345971980022679 tw13489614631126749111 tw787045208777612215 tw7284667267340113879 tw10937783893261823959 tw1843648704609235927 tw16034279830115729367 tw10422369959474488344 tw3053335561862456376 tw1111795956530006136 tw3961869095096079544 tw15057141890794675416 tw14781040645051911416 tw17610161225851454712 tw16284977757302734104 tw6854080679482765624 tw2984858256092467544 tw12243856909097193848 tw1113766929398138264 tw13678524767202753944 tw17703974072449794488 tw14493238307428483576 tw10977690884629005848 tw12383140612605104664 tw1933573024533083672 tw17290255002266531448 tw11896324130674831192 tw12167682683432450968 tw4071996804947019736 tw16759296982081399768 tw8144137308850160632 tw6716194127979418649 tw6310912213702846713 tw7011084442350720409 tw14087968880591152537 tw17791327805991274905 tw3331357777490150841 tw14220288634442045881 tw8165193493249510937 tw5678569636666901049 tw433006906396628537 tw1385453309136038457 tw438110762184408665 tw15027689355440552569 tw2175988737713098393 tw9074945224431791865 tw15708490055784105753 tw8209253156016186169 tw7798737850707488601 tw9770527581584046009 tw11613849456872917018 tw16208826514588499002 tw17604730871324027994 tw7278786501432650906 tw4515205135989900474 tw17041908590418840762 tw5261772920593985786 tw4377556026465134874 tw12835140520253886778 tw3233704187959247194 tw10161491029859557722 tw8303403187213759930 tw4895750354454849050 tw4811600131896010362 tw11550049284137167578 tw8927718460514917146 tw9773573810628465466 tw11152038556597786458 tw11733695864294296410 tw18122328580792780666 tw742751923315409818 tw3123133764043080634 tw17993346356540834778 tw18273316866965508058 tw13363321846718423131 tw9860449275767809147 tw9621387844782978171 tw12645547603356325115 tw9407787619394019579 tw3487342965125158171 tw9657922822242868507 tw1713745634762787163 tw18078524004945639771 tw7731830758353246587 tw16339749274227810747 tw15476757070936590779 tw3606553613882935835 tw13979083897189412443 tw10219315768483085915 tw6137031215877841563 tw7699845154124640955 tw759096866533175067 tw8422179128431592283 tw15795201383796090747 tw17072318737614621563 tw1632106011602209659 tw1950568703732298780 tw5447714172835135548 tw1108122693190660156 tw13182091532471061564 tw16594342691157304412 tw990595787805326428 tw4131423493349681340 tw15242499128797534428 tw9861637495917166812 tw11024324156694127836 tw6145948313461638396 tw6863820408802807068 tw9631927091904728348 tw15663635963116484892 tw5266945902028247356 tw17920151889330944348 tw11505510369548165500 tw9399691222145013244 tw1632140486102367740 tw16358152751058826844 tw1328098468996203100 tw14262236774185792156 tw5016812353695783708 tw311156941249946524 tw11157012041457485756 tw6972970730919042012 tw17893708726666060796 tw9633757074409360477 tw766860874828143709 tw3570872698394461341 tw12428155420963963069 tw9837054092495917277 tw7769704081133556957 tw15272403068991536349 tw4631987408186246429 tw16102641918520415581 tw12869663587574784381 tw317686204345508285 tw15917319011971958237 tw11975606009740320285 tw1588956571760092733 tw17503174663750707773 tw19935855347892829 tw3469160662779956861 tw18160123600888073853 tw614682402026411677 tw3148438400570876573 tw5182247956895856349 tw1888034946994945821 tw3022339055124481853 tw1128660804696918845 tw5127045738839177085 tw11567339737676259229 tw7235719689060148125 tw14689752075071467485 tw14679915058569778206 tw1577825028189551710 tw15303592419994797246 tw11103694068177403070 tw15159547598664211710 tw2366699098661131550 tw6919533339400098078 tw7386499607497062750 tw16662096264945442302 tw2778732648152097310 tw11693636419102228062 tw7383387822199042814 tw9673284418735002398 tw12159299961631310654 tw17138774776948729694 tw15847590499083504542 tw16429404392429821886 tw13350282745384352702 tw5400498551628795999 tw3848754509531812287 tw17764020318468666847 tw13603686108031782399 tw2354983806628957727 tw668233687765719583 tw2836096724917829151 tw13756979710785245759 tw11411940695935395423 tw17519589900817825375 tw15079734140177998463 tw5268767281474521759 tw7278558251986114239 tw4527029673758447295 tw7734780826915505887 tw16077366696285191903 tw15351419288123417375 tw17787787886632066879 tw11521491443870372767 tw6452430349825158047 tw5667317565596644255 tw8919341078126055391 tw11181312607049910271:True)
open PySem PySem.W PyProof.Rows
set_option maxRecDepth 100000 in
set_option maxHeartbeats 0 in
theorem PySem.Challenge.cw_stripmeld_k40_whole_nothing_to_do_holds : PySem.Challenge.rw_stripmeld_k40_whole_nothing_to_do.Holds := by
 w_on;o_law;k_head;(case hw=>w_witness2)
 k_fill
 refine Lam.RH (l:=PySem.Challenge.rw_stripmeld_k40_whole_nothing_to_do) (n:=63) (k:=8) (x:="_law_script") (sp:=Pu.SN) rfl (by decide) rfl ⟨rfl,by decide,by decide⟩ (fun w h Y=>PySem.W.km_in_of Y) (fun w h Y=>PySem.W.km_tabs_of Y _ Yy) ?F ?S
 case F=>
  intro w mg fa h KX G hmg
  refine' T.Zaf KX G hmg ?Vr ?V0 ?V1 ?V2 ?V3 ?V4 ?V5 ?V6 ?V7 ?V8 ?a0 ?a1 ?a2 ?a3 ?a4 ?a5 ?a6 ?a7 ?a8 ?a9 ?a10 ?a11 ?a12 ?a13 ?a14 ?a15 ?a16 ?a17 ?a18 ?a19 ?a20 ?a21 ?a22 ?a23 ?a24 ?a25 ?a26 ?a27 ?a28 ?a29 ?a30 ?a31 ?a32 ?a33 ?a34 ?a35 ?a36 ?a37 ?a38 ?a39 ?a40 ?a41 ?a42 ?a43 ?a44 ?a45 ?a46 ?a47 ?a48 ?a49 ?a50 ?a51 ?a52 ?a53 ?a54 ?a55 ?a56 ?a57 ?l57 ?c57 ?k57 ?V9 ?VA ?VB ?VC ?VD ?VE ?VF ?VG ?VH ?VI ?VJ ?VL ?VM ?VN ?VO ?VP ?VQ ?VR ?Vs ?Vt ?Vu ?Vv ?Vw ?Vx ?Vy ?Vz ?hq ?hPK ?hPC
  (case Vr|V0|V1|V2|V3|V4|V5|V6|V7|V8=>k_is)
  (case a0|a1|a2|a3|a4|a5|a6|a7|a8|a9|a10|a11|a12|a13|a14|a15|a16|a17|a18|a19|a20|a21|a22|a23|a24|a25|a26|a27|a28|a29=>apply Pu.di<;>k_is)
  (case a30|a31|a32|a33|a34|a35|a36|a37|a38|a39=>apply Pu.mi<;>k_is)
  (case a40|a41|a42|a43|a44|a45|a46|a47|a48|a49|a50|a51|a52|a53|a54|a55|a56=>apply Pu.di<;>k_is)
  (case a57|l57|c57|k57|V9|VA|VB|VC|VD|VE|VF|VG|VH|VI|VJ|VL|VM|VN|VO|VP|VQ|VR=>k_is)
  (case Vs|Vt|Vu|Vv|Vw|Vx|Vy|Vz=>apply Pu.ei<;>first|(k_is;done)|k_exc)
  (case hq=>exact rfl)
  (case hPK|hPC=>kernel_rfl)
 case S=>exact fun K H a ns hl hO hS=>⟨a,ns,rfl,hS,fun _=>rfl⟩
