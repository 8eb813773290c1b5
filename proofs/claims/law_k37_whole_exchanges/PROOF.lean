import PyProof.Rows.All
import Wide.All
import OpenK.AllK
import Wide.FinOn
import Lean
import PyProof.EqAt
import PyProof.EqKinds
import PyProof.TupleCall
import PySem.Challenge.RW_stripmeld_k37_whole_exchanges
set_option Elab.async false
set_option linter.all false
set_option maxRecDepth 100000
noncomputable section
def Yt:=@List.getElem?_eq_getElem
def Yu:=@List.length_map
def Yv:=@PySem.wpAny_bind
def Yw:=@List.getD_eq_getElem?_getD
def Yx:=@if_neg
def Yy:=@decide_eq_true
def Yz:=@if_pos
def Y0:=@of_decide_eq_true
def Y1:=@PySem.Heap.get?_push_of_some
def Y2:=@PySem.wpAny_pure
def Y3:=@Nat.le_refl
def Y4:=@List.length_append
def Y5:=@List.mem_singleton
def Y6:=@List.getElem?_map
def Y7:=@Option.some.inj
def Y8:=@Nat.le_trans
def Y9:=@List.map_append
def YA:=@List.mem_cons
def YB:=@PySem.Heap.lt_size
def YC:=@List.map_cons
def YD:=@List.size_toArray
def YE:=@PySem.Heap.get?_push_size
def YF:=@List.length_cons
def YG:=@Bool.false_ne_true
def YH:=@decide_eq_false
def YI:=@PySem.F.plainAttrs_list
def YJ:=@List.mem_cons_of_mem
def YK:=@List.getElem_mem
def YL:=@List.take_succ_eq_append_getElem
def YM:=@List.mem_of_getElem?
def YN:=@PySem.PassesOwn.never
def YO:=@List.mem_cons_self
def YQ:=@List.getElem?_eq_some_iff
def YR:=@List.mem_append
def YS:=@List.mem_filter
def YT:=@Nat.ne_of_lt
def YU:=@Nat.add_le_add
def YV:=@List.nodup_cons
def YW:=@List.getElem?_append_left
def YX:=@List.mem_map
def YY:=@Classical.byContradiction
def YZ:=@List.map_map
def Wa:=@List.mem_append_right
def Wb:=@Int.toNat_natCast
def Wc:=@List.getElem?_append_right
def Wd:=@List.length_filter_le
def We:=@List.length_take
def Wf:=@Bool.and_eq_true
def Wg:=@Nat.lt_of_lt_of_le
def Wh:=@List.pairwise_cons
def Wi:=@Array.length_toList
def Wj:=@congrArg
def Wk:=@List.drop_eq_getElem_cons
def Wl:=@List.append_nil
def Wm:=@PySem.W.mg_none_of
def Wn:=@List.length_singleton
def Wo:=@PySem.F.slot_list_append
def Wp:=@PySem.F.type_list_append
def Wq:=@PySem.Heap.get?_update_self
def Wr:=@List.take_length
def Ws:=@List.getElem?_cons_succ
def Wt:=@PySem.wpAny_newObj_type
def Wu:=@Classical.not_not
def Wv:=@PySem.Heap.get?_update_other
def Ww:=@Array.getElem?_toList
def Wx:=@PySem.wpAny_mono
def Wy:=@List.length_set
def Wz:=@PySem.Obj.data_mapFields
def W1:=@List.mem_iff_getElem
def W2:=@List.lookup_cons
def W3:=@PySem.Heap.SameBut.update
def W4:=@List.nodup_append
def W5:=@PySem.W.mg_of
def W6:=@List.eq_nil_or_concat
def W7:=@PySem.W.kia_one
def W8:=@PySem.F.slot_list_index
def W9:=@List.cons_append
def WA:=@Nat.zero_le
def WB:=@Array.getElem?_eq_getElem
def WC:=@List.getElem?_take_of_lt
def WD:=@Nat.lt_irrefl
def WE:=@List.pairwise_append
def WG:=@List.length_eq_zero_iff
def WH:=@PySem.F.type_list_index
def WI:=@PyProof.Rows.boot_isinstance
def WJ:=@beq_eq_false_iff_ne
def WK:=@List.map_congr_left
def WL:=@PySem.wpAny_setField
def WM:=@PySem.Obj.isFreed_of_fields
def WN:=@Nat.add_sub_cancel
def WO:=@List.concat_eq_append
def WQ:=@Nat.le_of_eq
def WR:=@List.cons.injEq
def WS:=@PySem.F.slot_dict_valueiterator_next
def WT:=@List.dropLast_concat
def WU:=@Bool.eq_false_iff
def WV:=@PySem.wpAny_holding
def WW:=@PySem.wpAny_typeNameOfWhole_valiter
def WX:=@List.getElem?_replicate
def WY:=@List.filterMap_cons
def WZ:=@PySem.mem_of_lookup
def Qa:=@PySem.wpAny_call_entry
def Qb:=@List.filterMap_eq_map'
def Qc:=@PyProof.Rows.F.plain_set_update_loop
def Qd:=@List.map_singleton
def Qe:=@PySem.wpAny_passesOwn
def Qf:=@List.getElem?_eq_none
def Qg:=@List.sum_cons
def Qh:=@PySem.wpAny_truthy_bool
def Qi:=@PySem.wpAny_setState_of
def Qj:=@Nat.lt_succ_of_lt
def Qk:=@List.mem_append_left
def Ql:=@List.pairwise_iff_getElem
def Qm:=@PySem.Around.under_plainId
def Qn:=@List.getLast?_concat
def Qo:=@Bool.false_and
def Qp:=@PySem.Heap.size_push
def Qq:=@List.nodup_nil
def Qr:=@Nat.lt_succ_self
def Qs:=@List.all_eq_true
def Qt:=@PySem.wpAny_typeNameOf_valiter
def Qu:=@List.length_pos_iff
def Qv:=@List.any_cons
def Qw:=@Bool.true_and
def Qx:=@List.find?_cons
def Qy:=@PySem.codeAny_builtin
def Qz:=@List.take_of_length_le
def Q0:=@Int.le_refl
def Q1:=@List.pairwise_map
def Q2:=@decide_eq_true_eq
def Q3:=@List.length_range
def Q4:=@List.mem_range
def Q5:=@PySem.codeAny_mono
def Q6:=@Nat.lt_trans
def Q7:=@List.filterMap_append
def Q8:=@PySem.F.slot_list_pop
def Q9:=@PySem.F.type_list_pop
def QA:=@PyProof.Rows.callWith_type1
def QB:=@Array.getElem?_eq_some_iff
def QC:=@Nat.le_succ
def QD:=@Nat.le_of_lt
def QE:=@PySem.wpAny_Call_Name_kw
def QF:=@PySem.F.args_tuple_add_2
def QG:=@PySem.tupleKind_room_in1
def QH:=@PyProof.Rows.F.entry_set_update_loop
def QI:=@Bool.false_eq_true
def QJ:=@List.idxOf_lt_length_iff
def QK:=@Int.ne_of_lt
def QL:=@PySem.F.entry_tuple_add
def QM:=@PySem.wpAny_callSpecial?_slot
def QN:=@List.take_sublist
def QO:=@PySem.fits_of_scanBound
def QP:=@PySem.Obj.cls_mapFields
def QR:=@List.append_assoc
def QS:=@List.getElem?_set_self
def QT:=@PySem.F.slot_tuple_add
def QU:=@Array.getElem?_eq_none
def QV:=@Int.add_mul
def QW:=@List.all_cons
def QX:=@PySem.plainId_quiet
def QY:=@List.length_drop
def QZ:=@if_false
def Va:=@List.drop_length
def Vb:=@List.not_mem_nil
def Vc:=@List.ext_getElem
def Vd:=@List.getElem_map
def Ve:=@List.pairwise_of_forall_mem_list
def Vf:=@PySem.W.methodCall_KW
def Vg:=@List.take_append_drop
def Vh:=@PySem.wpAny_isOneOf_valiter
def Vi:=@List.getElem?_reverse
def Vj:=@PySem.Heap.get?_none_of_le
def Vk:=@List.getElem?_set_ne
def Vl:=@PySem.wpAny_execs_nil
def Vm:=@Bool.eq_iff_iff
def Vn:=@Option.map_some
def Vo:=@List.forIn_cons
def Vp:=@Nat.not_lt
def Vq:=@List.mem_of_mem_take
def Vr:=@Int.add_zero
def Vs:=@PySem.W.plainGet_of
def Vt:=@List.filter_sublist
def Vu:=@List.length_reverse
def Vv:=@List.take_succ_cons
def Vw:=@List.flatMap_append
def Vx:=@Bool.and_false
def Vy:=@PySem.wpAny_field
def Vz:=@List.mem_filterMap
def V0:=@PySem.W.callWith_K
def V1:=@Nat.lt_of_le_of_lt
def V2:=@List.getElem_idxOf
def V3:=@List.getElem_range
def V4:=@Int.emod_lt_of_pos
def V5:=@Sum.inl.injEq
def V6:=@List.any_eq_false
def V7:=@Option.isSome_map
def V8:=@List.ext_getElem?
def V9:=@Bool.not_eq_true'
def VA:=@List.Pairwise.map
def VB:=@List.getElem_take
def VC:=@Nat.ne_of_gt
def VD:=@List.map_nil
def VE:=@Nat.sub_self
abbrev Za:=PySem.W.Frag
namespace L2
open PySem PySem.Spec PyProof.Rows
abbrev Key:=Sum Int Str
def Tp:Key->Value->Bool
 | .inl k,v=>Value.isInt k v
 | .inr x,v=>Value.isStrOf x v
def keyH(w:World):Key->Int
 | .inl k=>hashInt k
 | .inr x=>hashStr w x
def KH:∀{k:Key}{v:Value},Tp k v=true->(∃i t,k=Sum.inl i/\v=Value.int i t)\/(∃x t,k=Sum.inr x/\v=Value.str x t)
 | .inl i,v,h=>by
  obtain⟨t,e⟩:=Value.isInt_shape (k:=i) (v:=v) h;exact .inl ⟨i,t,rfl,e⟩
 | .inr x,v,h=>by
  obtain⟨t,e⟩:=Value.isStrOf_shape (x:=x) (v:=v) h;exact .inr ⟨x,t,rfl,e⟩
def Zdv(i:Int)(t:Tok):Tp (.inl i) (.int i t)=true:=by simp[Tp,Value.isInt]
def Zfi(x:Str)(t:Tok):Tp (.inr x) (.str x t)=true:=by simp[Tp,Value.isStrOf]
def Zd3(a b:Int):decide ((Sum.inl a:Key)=Sum.inl b)=(a==b):=by
 by_cases e:a=b
 ·subst e;simp
 ·have h:¬(Sum.inl a:Key)=Sum.inl b:=fun q=>e (Sum.inl.inj q);rw[YH h];exact(WJ.mpr e).symm
def Zdq(a b:Str):decide ((Sum.inr a:Key)=Sum.inr b)=decide (a=b):=by
 by_cases e:a=b
 ·subst e;simp
 ·have h:¬(Sum.inr a:Key)=Sum.inr b:=fun q=>e (Sum.inr.inj q);rw[YH h,YH e]
def Zfy(a:Int)(b:Str):decide ((Sum.inl a:Key)=Sum.inr b)=false:=YH (fun q=>nomatch q)
def Zht(a:Str)(b:Int):decide ((Sum.inr a:Key)=Sum.inl b)=false:=YH (fun q=>nomatch q)
def XO(prog:Program)(w:World):PySem.KeyKind prog w Key where
 is:=Tp
 hash:=keyH w
 inj:=fun v a b ha hb=>by
  rcases KH ha with⟨i,t,rfl,rfl⟩|⟨x,t,rfl,rfl⟩
  ·rcases KH hb with⟨j,u,rfl,e⟩|⟨y,u,rfl,e⟩
   ·injection e with e1 _;rw[e1]
   ·exact nomatch e
  ·rcases KH hb with⟨j,u,rfl,e⟩|⟨y,u,rfl,e⟩
   ·exact nomatch e
   ·injection e with e1 _;rw[e1]
 byValue:=fun k v h=>by
  rcases KH h with⟨i,t,rfl,rfl⟩|⟨x,t,rfl,rfl⟩<;>rfl
 pyHash:=fun hv h=>by
  rcases KH hv with⟨i,t,rfl,rfl⟩|⟨x,t,rfl,rfl⟩
  ·exact wpAny_pyHash_int h
  ·exact wpAny_pyHash_str h
 eqBool:=fun hu hv h=>by
  rcases KH hu with⟨i,t,rfl,rfl⟩|⟨x,t,rfl,rfl⟩
  ·rcases KH hv with⟨j,u,rfl,rfl⟩|⟨y,u,rfl,rfl⟩
   ·rw[Zd3]at h;exact wpAny_eqBool_int h
   ·rw[Zfy]at h;exact SeqAt.EqAt.int_str i t y u _ _ _ _ h
  ·rcases KH hv with⟨j,u,rfl,rfl⟩|⟨y,u,rfl,rfl⟩
   ·rw[Zht]at h;exact SeqAt.EqAt.str_int x t j u _ _ _ _ h
   ·rw[Zdq]at h;exact wpAny_eqBool_str h
 «strs»:=fun k x t v h=>by
  rcases KH h with⟨i,u,rfl,e⟩|⟨y,u,rfl,e⟩
  ·exact nomatch e
  ·injection e with e1 _;subst e1;cases v<;>rfl
def Zfr(prog:Program)(w:World)(i:Int)(t:Tok):(XO prog w).is (.inl i) (.int i t)=true:=Zdv i t
def Zc8(prog:Program)(w:World)(x:Str)(t:Tok):(XO prog w).is (.inr x) (.str x t)=true:=Zfi x t
inductive V where
 |non|bl (b:Bool)|int (i:Int)|str (x:Str)|byt (b:Array UInt8)|flt (b:UInt64)|ref (a:Addr)|ty (n:String)
 deriving DecidableEq
def RelV:V->Value->Prop
 | .non,u=>u=Value.none
 | .bl b,u=>u=Value.bool b
 | .int i,u=>∃t,u=Value.int i t
 | .str x,u=>∃t,u=Value.str x t
 | .byt b,u=>∃t,u=Value.bytes b t
 | .flt b,u=>∃t,u=Value.float b t
 | .ref a,u=>u=Value.ref a
 | .ty n,u=>u=Value.type n
abbrev Vals:List V->List Value->Prop:=Paired RelV
def Vals.length {xs:List V}{us:List Value} (r:Vals xs us):xs.length=us.length:=Paired.length r
def Vals.get:∀{xs:List V}{us:List Value}{i:Nat}{x:V},Vals xs us->xs[i]?=some x->∃u,us[i]?=some u/\RelV x u
 |_,_,_,_,.nil,e=>by simp at e
 |_,_,0,_,.cons r _,e=>by simp at e;subst e;exact⟨_,rfl,r⟩
 |_,_,i+1,x,.cons _ t,e=>by
  obtain⟨u,h1,h2⟩:=Vals.get (i:=i) (x:=x) t (by simpa using e);exact⟨u,by simpa using h1,h2⟩
def Vals.set {x:V}{u:Value} (r:RelV x u):∀{xs:List V}{us:List Value} (i:Nat),Vals xs us->Vals (xs.set i x) (us.set i u)
 |_,_,_,.nil=>.nil
 |_,_,0,.cons _ t=>.cons r t
 |_,_,i+1,.cons q t=>.cons q (Vals.set r i t)
def Vals.append:∀{xs ys:List V}{us ws:List Value},Vals xs us->Vals ys ws->Vals (xs++ys) (us++ws)
 |_,_,_,_,.nil,s=>s
 |_,_,_,_,.cons r t,s=>.cons r (Vals.append t s)
def Vals.take:∀{xs:List V}{us:List Value} (n:Nat),Vals xs us->Vals (xs.take n) (us.take n)
 |_,_,0,_=>.nil
 |_,_,_+1,.nil=>.nil
 |_,_,n+1,.cons r t=>.cons r (Vals.take n t)
def Vals.drop:∀{xs:List V}{us:List Value} (n:Nat),Vals xs us->Vals (xs.drop n) (us.drop n)
 |_,_,0,r=>r
 |_,_,_+1,.nil=>.nil
 |_,_,n+1,.cons _ t=>Vals.drop n t
def RelO:Option V->Option Value->Prop
 |some v,some u=>RelV v u
 |none,none=>True
 |_,_=>False
def KV{κ:Type}:List (κ×V)->List (κ×Value)->Prop:=Paired fun(p:κ×V) (q:κ×Value)=>p.1=q.1/\RelV p.2 q.2
def kV:Key->V
 | .inl i=>.int i
 | .inr x=>.str x
inductive HO where
 |lst (xs:List V)
 |tup (xs:List V)
 |dK (kvs:List (Key×V))|dT (kvs:List (List Key×V))
 |set (S:Int->Bool) (n:Nat)
 |ins (C dx:Addr) (fs:List (Str×V))
 |own (x:Addr)
 |xd (fs:List (Str×V))
 |met (f x:Addr)
 |rng (lo hi:Int)
 |frz (o:Obj) (u:HO)
 |tbl (ps:Array Value)
 |ext (φ:Heap->Prop)
abbrev Hp:=Addr->Option HO
def upd(H:Hp)(a:Addr)(o:HO):Hp:=fun b=>if b=a then some o else H b
def UJ{H:Hp}{a:Addr}{o:HO}:upd H a o a=some o:=by unfold upd;rw[Yz rfl]
def Uv{H:Hp}{a b:Addr}{o:HO}(h:b≠a):upd H a o b=H b:=by unfold upd;rw[Yx h]
def MG{H:Hp}{a:Addr}{o u:HO}:upd (upd H a o) a u=upd H a u:=by
 funext b;unfold upd;split<;>rfl
def Gu{H:Hp}{a b:Addr}{o u:HO}(h:H a=some o)(h':H b=some u)(d:o≠u):a≠b:=by
 intro e;subst e;rw[h]at h';exact d (Y7 h')
def Kb{H:Hp}{a b:Addr}{o:HO}(h:H a=some o)(h':H b=none):a≠b:=by
 intro e;subst e;rw[h]at h';cases h'
section
variable (P:Program) (w:World)
def ObjOk(H:Hp)(h:Heap)(a:Addr):HO->Prop
 | .lst xs=>xs.length<=sizeLine/\∃(its:List Value) (n:Nat),Vals xs its/\h.get? a=some {cls:=.type "list",data:=.seq its.toArray n}
 | .tup xs=>xs.length<=sizeLine/\∃its:List Value,Vals xs its/\IsTup h a its.toArray
 | .dK kvs=>kvs.length<=sizeLine/\(a==sysModules)=false/\∃vs,KV kvs vs/\h.DictOf (XO P w) a vs
 | .dT kvs=>kvs.length<=sizeLine/\(a==sysModules)=false/\∃xs:List (List Key×Addr×Value),
   Paired (fun(p:List Key×V) (q:List Key×Addr×Value)=>p.1=q.1/\H q.2.1=some (.tup (p.1.map kV))/\RelV p.2 q.2.2) kvs xs/\
   ∃o es ep,h.get? a=some o/\o.ExactDict/\o.data=.dict es ep/\es.toList=xs.map (entryOfKey (tupleKind (XO P w)))/\(xs.map (·.1)).Nodup
 | .set S n=>h.SetOf (intKind P w) a S n
 | .ins C dx fs=>H dx=some (.own a)/\fs.length<=1000/\dx≠a/\h.get? a=some (PySem.W.instObj C dx)/\
   ∃mA,h.Ns1 dx mA/\(∀f,RelO (fs.lookup f) (mA f))/\PySem.Within mA (fs.map (·.1))
 | .own _=>∃o,h.get? a=some o
 | .xd fs=>∃mA,h.Ns1 a mA/\∀f,RelO (fs.lookup f) (mA f)
 | .rng lo hi=>∃t u v,h.get? a=some {cls:=.type "range",data:=.fields #[.int lo t,.int hi u,.int 1 v]}
 | .frz o u=>h.get? a=some o/\ObjOk H h a u
 | .tbl ps=>h.get? a=some {cls:=.none,data:=.fields ps}
 | .met f x=>h.get? a=some (PySem.W.methodObj (.ref f) (.ref x))
 | .ext φ=>φ h/\(∃o,h.get? a=some o)/\∀h1 h2:Heap,φ h1->(∀o,h1.get? a=some o->h2.get? a=some o)->φ h2
def HOk(H:Hp)(h:Heap):Prop:=∀a o,H a=some o->ObjOk P w H h a o
end
section
variable {P:Program}{w:World}{H H':Hp}{h h':Heap}{a:Addr}{o:HO}
def ObjOk.lt (x:ObjOk P w H h a o):a<h.objs.size:=by
 cases o with
 |lst xs=>obtain⟨_,_,_,_,e⟩:=x;exact YB e
 |tup xs=>obtain⟨_,_,_,p⟩:=x;exact p.lt
 |dK kvs=>obtain⟨_,_,_,_,o,_,_,e,_⟩:=x;exact YB e
 |dT kvs=>obtain⟨_,_,_,_,o,_,_,e,_⟩:=x;exact YB e
 |set S n=>obtain⟨o,_,_,_,e,_⟩:=x;exact YB e
 |ins C dx fs=>obtain⟨_,_,_,e,_⟩:=x;exact YB e
 |own y=>obtain⟨_,e⟩:=x;exact YB e
 |xd fs=>obtain⟨_,⟨_,_,_,e,_⟩,_⟩:=x;exact YB e
 |rng lo hi=>obtain⟨_,_,_,e⟩:=x;exact YB e
 |frz ob u=>obtain⟨e,_⟩:=x;exact YB e
 |tbl ps=>exact YB (show h.get? a=some _ from x)
 |met f y=>exact YB (show h.get? a=some _ from x)
 |ext φ=>obtain⟨_,⟨_,e⟩,_⟩:=x;exact YB e
def Paired.mapP {α β:Type}{F G:α->β->Prop}:∀{l₁:List α}{l₂:List β},Paired F l₁ l₂->(∀a b,F a b->G a b)->Paired G l₁ l₂
 |_,_,.nil,_=>.nil
 |_,_,.cons r t,f=>.cons (f _ _ r) (Paired.mapP t f)
def ObjOk.stay (x:ObjOk P w H h a o) (k:∀b u,(b=a\/H b=some (.own a))->h.get? b=some u->h'.get? b=some u)
  (ho:∀b,H b=some (.own a)->H' b=some (.own a)) (ht:∀b xs,H b=some (.tup xs)->H' b=some (.tup xs)):ObjOk P w H' h' a o:=by
 induction o with
 |lst xs=>obtain⟨z,its,n,r,e⟩:=x;exact⟨z,its,n,r,k _ _ (.inl rfl) e⟩
 |tup xs=>obtain⟨z,its,r,ob,e,c⟩:=x;exact⟨z,its,r,ob,k _ _ (.inl rfl) e,c⟩
 |dK kvs=>obtain⟨z,y,vs,r,ob,es,ep,e,c⟩:=x;exact⟨z,y,vs,r,ob,es,ep,k _ _ (.inl rfl) e,c⟩
 |dT kvs=>
  obtain⟨z,y,xs,r,ob,es,ep,e,c⟩:=x;exact⟨z,y,xs,Paired.mapP r fun p q z=>⟨z.1,ht _ _ z.2.1,z.2.2⟩,ob,es,ep,k _ _ (.inl rfl) e,c⟩
 |set S n=>obtain⟨ob,es,ep,t,e,c⟩:=x;exact⟨ob,es,ep,t,k _ _ (.inl rfl) e,c⟩
 |ins C dx fs=>
  obtain⟨d,z,ne,e,mA,⟨od,es,ep,e2,c⟩,r⟩:=x;exact⟨ho _ d,z,ne,k _ _ (.inl rfl) e,mA,⟨od,es,ep,k _ _ (.inr d) e2,c⟩,r⟩
 |own y=>obtain⟨ob,e⟩:=x;exact⟨ob,k _ _ (.inl rfl) e⟩
 |xd fs=>obtain⟨mA,⟨od,es,ep,e,c⟩,r⟩:=x;exact⟨mA,⟨od,es,ep,k _ _ (.inl rfl) e,c⟩,r⟩
 |rng lo hi=>obtain⟨t,u,v,e⟩:=x;exact⟨t,u,v,k _ _ (.inl rfl) e⟩
 |frz ob u ih=>obtain⟨e,q⟩:=x;exact⟨k _ _ (.inl rfl) e,ih q⟩
 |tbl ps=>
  have e:h.get? a=some {cls:=.none,data:=.fields ps}:=x;show h'.get? a=some {cls:=.none,data:=.fields ps};exact k a _ (.inl rfl) e
 |met f y=>
  have e:h.get? a=some (PySem.W.methodObj (.ref f) (.ref y)):=x;show h'.get? a=some (PySem.W.methodObj (.ref f) (.ref y));exact k a _ (.inl rfl) e
 |ext φ=>obtain⟨p,⟨o,e⟩,st⟩:=x;exact⟨st _ _ p fun o q=>k _ _ (.inl rfl) q,⟨o,k _ _ (.inl rfl) e⟩,st⟩
def HOk.lt (x:HOk P w H h) (e:H a=some o):a<h.objs.size:=(x a o e).lt
def HOk.fresh (x:HOk P w H h) (e:h.objs.size<=a):H a=none:=by
 cases q:H a with
 |none=>rfl
 |some u=>exact absurd (Wg (x.lt q) e) (WD _)
def HOk.kept (x:HOk P w H h) (k:∀b u,h.get? b=some u->h'.get? b=some u):HOk P w H h':=fun a o e=>
 (x a o e).stay (fun b u _ q=>k b u q) (fun _ q=>q) fun _ _ q=>q
def HOk.laid (x:HOk P w H h) (k:∀b u,h.get? b=some u->h'.get? b=some u) (hp:h.objs.size<=a) (new:ObjOk P w (upd H a o) h' a o):HOk P w (upd H a o) h':=fun b u e=>by
 have hn:=x.fresh hp;by_cases hb:b=a
 ·subst hb;rw[UJ]at e;cases e;exact new
 ·rw[Uv hb]at e;exact(x b u e).stay (fun c v _ q=>k c v q) (fun c q=>by rw[Uv (Kb q hn)];exact q) fun c xs q=>by rw[Uv (Kb q hn)];exact q
end
def Rd(H:Hp)(a:Addr)(u:HO):Prop:=H a=some u\/∃o,H a=some (.frz o u)
def Rd.ok {P:Program}{w:World}{H:Hp}{h:Heap}{a:Addr}{u:HO} (r:Rd H a u) (x:HOk P w H h):ObjOk P w H h a u:=by
 rcases r with r|⟨o,r⟩
 ·exact x a u r
 ·obtain⟨_,q⟩:=x a _ r;exact q
def Mut:Option HO->Prop
 |some (.lst _)=>True
 |some (.dK _)=>True
 |some (.dT _)=>True
 |some (.set _ _)=>True
 |some (.ins _ _ _)=>True
 |some (.ext _)=>True
 |_=>False
section
variable {P:Program}{w:World}{H:Hp}{h h':Heap}{x e:Addr}{o':HO}
def HOk.write (ok:HOk P w H h) (mu:Mut (H x)) (he:e=x\/H e=some (.own x)) (k:∀b u,b≠e->h.get? b=some u->h'.get? b=some u) (heo:∃u,h'.get? e=some u)
  (new:ObjOk P w (upd H x o') h' x o'):HOk P w (upd H x o') h':=fun b u q=>by
 have nown:∀c y,H c=some (.own y)->c≠x:=fun c y r z=>by subst z;rw[r]at mu;exact mu
 have ntup:∀c xs,H c=some (.tup xs)->c≠x:=fun c xs r z=>by subst z;rw[r]at mu;exact mu
 by_cases hb:b=x
 ·subst hb;rw[UJ]at q;cases q;exact new
 ·rw[Uv hb]at q;by_cases hbe:b=e
  ·have q':H b=some (.own x):=by
    rcases he with z|z
    ·exact absurd (hbe.trans z) hb
    ·rw[hbe];exact z
   rw[q]at q';cases q';obtain⟨v,hv⟩:=heo;exact⟨v,by rw[hbe];exact hv⟩
  ·refine(ok b u q).stay (fun c v hc r=>k c v ?_ r) (fun c r=>by rw[Uv (nown c b r)];exact r) fun c xs r=>by rw[Uv (ntup c xs r)];exact r
   rcases hc with rfl|hc
   ·exact hbe
   ·rintro rfl;rcases he with z|z
    ·exact nown c b hc z
    ·rw[hc]at z;cases z;exact hb rfl
end
structure Un (fs ex:List Addr) (H H':Hp) (h h':Heap):Prop where
 keep:∀b o,h.get? b=some o->H b=none->b∉fs->b∉ex->h'.get? b=some o
 slot:∀b o,h.get? b=some o->H b=none->b∈fs->b∉ex->∃sl,h'.get? b=some {o with slots:=sl}
 free:∀b o,h.get? b=some o->H b=none->b∉ex->H' b=none
 there:∀b o,h.get? b=some o->b∉ex->∃o',h'.get? b=some o'
 tups:∀b xs,H b=some (.tup xs)->H' b=some (.tup xs)
 frzs:∀b o u,H b=some (.frz o u)->H' b=some (.frz o u)
 tbls:∀b ps,H b=some (.tbl ps)->∃more,H' b=some (.tbl (ps++more))
section
variable {fs fs' ex ex':List Addr}{H H1 H2:Hp}{h h1 h2 h':Heap}{a x e:Addr}{o:HO}
def Un.any (u:Un fs ex H H1 h h1) {b:Addr}{ob:Obj} (q:h.get? b=some ob) (n:H b=none) (hx:b∉ex):∃sl,h1.get? b=some {ob with slots:=sl}:=by
 by_cases hb:b∈fs
 ·exact u.slot b ob q n hb hx
 ·exact⟨ob.slots,u.keep b ob q n hb hx⟩
def Un.kept (k:∀b u,h.get? b=some u->h'.get? b=some u):Un fs ex H H h h':=
 ⟨fun b ob q _ _ _=>k b ob q,fun b ob q _ _ _=>⟨ob.slots,k b ob q⟩,fun _ _ _ n _=>n,fun b ob q _=>⟨ob,k b ob q⟩,fun _ _ q=>q,fun _ _ _ q=>q,fun _ ps q=>⟨#[],by rw[q];simp⟩⟩
def Un.refl:Un fs ex H H h h:=Un.kept fun _ _ q=>q
def Un.laid (k:∀b u,h.get? b=some u->h'.get? b=some u) (hp:h.objs.size<=a) (hn:H a=none):Un fs ex H (upd H a o) h h' where
 keep:=fun b u q _ _ _=>k b u q
 slot:=fun b u q _ _ _=>⟨u.slots,k b u q⟩
 free:=fun b u q n _=>by rw[Uv (YT (Wg (YB q) hp))];exact n
 there:=fun b u q _=>⟨u,k b u q⟩
 tups:=fun b xs q=>by rw[Uv (Kb q hn)];exact q
 frzs:=fun b u xs q=>by rw[Uv (Kb q hn)];exact q
 tbls:=fun b ps q=>⟨#[],by rw[Uv (Kb q hn),q];simp⟩
def Un.write (mu:Mut (H x)) (he:e=x\/H e=some (.own x)) (k:∀b u,b≠e->h.get? b=some u->h'.get? b=some u) (heo:∃u,h'.get? e=some u):Un fs ex H (upd H x o) h h':=by
 have hx:∀b,H b=none->b≠x:=fun b n z=>by subst z;rw[n]at mu;exact mu
 have hb:∀b,H b=none->b≠e:=fun b n z=>by
  subst z;rcases he with r|r
  ·exact hx b n r
  ·rw[n]at r;cases r
 have hm:∀b u,H b=some u->¬Mut (some u)->b≠x:=fun b u q nm z=>by subst z;rw[q]at mu;exact nm mu
 refine⟨fun b u q n _ _=>k b u (hb b n) q,fun b u q n _ _=>⟨u.slots,k b u (hb b n) q⟩,fun b u q n _=>by rw[Uv (hx b n)];exact n,fun b u q _=>?_,
  fun b xs q=>by rw[Uv (hm b _ q fun z=>z)];exact q,fun b u xs q=>by rw[Uv (hm b _ q fun z=>z)];exact q,fun b ps q=>⟨#[],by rw[Uv (hm b _ q fun z=>z),q];simp⟩⟩
 by_cases hbe:b=e
 ·subst hbe;exact heo
 ·exact⟨u,k b u hbe q⟩
end
def trk(h:Heap)(H:Hp):List Addr:=(List.range h.objs.size).filter fun a=>(H a).isSome
def hidT(h:Heap)(H:Hp):Heap:=PySem.W.hideAll h (trk h H)
def Zhr(h:Heap)(H:Hp):(hidT h H).objs.size=h.objs.size:=PySem.W.hideAll_size _ _
def Zhb{h:Heap}{H:Hp}{b:Addr}{o:Obj}(e:h.get? b=some o)(n:H b=none):(hidT h H).get? b=some o:=
 PySem.W.hideAll_get _ e fun hm=>by
  have q:(H b).isSome=true:=(YS.mp hm).2;rw[n]at q;simp at q
def Lx{h:Heap}{H:Hp}{b:Addr}{o:Obj}(e:(hidT h H).get? b=some o):h.get? b=some o/\H b=none:=by
 have e':h.get? b=some o:=PySem.W.of_hideAll (trk h H) e;refine⟨e',?_⟩;cases q:H b with
 |none=>rfl
 |some x=>
  have hm:b∈trk h H:=YS.mpr ⟨Q4.mpr (YB e'),by simp[q]⟩;have z:(hidT h H).get? b=none:=PySem.W.hideAll_none (trk h H) hm;rw[z]at e;cases e
def MC(g h:Heap)(L:Addr):List (Addr×Obj):=(List.range h.objs.size).filterMap fun a=>if a=L\/(g.get? a).isSome=true then none else(h.get? a).map fun o=>(a,o)
def rest(g h:Heap)(L d:Addr):List (Addr×Obj):=(MC g h L).filter fun p=>decide (p.1≠d)
structure Mod (K:Za) (mg:Str->Option Value) (base:Heap):Prop where
 kin:K.In base
 glob:base.Ns mainGlobals mg
 blt:∃mb,base.Ns builtinsNs mb/\∀x:Str,x≠"__name__"->mb x=bootBuiltins x
 nolimit:base.NoLimit
structure Cx where
 prog:Program
 w:World
 K:Za
 mg:Str->Option Value
 base:Heap
 A:Around
 N:List Str
 s₀:Shared
 H₀:Hp
 env:Env
 outer:List Env
 stack:List Env
 ex:List Addr
 fn:Str->Bool
 calm:Bool
 pn:List (Addr×Obj)
 xe:Value->Shared->Prop
def frs(l:List Env):List Addr:=l.filterMap (·.frame)
abbrev Cx.fs (X:Cx):List Addr:=frs X.outer
def Vis(sc:Scope)(x:Str):Prop:=sc.names.lookup x=some .local\/sc.names.lookup x=some .cell\/sc.names.lookup x=some .free
def Loc(sc:Scope)(x:Str):Prop:=sc.names.lookup x=some .local\/sc.names.lookup x=some .cell
def Look(env:Env)(h:Heap)(m:Str->Option Value)(x:Str)(u:Value):Prop:=
 (env.kindOf x=some .local/\m x=some u)\/((env.kindOf x=some .cell\/env.kindOf x=some .free)/\∃c,env.cells.lookup x=some c/\h.IsCell c (some u))
structure Cx.Ok (X:Cx):Prop where
 mod:Mod X.K X.mg X.base
 kind:X.env.scope.kind=.function
 glob:X.env.globals=mainGlobals
 blt:X.env.builtins=builtinsNs
 above:X.s₀.heap.objs.size<=X.env.locals
 inj:∀x y c,X.env.cells.lookup x=some c->X.env.cells.lookup y=some c->x=y
 has:∀x,(X.env.kindOf x=some .cell\/X.env.kindOf x=some .free)->∃c,X.env.cells.lookup x=some c
 cab:∀x c,X.fn x=true->X.env.cells.lookup x=some c->X.s₀.heap.objs.size<=c
 hd:X.calm=true->X.A.handled=none
 frames:X.A.frames=some X.stack
 stk:X.stack=X.outer\/(X.stack=X.env::X.outer/\X.env.frame=some X.env.locals)
 exf:∀b∈X.ex,b≠X.env.locals/\∀x c,X.env.cells.lookup x=some c->c≠b
 bs:∀b o,X.base.get? b=some o->X.s₀.heap.get? b=some o/\X.H₀ b=none
 bsz:X.base.objs.size<=X.s₀.heap.objs.size
 noex:∀b o,X.base.get? b=some o->b∉X.ex
 exfs:∀b∈X.ex,b∉X.fs
 funs:X.s₀.heap.FunFrames X.base X.outer
 frf:∀b∈X.fs,X.H₀ b=none
structure Inv (X:Cx) (pins:List (Addr×Obj)) (σ:List (Option V)) (H:Hp) (s:Shared):Prop where
 ok:X.Ok
 os:s.os=X.s₀.os
 bare:AllBare s.gens
 base:Un X.fs X.ex X.H₀ H X.s₀.heap s.heap
 loc:∃m,s.heap.Ns X.env.locals m/\∀(i:Nat) (x:Str) (v:V),X.N[i]?=some x->σ[i]?=some (some v)->Vis X.env.scope x->∃u,RelV v u/\Look X.env s.heap m x u
 cell:∀x c,X.env.cells.lookup x=some c->∃v,s.heap.IsCell c v
 free:H X.env.locals=none
 freeC:∀x c,X.env.cells.lookup x=some c->H c=none
 pin:∀p∈X.pn++pins,s.heap.get? p.1=some p.2/\H p.1=none/\p.1≠X.env.locals/\p.1∉X.fs/\∀v,p.2.data≠.cell v
 hok:HOk X.prog X.w H s.heap
 len:σ.length=X.N.length
section
variable {X:Cx}{pins:List (Addr×Obj)}{σ:List (Option V)}{H H':Hp}{s:Shared}{h':Heap}
def Cx.Ok.nofr (ok:X.Ok) {b:Addr}{o:Obj} (e:X.base.get? b=some o):b∉X.fs:=fun hb=>by
 have:=(ok.funs.mem hb).1
 rw[e]at this;cases this
def Inv.bs (I:Inv X pins σ H s):∀b o,X.base.get? b=some o->s.heap.get? b=some o/\H b=none:=fun b o e=>
 ⟨I.base.keep b o (I.ok.bs b o e).1 (I.ok.bs b o e).2 (I.ok.nofr e) (I.ok.noex b o e),I.base.free b o (I.ok.bs b o e).1 (I.ok.bs b o e).2 (I.ok.noex b o e)⟩
def Inv.bk (I:Inv X pins σ H s):∀b o,X.base.get? b=some o->s.heap.get? b=some o:=fun b o e=>(I.bs b o e).1
def Inv.mod (I:Inv X pins σ H s):Mod X.K X.mg X.base:=I.ok.mod
def Inv.kIn (I:Inv X pins σ H s):X.K.In s.heap:=I.ok.mod.kin.keeps I.bk
def Inv.lt (I:Inv X pins σ H s):X.env.locals<s.heap.objs.size:=let ⟨_,hn,_⟩:=I.loc;hn.lt
def Inv.sz (I:Inv X pins σ H s):X.s₀.heap.objs.size<=s.heap.objs.size:=Y8 I.ok.above (QD I.lt)
def Inv.nofs (I:Inv X pins σ H s) {a:Addr} (h:s.heap.objs.size<=a):a∉X.fs:=fun hb=>by
 obtain⟨_,o,ho,_⟩:=I.ok.funs.mem hb;exact absurd (Wg (YB ho) (Y8 I.sz h)) (WD _)
def Inv.cne (I:Inv X pins σ H s):∀x c,X.env.cells.lookup x=some c->c≠X.env.locals:=fun x c e z=>by
 obtain⟨v,o,ho,hd⟩:=I.cell x c e;obtain⟨m,⟨o',es,ep,ho',hd',_⟩,_⟩:=I.loc;rw[z,ho']at ho;cases ho;rw[hd']at hd;cases hd
def Inv.funs (I:Inv X pins σ H s):s.heap.FunFrames X.base X.outer:=by
 have all:∀(l:List Env),(∀b∈frs l,b∈X.fs)->X.s₀.heap.FunFrames X.base l->s.heap.FunFrames X.base l:=by
  intro l
  induction l with
  |nil=>intro _ _;trivial
  |cons env r ih=>
   intro hs hl;obtain⟨hk,⟨L,o,hf,hn,ho,hd⟩,hr⟩:=hl;have hL:L∈X.fs:=hs L (by unfold frs;rw[WY,hf];exact YO);obtain⟨sl,e⟩:=I.base.slot L o ho (I.ok.frf L hL) hL fun z=>I.ok.exfs L z hL;exact⟨hk,⟨L,_,hf,hn,e,hd⟩,ih (fun b hb=>hs b (by unfold frs;rw[WY,hf];exact YJ _ hb)) hr⟩
 exact all X.outer (fun _ hb=>hb) I.ok.funs
def Inv.stack (I:Inv X pins σ H s):s.heap.FunFrames X.base X.stack:=by
 rcases I.ok.stk with e|⟨e,hf⟩
 ·rw[e];exact I.funs
 ·rw[e];obtain⟨m,hn,_⟩:=I.loc;refine .cons (by rw[I.ok.kind];decide) hf hn ?_ I.funs;exact Vj (Y8 I.ok.bsz I.ok.above)
def Inv.stkSub (I:Inv X pins σ H s):∀b∈frs X.stack,b∈X.env.locals::X.fs:=fun b hb=>by
 rcases I.ok.stk with e|⟨e,hf⟩
 ·rw[e]at hb;exact YJ _ hb
 ·rw[e]at hb;unfold frs at hb;rw[WY,hf]at hb;exact hb
def Inv.stkFree (I:Inv X pins σ H s):∀b∈frs X.stack,H b=none:=fun b hb=>by
 rcases YA.mp (I.stkSub b hb)with e|hb
 ·rw[e];exact I.free
 ·obtain⟨_,o,ho,_⟩:=I.ok.funs.mem hb;exact I.base.free b o ho (I.ok.frf b hb) fun z=>I.ok.exfs b z hb
def Inv.step {g':Array GenState}{t':Nat}{d':Drawn}{ch:List Addr} (I:Inv X pins σ H s)
  (hch:∀b∈ch,(b∈X.ex\/X.s₀.heap.objs.size<=b)/\b≠X.env.locals/\(∀x c,X.env.cells.lookup x=some c->c≠b)/\∀p∈X.pn++pins,p.1≠b)
  (keep:∀b o,b≠X.env.locals->b∉X.fs->b∉ch->s.heap.get? b=some o->H b=none->h'.get? b=some o)
  (slot:∀b o,b≠X.env.locals->b∈X.fs->b∉ch->s.heap.get? b=some o->H b=none->∃sl,h'.get? b=some {o with slots:=sl}) (free:∀b o,b∉ch->s.heap.get? b=some o->H b=none->H' b=none)
  (there:∀b o,b∉ch->s.heap.get? b=some o->∃o',h'.get? b=some o')
  (tups:∀b xs,H b=some (.tup xs)->H' b=some (.tup xs)) (frzs:∀b o u,H b=some (.frz o u)->H' b=some (.frz o u)) (tbls:∀b ps,H b=some (.tbl ps)->∃more,H' b=some (.tbl (ps++more)))
  (ns:∀m,s.heap.Ns X.env.locals m->h'.Ns X.env.locals m) (hok:HOk X.prog X.w H' h') (hg:AllBare g') :
  Inv X pins σ H' {s with heap:=h',gens:=g',drawn:=d',toks:=t'}:=by
 have neL:∀b o,X.s₀.heap.get? b=some o->b≠X.env.locals:=fun b o e=>YT (Wg (YB e) I.ok.above)
 have neC:∀b o,X.s₀.heap.get? b=some o->b∉X.ex->b∉ch:=fun b o e hx hb=>by
  rcases(hch b hb).1 with z|z
  ·exact hx z
  ·exact absurd (Wg (YB e) z) (WD _)
 have cellK:∀x c,X.env.cells.lookup x=some c->∀v,s.heap.IsCell c v->h'.IsCell c v:=fun x c e v ⟨o,ho,hd⟩=>by
  have nch:c∉ch:=fun z=>(hch c z).2.2.1 x c e rfl;by_cases hc:c∈X.fs
  ·obtain⟨sl,q⟩:=slot c o (I.cne x c e) hc nch ho (I.freeC x c e);exact⟨_,q,hd⟩
  ·exact⟨o,keep c o (I.cne x c e) hc nch ho (I.freeC x c e),hd⟩
 refine⟨I.ok,I.os,hg,⟨fun b o e n hb hx=>?_,fun b o e n hb hx=>?_,fun b o e n hx=>?_,fun b o e hx=>?_,fun b xs e=>tups b xs (I.base.tups b xs e),fun b o xs e=>frzs b o xs (I.base.frzs b o xs e),fun b ps e=>?_⟩,?_,fun x c e=>?_,?_,fun x c e=>?_,fun p hp=>?_,hok,I.len⟩
 ·exact keep b o (neL b o e) hb (neC b o e hx) (I.base.keep b o e n hb hx) (I.base.free b o e n hx)
 ·obtain⟨sl,e1⟩:=I.base.slot b o e n hb hx;obtain⟨sl',e2⟩:=slot b _ (neL b o e) hb (neC b o e hx) e1 (I.base.free b o e n hx);exact⟨sl',e2⟩
 ·obtain⟨o',e1⟩:=I.base.there b o e hx;exact free b o' (neC b o e hx) e1 (I.base.free b o e n hx)
 ·obtain⟨o',e1⟩:=I.base.there b o e hx;exact there b o' (neC b o e hx) e1
 ·obtain⟨m1,e1⟩:=I.base.tbls b ps e;obtain⟨m2,e2⟩:=tbls b _ e1;exact⟨m1++m2,by rw[e2,Array.append_assoc]⟩
 ·obtain⟨m,hn,hl⟩:=I.loc;refine⟨m,ns m hn,fun i x v e1 e2 e3=>?_⟩;obtain⟨u,r,l⟩:=hl i x v e1 e2 e3;refine⟨u,r,?_⟩;rcases l with l|⟨k,c,e,z⟩
  ·exact .inl l
  ·exact .inr ⟨k,c,e,cellK x c e _ z⟩
 ·obtain⟨v,z⟩:=I.cell x c e;exact⟨v,cellK x c e v z⟩
 ·obtain⟨m,⟨o,_,_,ho,_⟩,_⟩:=I.loc;exact free _ o (fun z=>(hch _ z).2.1 rfl) ho I.free
 ·obtain⟨v,o,ho,hd⟩:=I.cell x c e;exact free c o (fun z=>(hch c z).2.2.1 x c e rfl) ho (I.freeC x c e)
 ·obtain⟨e,n,ne,nf,d⟩:=I.pin p hp;have nch:p.1∉ch:=fun z=>(hch p.1 z).2.2.2 p hp rfl;exact⟨keep p.1 p.2 ne nf nch e n,free p.1 p.2 nch e n,ne,nf,d⟩
def Inv.un {t':Nat} (I:Inv X pins σ H s) (u:Un X.fs [] H H' s.heap h') (hok:HOk X.prog X.w H' h'):Inv X pins σ H' {s with heap:=h',toks:=t'}:=by
 obtain⟨m,⟨o,es,ep,ho,r⟩,_⟩:=id I.loc;obtain⟨sl,hL⟩:=u.any ho I.free (by simp)
 exact I.step (g':=s.gens) (d':=s.drawn) (ch:=[]) (fun _ z=>nomatch z) (fun b o _ hb _ e n=>u.keep b o e n hb (by simp)) (fun b o _ hb _ e n=>u.slot b o e n hb (by simp)) (fun b o _ e n=>u.free b o e n (by simp)) (fun b o _ e=>u.there b o e (by simp)) u.tups u.frzs u.tbls (fun m' hm=>by
  obtain⟨o',es',ep',ho',r'⟩:=hm;rw[ho]at ho';cases ho';exact⟨_,es',ep',hL,r'⟩) hok I.bare
def Inv.call {g':Array GenState}{t':Nat}{d':Drawn}{ch:List Addr} (I:Inv X pins σ H s) (u:Un (frs X.stack) ch H H' s.heap h') (hok:HOk X.prog X.w H' h') (hg:AllBare g')
  (hch:∀b∈ch,(b∈X.ex\/X.s₀.heap.objs.size<=b)/\b≠X.env.locals/\(∀x c,X.env.cells.lookup x=some c->c≠b)/\∀p∈X.pn++pins,p.1≠b) :
  Inv X pins σ H' {s with heap:=h',gens:=g',drawn:=d',toks:=t'}:=by
 obtain⟨m,⟨o,es,ep,ho,r⟩,_⟩:=id I.loc;obtain⟨sl,hL⟩:=u.any ho I.free fun z=>(hch _ z).2.1 rfl
 exact I.step (ch:=ch) hch (fun b o hL hb hc e n=>u.keep b o e n (fun z=>(YA.mp (I.stkSub b z)).elim hL hb) hc) (fun b o _ _ hc e n=>u.any e n hc) (fun b o hc e n=>u.free b o e n hc) (fun b o hc e=>u.there b o e hc) u.tups u.frzs u.tbls (fun m' hm=>by
  obtain⟨o',es',ep',ho',r'⟩:=hm;rw[ho]at ho';cases ho';exact⟨_,es',ep',hL,r'⟩) hok hg
def Inv.turned {t':Nat}{it:Addr} (I:Inv X pins σ H s) (k:∀b o,b≠it->s.heap.get? b=some o->h'.get? b=some o) (hn:H it=none) (hL:it≠X.env.locals)
  (h1:it∈X.ex\/X.s₀.heap.objs.size<=it) (h2:∀x c,X.env.cells.lookup x=some c->c≠it) (h3:∀p∈X.pn++pins,p.1≠it):Inv X pins σ H {s with heap:=h',toks:=t'}:=by
 have nit:∀b u,H b=some u->b≠it:=fun b u e z=>by rw[z,hn]at e;cases e
 refine I.step (g':=s.gens) (d':=s.drawn) (ch:=[it]) (fun b hb=>?_) (fun b o _ _ hc e _=>k b o (fun z=>hc (by simp[z])) e) (fun b o _ _ hc e _=>⟨o.slots,k b o (fun z=>hc (by simp[z])) e⟩) (fun _ _ _ _ n=>n)
  (fun b o hc e=>⟨o,k b o (fun z=>hc (by simp[z])) e⟩) (fun _ _ e=>e) (fun _ _ _ e=>e) (fun b ps e=>⟨#[],by rw[e];simp⟩) (fun m hm=>?_) (fun b u e=>?_) I.bare
 ·have e:b=it:=by simpa using hb
  subst e;exact⟨h1,hL,h2,h3⟩
 ·obtain⟨o,es,ep,ho,r⟩:=hm;exact⟨o,es,ep,k _ o (Ne.symm hL) ho,r⟩
 ·refine(I.hok b u e).stay (fun c v hc q=>k c v ?_ q) (fun _ q=>q) fun _ _ q=>q;rcases hc with z|z
  ·rw[z];exact nit b u e
  ·exact nit c _ z
def Inv.tok (I:Inv X pins σ H s) (t:Nat):Inv X pins σ H {s with toks:=t}:=I.un (h':=s.heap) (t':=t) Un.refl I.hok
def Inv.kept {t':Nat} (I:Inv X pins σ H s) (k:∀b u,s.heap.get? b=some u->h'.get? b=some u):Inv X pins σ H {s with heap:=h',toks:=t'}:=I.un (Un.kept k) (I.hok.kept k)
def Inv.laid {a:Addr}{o:HO}{t':Nat} (I:Inv X pins σ H s) (k:∀b u,s.heap.get? b=some u->h'.get? b=some u) (hp:s.heap.objs.size<=a) (new:ObjOk X.prog X.w (upd H a o) h' a o) :
  Inv X pins σ (upd H a o) {s with heap:=h',toks:=t'}:=I.un (Un.laid k hp (I.hok.fresh hp)) (I.hok.laid k hp new)
def Inv.write {x e:Addr}{o:HO}{t':Nat} (I:Inv X pins σ H s) (mu:Mut (H x)) (he:e=x\/H e=some (.own x)) (k:∀b u,b≠e->s.heap.get? b=some u->h'.get? b=some u) (heo:∃u,h'.get? e=some u)
  (new:ObjOk X.prog X.w (upd H x o) h' x o):Inv X pins σ (upd H x o) {s with heap:=h',toks:=t'}:=I.un (Un.write mu he k heo) (I.hok.write mu he k heo new)
def Inv.weak {σ':List (Option V)} (I:Inv X pins σ H s) (hl:σ'.length=σ.length) (w:∀(i:Nat) v,σ'[i]?=some (some v)->σ[i]?=some (some v)):Inv X pins σ' H s:=
 ⟨I.ok,I.os,I.bare,I.base,let ⟨m,hn,hl'⟩:=I.loc;⟨m,hn,fun i x v e1 e2 e3=>hl' i x v e1 (w i v e2) e3⟩,I.cell,I.free,I.freeC,I.pin,I.hok,hl.trans I.len⟩
def Inv.pins_of {pins':List (Addr×Obj)} (I:Inv X pins σ H s) (h:∀p∈pins',s.heap.get? p.1=some p.2/\H p.1=none/\p.1≠X.env.locals/\p.1∉X.fs/\∀v,p.2.data≠.cell v):Inv X pins' σ H s:=
 ⟨I.ok,I.os,I.bare,I.base,I.loc,I.cell,I.free,I.freeC,fun p hp=>(YR.mp hp).elim (fun z=>I.pin p (Qk _ z)) (h p),I.hok,I.len⟩
def CK{N:List Str}(hN:N.Nodup){i j:Nat}{x:Str}(a:N[i]?=some x)(b:N[j]?=some x):i=j:=by
 obtain⟨h1,e1⟩:=YQ.mp a;obtain⟨h2,e2⟩:=YQ.mp b;exact(List.getElem_inj hN).mp (e1.trans e2.symm)
def Zcx{M:Model}{A:Around}{E:Value->Shared->Prop}{i:Nat}{x:Str}{v:V}{u:Value}{Q:Unit->Shared->Prop}(I:Inv X pins σ H s)(hN:X.N.Nodup)(hi:X.N[i]?=some x)(hx:Loc X.env.scope x)(r:RelV v u)(h:∀s',Inv X pins (σ.set i (some v)) H s'->(∃a,Heap.SameBut a s.heap s'.heap/\(a=X.env.locals\/X.env.cells.lookup x=some a))->Q () s')(hf:X.fn x=true\/X.env.scope.names.lookup x=some .local:=by first|exact .inl rfl|exact .inr rfl|assumption):wpAny M A (storeName X.env x u) Q E s:=by
 obtain⟨m,hn,hl⟩:=id I.loc;have hcls:(X.env.scope.kind == .class || (X.env.scope.kind == .module&&X.env.locals != X.env.globals))=false:=by rw[I.ok.kind];rfl
 have hiσ:i<σ.length:=by rw[I.len];exact(YQ.mp hi).1
 have cne:=I.cne
 have tracked:∀{a:Addr} {h':Heap},(∃o,s.heap.get? a=some o/\H a=none)->Heap.SameBut a s.heap h'->HOk X.prog X.w H h':=fun {a h'} ha hs b ob e=>by
  obtain⟨_,_,hfree⟩:=ha;refine(I.hok b ob e).stay (fun c w' hc q=>(hs.2 c ?_).trans q) (fun _ q=>q) fun _ _ q=>q;rintro rfl;rcases hc with rfl|hc
  ·rw[hfree]at e;cases e
  ·rw[hfree]at hc;cases hc
 rcases hx with hk|hk
 ·refine wpAny_storeName_local hk hn (fun h' hn' hs=>?_) hcls;obtain⟨oL,_,_,hoL,_⟩:=id hn;refine h _ ⟨I.ok,I.os,I.bare,⟨fun b o e n hb hx=>?_,fun b o e n hb hx=>?_,I.base.free,fun b o e hx=>?_,I.base.tups,I.base.frzs,I.base.tbls⟩,⟨_,hn',fun j y v' e1 e2 e3=>?_⟩,fun y c e=>?_,I.free,I.freeC,fun p hp=>?_,tracked ⟨oL,hoL,I.free⟩ hs,by simpa using I.len⟩ ⟨_,hs,.inl rfl⟩
  ·exact(hs.2 b (YT (Wg (YB e) I.ok.above))).trans (I.base.keep b o e n hb hx)
  ·obtain⟨sl,e1⟩:=I.base.slot b o e n hb hx;exact⟨sl,(hs.2 b (YT (Wg (YB e) I.ok.above))).trans e1⟩
  ·obtain⟨o',e1⟩:=I.base.there b o e hx;exact⟨o',(hs.2 b (YT (Wg (YB e) I.ok.above))).trans e1⟩
  ·by_cases hj:j=i
   ·subst hj;rw[hi]at e1;cases e1;rw[QS hiσ]at e2;cases e2
    exact⟨u,r,.inl ⟨hk,by simp⟩⟩
   ·rw[Vk (Ne.symm hj)]at e2;obtain⟨u',r',q⟩:=hl j y v' e1 e2 e3;refine⟨u',r',?_⟩;rcases q with⟨k,e⟩|⟨k,c,e,z⟩
    ·refine .inl ⟨k,?_⟩
     have:y≠x:=fun e=>hj (CK hN e1 (e▸hi))
     simp[this,e]
    ·exact .inr ⟨k,c,e,z.sameBut hs (cne y c e)⟩
  ·obtain⟨w',z⟩:=I.cell y c e;exact⟨w',z.sameBut hs (cne y c e)⟩
  ·obtain⟨e,n,ne,nf,d⟩:=I.pin p hp;exact⟨(hs.2 p.1 ne).trans e,n,ne,nf,d⟩
 ·have hfn:X.fn x=true:=by
   rcases hf with z|z
   ·exact z
   ·rw[z]at hk;cases hk
  obtain⟨c,hc⟩:=I.ok.has x (.inl hk);obtain⟨w',z⟩:=I.cell x c hc;refine wpAny_storeName_cell I.ok.kind hk hc z (fun h' hc' hs=>?_);obtain⟨oc,hoc,hocd⟩:=id z;refine h {s with heap:=h'} ⟨I.ok,I.os,I.bare,⟨fun b o e n hb hx=>?_,fun b o e n hb hx=>?_,I.base.free,fun b o e hx=>?_,I.base.tups,I.base.frzs,I.base.tbls⟩,⟨m,hn.sameBut hs (Ne.symm (cne x c hc)),fun j y v' e1 e2 e3=>?_⟩,fun y c' e=>?_,I.free,I.freeC,fun p hp=>?_,tracked ⟨oc,hoc,I.freeC x c hc⟩ hs,by simpa using I.len⟩ ⟨c,hs,.inr hc⟩
  ·exact(hs.2 b (YT (Wg (YB e) (I.ok.cab x c hfn hc)))).trans (I.base.keep b o e n hb hx)
  ·obtain⟨sl,e1⟩:=I.base.slot b o e n hb hx;exact⟨sl,(hs.2 b (YT (Wg (YB e) (I.ok.cab x c hfn hc)))).trans e1⟩
  ·obtain⟨o',e1⟩:=I.base.there b o e hx;exact⟨o',(hs.2 b (YT (Wg (YB e) (I.ok.cab x c hfn hc)))).trans e1⟩
  ·by_cases hj:j=i
   ·subst hj;rw[hi]at e1;cases e1;rw[QS hiσ]at e2;cases e2
    exact⟨u,r,.inr ⟨.inl hk,c,hc,hc'⟩⟩
   ·rw[Vk (Ne.symm hj)]at e2;obtain⟨u',r',q⟩:=hl j y v' e1 e2 e3;refine⟨u',r',?_⟩;rcases q with q|⟨k,c',e,z'⟩
    ·exact .inl q
    ·refine .inr ⟨k,c',e,z'.sameBut hs ?_⟩;rintro rfl;exact hj (CK hN e1 (I.ok.inj _ _ _ e hc▸hi))
  ·by_cases hcc:c'=c
   ·subst hcc;exact⟨_,hc'⟩
   ·obtain⟨w2,z2⟩:=I.cell y c' e;exact⟨w2,z2.sameBut hs hcc⟩
  ·obtain⟨e,n,ne,nf,d⟩:=I.pin p hp;refine⟨(hs.2 p.1 ?_).trans e,n,ne,nf,d⟩;intro q;rw[q,hoc]at e;have q':oc=p.2:=Y7 e;exact d w' (by rw[←q'];exact hocd)
def S7{M:Model}{A:Around}{E:Value->Shared->Prop}{i:Nat}{x:Str}{v:V}{u:Value}{Q:Unit->Shared->Prop}(I:Inv X pins σ H s)(hN:X.N.Nodup)(hi:X.N[i]?=some x)(hx:Loc X.env.scope x)(r:RelV v u)(h:∀s',Inv X pins (σ.set i (some v)) H s'->Q () s')(hf:X.fn x=true\/X.env.scope.names.lookup x=some .local:=by first|exact .inl rfl|exact .inr rfl|assumption):wpAny M A (storeName X.env x u) Q E s:=
 Zcx I hN hi hx r (fun s' I' _=>h s' I') hf
def Inv.call' {s':Shared}{ch:List Addr} (I:Inv X pins σ H s) (ho:s'.os=s.os) (u:Un (frs X.stack) ch H H' s.heap s'.heap) (hok:HOk X.prog X.w H' s'.heap) (hg:AllBare s'.gens)
  (hch:∀b∈ch,(b∈X.ex\/X.s₀.heap.objs.size<=b)/\b≠X.env.locals/\(∀x c,X.env.cells.lookup x=some c->c≠b)/\∀p∈X.pn++pins,p.1≠b):Inv X pins σ H' s':=by
 obtain⟨h',g',d',t',o'⟩:=s';have e:o'=s.os:=ho;subst e;exact I.call (g':=g') (t':=t') (d':=d') u hok hg hch
end
abbrev XK:=Value->Option Addr->Hp->Prop
abbrev St:=List (Option V)
abbrev VK:=V->Hp->Prop
abbrev TE:=St->Hp->VK->Prop
abbrev TT:=St->Hp->(Bool->Hp->Prop)->Prop
abbrev TA:=St->Hp->(List V->Hp->Prop)->Prop
structure Ends where
 nx:St->Hp->Prop
 rt:VK
 bk:St->Hp->Prop:=fun _ _=>False
 ct:St->Hp->Prop:=fun _ _=>False
abbrev TS:=Ends->St->Hp->Prop
def EP(X:Cx)(pins:List (Addr×Obj))(σ:St)(Q:VK)(u:Value)(s':Shared):Prop:=∃v H',Inv X pins σ H' s'/\RelV v u/\Q v H'
def TP(X:Cx)(pins:List (Addr×Obj))(σ:St)(Q:Bool->Hp->Prop)(b:Bool)(s':Shared):Prop:=∃H',Inv X pins σ H' s'/\Q b H'
def AP(X:Cx)(pins:List (Addr×Obj))(σ:St)(Q:List V->Hp->Prop)(us:List Value)(s':Shared):Prop:=∃vs H',Inv X pins σ H' s'/\Vals vs us/\Q vs H'
def SP(X:Cx)(pins:List (Addr×Obj))(D:Ends)(f:Flow)(s':Shared):Prop:=
 match f with
 | .next=>∃σ' H',Inv X pins σ' H' s'/\D.nx σ' H'
 | .brk=>∃σ' H',Inv X pins σ' H' s'/\D.bk σ' H'
 | .cont=>∃σ' H',Inv X pins σ' H' s'/\D.ct σ' H'
 | .ret u=>∃v σ' H',Inv X pins σ' H' s'/\RelV v u/\D.rt v H'
def PE(X:Cx)(e:Expr)(t:TE):Prop:=
 ∀(pins:List (Addr×Obj)) (s:Shared) (σ:St) (H:Hp) (Q:VK),Inv X pins σ H s->t σ H Q->wpAny (model X.prog X.w) X.A (eval e X.env) (EP X pins σ Q) X.xe s
def PT(X:Cx)(e:Expr)(t:TT):Prop:=
 ∀(pins:List (Addr×Obj)) (s:Shared) (σ:St) (H:Hp) (Q:Bool->Hp->Prop),Inv X pins σ H s->t σ H Q->wpAny (model X.prog X.w) X.A (isTrue e X.env (eval e X.env)) (TP X pins σ Q) X.xe s
def PW(X:Cx)(e:Expr)(t:TT):Prop:=
 ∀(whole:Sem Value) (pins:List (Addr×Obj)) (s:Shared) (σ:St) (H:Hp) (Q:Bool->Hp->Prop),Inv X pins σ H s->t σ H Q->wpAny (model X.prog X.w) X.A (isTrue e X.env whole) (TP X pins σ Q) X.xe s
def PW.pt {X:Cx}{e:Expr}{t:TT} (h:PW X e t):PT X e t:=h _
def PA(X:Cx)(es:List Expr)(t:TA):Prop:=
 ∀(pos:Pos) (pins:List (Addr×Obj)) (s:Shared) (σ:St) (H:Hp) (Q:List V->Hp->Prop),Inv X pins σ H s->t σ H Q->wpAny (model X.prog X.w) X.A (spliced (backTo pos (starEach es X.env))) (AP X pins σ Q) X.xe s
def PS(X:Cx)(st:Stmt)(t:TS):Prop:=
 ∀(pins:List (Addr×Obj)) (s:Shared) (σ:St) (H:Hp) (D:Ends),Inv X pins σ H s->t D σ H->wpAny (model X.prog X.w) X.A (exec st X.env) (SP X pins D) X.xe s
def PSs(X:Cx)(st:List Stmt)(t:TS):Prop:=
 ∀(pins:List (Addr×Obj)) (s:Shared) (σ:St) (H:Hp) (D:Ends),Inv X pins σ H s->t D σ H->wpAny (model X.prog X.w) X.A (execs st X.env) (SP X pins D) X.xe s
def thn{α:Type}{t:Sem α}{Q Q':α->Shared->Prop}{M:Model}{A:Around}{E:Value->Shared->Prop}{s:Shared}(h:wpAny M A t Q E s)(hQ:∀a s,Q a s->Q' a s):wpAny M A t Q' E s:=Wx h hQ fun _ _ x=>x
section
variable {X:Cx}
def bin{a b:Expr}{ta tb:TE}(ha:PE X a ta)(hb:PE X b tb){pins:List (Addr×Obj)}{s:Shared}{σ:St}{H:Hp}{R:V->V->Hp->Prop}(I:Inv X pins σ H s)(h:ta σ H fun x H1=>tb σ H1 fun y H2=>R x y H2){α:Type}{Q:α->Shared->Prop}{f:Value->Value->Sem α}(hf:∀v u s2 x y H2,Inv X pins σ H2 s2->RelV x v->RelV y u->R x y H2->wpAny (model X.prog X.w) X.A (f v u) Q X.xe s2) :
  wpAny (model X.prog X.w) X.A (eval a X.env) (fun v s₁=>wpAny (model X.prog X.w) X.A (eval b X.env) (fun u s₂=>wpAny (model X.prog X.w) X.A (f v u) Q X.xe s₂) X.xe s₁) X.xe s:=by
 refine thn (ha pins s σ H _ I h) fun v s1 ⟨x,H1,I1,r1,q1⟩=>?_;refine thn (hb pins s1 σ H1 _ I1 q1) fun u s2 ⟨y,H2,I2,r2,q2⟩=>?_;exact hf v u s2 x y H2 I2 r1 r2 q2
def tVar(i:Nat):TE:=fun σ H Q=>∃v,σ[i]?=some (some v)/\Q v H
def tC(v:V):TE:=fun _ H Q=>Q v H
def Re{i:Nat}{x:Str}{pos:Pos}(hN:X.N[i]?=some x)(hv:Vis X.env.scope x)(hd:(x==("__debug__" : Str))=false:=by decide)(hcd:(x==("__classdict__" : Str))=false:=by decide):PE X (.Name x pos) (tVar i):=by
 intro pins s σ H Q I h;obtain⟨v,e,h⟩:=h;obtain⟨m,hn,hl⟩:=I.loc;obtain⟨u,r,l⟩:=hl i x v hN e hv;have fin:EP X pins σ Q u s:=⟨v,H,I,r,h⟩;rcases l with⟨hk,hm⟩|⟨hk,c,hc,hcell⟩
 ·exact wpAny_Name (wpAny_loadName_local I.ok.kind hk hn hm fin) hd
 ·rcases hk with hk|hk
  ·exact wpAny_Name (wpAny_loadName_cell I.ok.kind hk hc hcell fin) hd
  ·exact wpAny_Name (wpAny_loadName_free I.ok.kind hk hc hcell fin hcd) hd
def JM{i j pos}:PE X (.Constant (.int i) j pos) (tC (.int i)):=fun _ _ _ H _ I h=>wpAny_Constant_int ⟨.int i,H,I.tok _,⟨_,rfl⟩,h⟩
def UG{b j pos}:PE X (.Constant (.bool b) j pos) (tC (.bl b)):=fun _ _ _ H _ I h=>Constant_bool ⟨.bl b,H,I,rfl,h⟩
def Fd{j pos}:PE X (.Constant .none j pos) (tC .non):=fun _ _ _ H _ I h=>Constant_none ⟨.non,H,I,rfl,h⟩
def U6{x j pos}:PE X (.Constant (.str x) j pos) (tC (.str x)):=fun _ _ _ H _ I h=>Calls.Constant_str ⟨.str x,H,I.tok _,⟨_,rfl⟩,h⟩
def Gl(X:Cx)(x:Str):Prop:=X.env.kindOf x=some .globalImplicit
def SL{E:Value->Shared->Prop}{pins:List (Addr×Obj)}{s:Shared}{σ:St}{H:Hp}{x:Str}{u:Value}{pos:Pos}{Q:Value->Shared->Prop}(I:Inv X pins σ H s)(hg:Gl X x)(hm:X.mg x=some u)(h:Q u s)(hd:(x==("__debug__" : Str))=false:=by decide):wpAny (model X.prog X.w) X.A (eval (.Name x pos) X.env) Q E s:=
 Calls.Name_function_global I.ok.kind hg (Calls.loadGlobal_global (by rw[I.ok.glob];exact I.mod.glob.keeps I.bk) hm h) hd
def NA{E:Value->Shared->Prop}{pins:List (Addr×Obj)}{s:Shared}{σ:St}{H:Hp}{x:Str}{u:Value}{pos:Pos}{Q:Value->Shared->Prop}(I:Inv X pins σ H s)(hg:Gl X x)(hm:X.mg x=none)(hv:bootBuiltins x=some u)(h:Q u s)(hn:x≠"__name__":=by decide)(hd:(x==("__debug__" : Str))=false:=by decide):wpAny (model X.prog X.w) X.A (eval (.Name x pos) X.env) Q E s:=by
 obtain⟨mb,h1,h2⟩:=I.mod.blt;exact Calls.Name_function_global I.ok.kind hg (Calls.loadGlobal_builtin (by rw[I.ok.glob];exact I.mod.glob.keeps I.bk) hm (by rw[I.ok.blt];exact h1.keeps I.bk) ((h2 x hn).trans hv) h) hd
def Ol{x:Str}{v:V}{u:Value}{pos:Pos}(hg:Gl X x)(hm:X.mg x=some u)(r:RelV v u)(hd:(x==("__debug__" : Str))=false:=by decide):PE X (.Name x pos) (tC v):=
 fun _ _ _ H _ I h=>SL I hg hm ⟨v,H,I,r,h⟩ hd
def KL{x:Str}{v:V}{u:Value}{pos:Pos}(hg:Gl X x)(hm:X.mg x=none)(hv:bootBuiltins x=some u)(r:RelV v u)(hn:x≠"__name__":=by decide)(hd:(x==("__debug__" : Str))=false:=by decide):PE X (.Name x pos) (tC v):=
 fun _ _ _ H _ I h=>NA I hg hm hv ⟨v,H,I,r,h⟩ hn hd
variable {a b:Expr}{ta tb:TE}{pos:Pos}
def PC(X:Cx)(op:CmpOp)(a b:Expr)(t:TE):Prop:=
 ∀(pins:List (Addr×Obj)) (s:Shared) (σ:St) (H:Hp) (Q:VK),Inv X pins σ H s->t σ H Q->
  wpAny (model X.prog X.w) X.A (eval a X.env) (fun v s₁=>wpAny (model X.prog X.w) X.A (eval b X.env) (fun u s₂=>wpAny (model X.prog X.w) X.A (compareOp op v u) (EP X pins σ Q) X.xe s₂) X.xe s₁) X.xe s
def Zf9(b:Expr){op:CmpOp}(h:op≠.In)(h2:op≠.NotIn):behindInMarks op b=false:=by
 have e1:(op==CmpOp.In)=false:=by cases op<;>first|rfl|exact absurd rfl h
 have e2:(op==CmpOp.NotIn)=false:=by cases op<;>first|rfl|exact absurd rfl h2
 cases b<;>simp[behindInMarks,e1,e2]
def tIsN(ta:TE):TE:=fun σ H Q=>ta σ H fun x H1=>Q (.bl (decide (x=.non))) H1
def RelV.none_iff {x:V}{v:Value} (r:RelV x v):(v==Value.none)=decide (x=.non):=by
 cases x with
 |non=>cases r;rfl
 |bl _=>cases r;rfl
 |int _=>obtain⟨t,rfl⟩:=r;rfl
 |str _=>obtain⟨t,rfl⟩:=r;rfl
 |byt _=>obtain⟨t,rfl⟩:=r;rfl
 |flt _=>obtain⟨t,rfl⟩:=r;rfl
 |ref _=>cases r;rfl
 |ty _=>cases r;rfl
def Zgd{j pos'}(ha:PE X a ta):PC X .Is a (.Constant .none j pos') (tIsN ta):=by
 intro pins s σ H Q I h;refine thn (ha pins s σ H _ I h) fun v s1 ⟨x,H1,I1,r1,q1⟩=>?_;exact Constant_none (is_none_gen ⟨.bl _,H1,I1,by rw[r1.none_iff];rfl,q1⟩)
def tB(t:TE):TT:=fun σ H Q=>t σ H fun x H1=>∃c,x=.bl c/\Q c H1
def Aa{op:CmpOp}{t:TE}(h:PC X op a b t)(h1:behindInMarks op b=false:=by first|exact Zf9 _ (by decide) (by decide)|rfl):PT X (.Compare a [op] [b] pos) (tB t):=by
 intro pins s σ H Q I hw;refine wpAny_isTrue_Compare1 (thn (h pins s σ H _ I hw) fun v s1 h1=>thn h1 fun u s2 h2=>thn h2 fun c s3 ⟨x,H1,I1,r1,q1⟩=>?_) h1;obtain⟨d,rfl,q⟩:=q1;cases r1
 exact Qh ⟨H1,I1,q⟩
variable {tA tB':TT}{rest:List Expr}
def tAnd(t u:TT):TT:=fun σ H Q=>t σ H fun c H1=>if c=true then u σ H1 Q else Q false H1
def tOr(t u:TT):TT:=fun σ H Q=>t σ H fun c H1=>if c=true then Q true H1 else u σ H1 Q
def tNot(t:TT):TT:=fun σ H Q=>t σ H fun c H1=>Q (!c) H1
def Nd(ha:PT X a tA):PW X (.BoolOp .And [a] pos) tA:=by
 intro wh pins s σ H Q I h;refine isTrue_and (thn (ha pins s σ H Q I h) fun c s1 e=>?_);cases c with
 |true=>exact isTrue_and_nil e
 |false=>exact e
def UU(ha:PT X a tA):PW X (.BoolOp .Or [a] pos) tA:=by
 intro wh pins s σ H Q I h;refine isTrue_or (thn (ha pins s σ H Q I h) fun c s1 e=>?_);cases c with
 |false=>exact isTrue_or_nil e
 |true=>exact e
def PH(ha:PT X a tA)(hb:PW X (.BoolOp .And (b::rest) pos) tB'):PW X (.BoolOp .And (a::b::rest) pos) (tAnd tA tB'):=by
 intro wh pins s σ H Q I h;refine isTrue_and (thn (ha pins s σ H _ I h) fun c s1 ⟨H1,I1,q1⟩=>?_);cases c with
 |true=>exact hb wh pins s1 σ H1 Q I1 q1
 |false=>exact⟨H1,I1,q1⟩
def UL(ha:PT X a tA)(hb:PW X (.BoolOp .Or (b::rest) pos) tB'):PW X (.BoolOp .Or (a::b::rest) pos) (tOr tA tB'):=by
 intro wh pins s σ H Q I h;refine isTrue_or (thn (ha pins s σ H _ I h) fun c s1 ⟨H1,I1,q1⟩=>?_);cases c with
 |true=>exact⟨H1,I1,q1⟩
 |false=>exact hb wh pins s1 σ H1 Q I1 q1
def Xi(ha:PT X a tA):PT X (.UnaryOp .Not a pos) (tNot tA):=by
 intro pins s σ H Q I h;exact isTrue_not (ha pins s σ H (fun c H1=>Q (!c) H1) I h)
def IA(ta tb:TE):TE:=fun σ H Q=>ta σ H fun x H1=>∃c,x=.bl c/\if c=true then tb σ H1 Q else Q (.bl false) H1
def Gk(ta:TE):TE:=fun σ H Q=>ta σ H fun x H1=>∃c,x=.bl c/\Q (.bl (!c)) H1
def Nn{op}{t:TE}(h:PE X a t):PE X (.BoolOp op [a] pos) t:=fun pins s σ H Q I hw=>BoolOp_one (h pins s σ H Q I hw)
def Nl(ha:PE X a ta)(hb:PE X (.BoolOp .And (b::rest) pos) tb):PE X (.BoolOp .And (a::b::rest) pos) (IA ta tb):=by
 intro pins s σ H Q I h;refine BoolOp_and (thn (ha pins s σ H _ I h) fun v s1 ⟨x,H1,I1,r1,q1⟩=>?_);obtain⟨c,rfl,q1⟩:=q1;cases r1
 refine Qh ?_;cases c with
 |true=>exact hb pins s1 σ H1 Q I1 q1
 |false=>exact⟨.bl false,H1,I1,rfl,q1⟩
def Bs(ha:PE X a ta):PE X (.UnaryOp .Not a pos) (Gk ta):=by
 intro pins s σ H Q I h;refine UnaryOp_ (thn (ha pins s σ H _ I h) fun v s1 ⟨x,H1,I1,r1,q1⟩=>?_);obtain⟨c,rfl,q1⟩:=q1;cases r1
 exact not_of (Qh ⟨.bl (!c),H1,I1,rfl,q1⟩)
end
def SqL(K:Za)(H:Hp)(a:Addr)(xs:List V):Prop:=
 Rd H a (.lst xs)\/
  ∃(o:Obj) (its:Array Value) (n:Nat),K.lookup a=some o/\o.cls=.type "list"/\o.dict=none/\o.data=.seq its n/\its.size<=sizeLine/\Vals xs its.toList
def SqT(K:Za)(H:Hp)(a:Addr)(xs:List V):Prop:=
 Rd H a (.tup xs)\/
  ∃(o:Obj) (its:Array Value) (n:Nat),K.lookup a=some o/\o.cls=.type "tuple"/\o.data=.seq its n/\its.size<=sizeLine/\Vals xs its.toList
def absV:Value->Option V
 | .none=>some .non
 | .bool b=>some (.bl b)
 | .int i _=>some (.int i)
 | .str x _=>some (.str x)
 | .bytes b _=>some (.byt b)
 | .float b _=>some (.flt b)
 | .ref a=>some (.ref a)
 | .type n=>some (.ty n)
 |_=>none
def RelV.abs {x:V}{u:Value} (r:RelV x u):absV u=some x:=by
 cases x with
 |non=>cases r;rfl
 |bl _=>cases r;rfl
 |int _=>obtain⟨t,rfl⟩:=r;rfl
 |str _=>obtain⟨t,rfl⟩:=r;rfl
 |byt _=>obtain⟨t,rfl⟩:=r;rfl
 |flt _=>obtain⟨t,rfl⟩:=r;rfl
 |ref _=>cases r;rfl
 |ty _=>cases r;rfl
def RelV.inj {x y:V}{u:Value} (r:RelV x u) (q:RelV y u):x=y:=Y7 (r.abs.symm.trans q.abs)
def Vals.inj:∀{xs ys:List V}{us:List Value},Vals xs us->Vals ys us->xs=ys
 |_,_,_,.nil,.nil=>rfl
 |_,_,_,.cons r t,.cons r' t'=>by rw[r.inj r',Vals.inj t t']
section
variable {X:Cx}{pins:List (Addr×Obj)}{σ:St}{H:Hp}{s:Shared}{a:Addr}{xs ys:List V}
def SqL.of {K:Za} (h:H a=some (.lst xs)):SqL K H a xs:=.inl (.inl h)
def SqT.of {K:Za} (h:H a=some (.tup xs)):SqT K H a xs:=.inl (.inl h)
def Inv.list (I:Inv X pins σ H s) (h:SqL X.K H a xs):∃its:List Value,Vals xs its/\PlainL s.heap a its.toArray/\xs.length<=sizeLine:=by
 rcases h with h|⟨o,its,n,hk,hc,hd,hs,hz,r⟩
 ·obtain⟨z,its,n,r,e⟩:=h.ok I.hok;exact⟨its,r,⟨_,n,e,rfl,rfl,rfl⟩,z⟩
 ·refine⟨its.toList,r,⟨o,n,I.kIn a o hk,hc,hd,by simpa using hs⟩,?_⟩;have e:=r.length;simp only[Wi]at e;omega
def Inv.tuple (I:Inv X pins σ H s) (h:SqT X.K H a xs):∃its:List Value,Vals xs its/\IsTup s.heap a its.toArray/\xs.length<=sizeLine:=by
 rcases h with h|⟨o,its,n,hk,hc,hs,hz,r⟩
 ·obtain⟨z,its,r,p⟩:=h.ok I.hok;exact⟨its,r,p,z⟩
 ·refine⟨its.toList,r,⟨o,I.kIn a o hk,hc,n,by simpa using hs⟩,?_⟩;have e:=r.length;simp only[Wi]at e;omega
def Inv.list_inj (I:Inv X pins σ H s) (h:SqL X.K H a xs) (h':SqL X.K H a ys):xs=ys:=by
 obtain⟨its,r,⟨o,n,e,_,_,d⟩,_⟩:=I.list h;obtain⟨its',r',⟨o',n',e',_,_,d'⟩,_⟩:=I.list h';rw[e]at e';cases e';rw[d]at d';injection d' with d1 _
 have:its=its':=by simpa using Wj Array.toList d1
 subst this;exact r.inj r'
def Inv.tuple_inj (I:Inv X pins σ H s) (h:SqT X.K H a xs) (h':SqT X.K H a ys):xs=ys:=by
 obtain⟨its,r,⟨o,e,_,n,d⟩,_⟩:=I.tuple h;obtain⟨its',r',⟨o',e',_,n',d'⟩,_⟩:=I.tuple h';rw[e]at e';cases e';rw[d]at d';injection d' with d1 _
 have:its=its':=by simpa using Wj Array.toList d1
 subst this;exact r.inj r'
end
abbrev Cx.wish (X:Cx) (E:Value->Shared->Prop):Cx:={X with xe:=E}
abbrev Cx.nox (X:Cx):Cx:=X.wish fun _ _=>False
def Cx.Ok.wish {X:Cx} (ok:X.Ok) (E:Value->Shared->Prop):(X.wish E).Ok:=
 ⟨ok.mod,ok.kind,ok.glob,ok.blt,ok.above,ok.inj,ok.has,ok.cab,ok.hd,ok.frames,ok.stk,ok.exf,ok.bs,ok.bsz,ok.noex,ok.exfs,ok.funs,ok.frf⟩
def Cx.Ok.unwish {X:Cx}{E:Value->Shared->Prop} (ok:(X.wish E).Ok):X.Ok:=
 ⟨ok.mod,ok.kind,ok.glob,ok.blt,ok.above,ok.inj,ok.has,ok.cab,ok.hd,ok.frames,ok.stk,ok.exf,ok.bs,ok.bsz,ok.noex,ok.exfs,ok.funs,ok.frf⟩
section
variable {X:Cx}{pins:List (Addr×Obj)}{σ:St}{H:Hp}{s:Shared}{E:Value->Shared->Prop}
def Inv.wish (I:Inv X pins σ H s) (E:Value->Shared->Prop):Inv (X.wish E) pins σ H s:=⟨I.ok.wish E,I.os,I.bare,I.base,I.loc,I.cell,I.free,I.freeC,I.pin,I.hok,I.len⟩
def Inv.unwish (I:Inv (X.wish E) pins σ H s):Inv X pins σ H s:=⟨I.ok.unwish,I.os,I.bare,I.base,I.loc,I.cell,I.free,I.freeC,I.pin,I.hok,I.len⟩
def SP.unwish {D:Ends}{f:Flow}{s':Shared} (h:SP (X.wish E) pins D f s'):SP X pins D f s':=by
 cases f with
 |next=>obtain⟨σ',H',I,q⟩:=h;exact⟨σ',H',I.unwish,q⟩
 |brk=>obtain⟨σ',H',I,q⟩:=h;exact⟨σ',H',I.unwish,q⟩
 |cont=>obtain⟨σ',H',I,q⟩:=h;exact⟨σ',H',I.unwish,q⟩
 |ret u=>obtain⟨v,σ',H',I,r,q⟩:=h;exact⟨v,σ',H',I.unwish,r,q⟩
def PSs.nox {st:List Stmt}{t:TS} (h:PSs X.nox st t):PSs X st t:=fun pins s σ H D I hw=>
 Wx (h pins s σ H D (I.wish _) hw) (fun _ _ q=>q.unwish) fun _ _ z=>False.elim z
end
section
variable {X:Cx}{st:Stmt}{rest:List Stmt}{t u:TS}{e:Expr}{te:TE}{pos:Pos}
def Gg:TS:=fun D σ H=>D.nx σ H
def tSeq(t u:TS):TS:=fun D σ H=>t {D with nx:=u D} σ H
def Ub:PSs X [] Gg:=fun _ _ σ H _ I h=>Vl ⟨σ,H,I,h⟩
def JO(h1:PS X st t)(h2:PSs X rest u):PSs X (st::rest) (tSeq t u):=by
 intro pins s σ H D I h;refine wpAny_execs_cons (thn (h1 pins s σ H {D with nx:=u D} I h) fun f s1 q=>?_)
 cases f with
 |next=>
  obtain⟨σ',H',I',q⟩:=q;exact h2 pins s1 σ' H' D I' q
 |ret v=>exact q
 |brk=>exact q
 |cont=>exact q
def JQ(h1:PS X st t):PSs X [st] t:=by
 intro pins s σ H D I h;refine wpAny_execs_cons (thn (h1 pins s σ H D I h) fun f s1 q=>?_);cases f with
 |next=>exact Vl q
 |ret v=>exact q
 |brk=>exact q
 |cont=>exact q
def Inv.quiet {pins:List (Addr×Obj)}{σ:St}{H:Hp}{s:Shared} (I:Inv X pins σ H s):interactive X.env=false:=by simp[interactive,I.ok.kind]
def NC(te:TE):TS:=fun D σ H=>te σ H fun _ H1=>D.nx σ H1
def U8(he:PE X e te)(hs:swapsWith e none pos.line X.env=pure false:=by rfl):PS X (.Expr e pos) (NC te):=by
 intro pins s σ H D I h;exact wpAny_Expr_any (thn (he pins s σ H _ I h) fun v s1 ⟨x,H1,I1,r1,q1⟩=>⟨σ,H1,I1,q1⟩) I.quiet hs
def tRet(te:TE):TS:=fun D σ H=>te σ H D.rt
def JT(he:PE X e te):PS X (.Return (some e) pos) (tRet te):=by
 intro pins s σ H D I h;exact wpAny_Return_some (thn (he pins s σ H _ I h) fun v s1 ⟨x,H1,I1,r1,q1⟩=>⟨x,σ,H1,I1,r1,q1⟩)
def tIfS(c:TT)(t u:TS):TS:=fun D σ H=>c σ H fun b H1=>if b=true then t D σ H1 else u D σ H1
def Ua{c:Expr}{a b:List Stmt}{tc:TT}(hc:PT X c tc)(ha:PSs X a t)(hb:PSs X b u):PS X (.If c a b pos) (tIfS tc t u):=by
 intro pins s σ H D I h;refine wpAny_If (thn (hc pins s σ H _ I h) fun d s1 ⟨H1,I1,q1⟩=>?_);cases d with
 |true=>exact ha pins s1 σ H1 D I1 q1
 |false=>exact hb pins s1 σ H1 D I1 q1
def CW:TS:=fun _ _ _=>False
def Lo:PS X st CW:=fun _ _ _ _ _ _ h=>h.elim
end
abbrev TG:=V->St->Hp->(St->Hp->Prop)->Prop
abbrev TGs:=List V->St->Hp->(St->Hp->Prop)->Prop
def PG(X:Cx)(target:Expr)(t:TG):Prop:=
 ∀(pins:List (Addr×Obj)) (s:Shared) (σ:St) (H:Hp) (v:V) (u:Value) (Q:St->Hp->Prop),Inv X pins σ H s->RelV v u->t v σ H Q->
  wpAny (model X.prog X.w) X.A (assign target X.env u) (fun _ s'=>∃σ' H',Inv X pins σ' H' s'/\Q σ' H') X.xe s
def PGs(X:Cx)(ts:List Expr)(t:TGs):Prop:=
 ∀(pins:List (Addr×Obj)) (s:Shared) (σ:St) (H:Hp) (vs:List V) (us:List Value) (Q:St->Hp->Prop),Inv X pins σ H s->Vals vs us->t vs σ H Q->
  wpAny (model X.prog X.w) X.A (assignInOrder ((assignEach ts X.env).map (·.2)) us) (fun _ s'=>∃σ' H',Inv X pins σ' H' s'/\Q σ' H') X.xe s
abbrev TSet:=V->V->V->Hp->(Hp->Prop)->Prop
def PSet(X:Cx)(t:TSet):Prop:=
 ∀(pins:List (Addr×Obj)) (s:Shared) (σ:St) (H:Hp) (o i v:V) (ov iv u:Value) (Q:Hp->Prop),Inv X pins σ H s->RelV o ov->RelV i iv->RelV v u->t o i v H Q->
  wpAny (model X.prog X.w) X.A (setItem ov iv u) (fun _ s'=>∃H',Inv X pins σ H' s'/\Q H') X.xe s
abbrev TIp:=V->V->Hp->VK->Prop
def PIp(X:Cx)(op:Operator)(t:TIp):Prop:=
 ∀(pins:List (Addr×Obj)) (s:Shared) (σ:St) (H:Hp) (x y:V) (v u:Value) (Q:VK),Inv X pins σ H s->RelV x v->RelV y u->t x y H Q->
  wpAny (model X.prog X.w) X.A (inplaceOp op v u) (EP X pins σ Q) X.xe s
section
variable {X:Cx}{pos:Pos}
def PN(i:Nat):TG:=fun v σ H Q=>Q (σ.set i (some v)) H
def Bn{i:Nat}{x:Str}(hN:X.N.Nodup)(hi:X.N[i]?=some x)(hx:Loc X.env.scope x)(hf:X.fn x=true\/X.env.scope.names.lookup x=some .local:=by first|exact .inl rfl|exact .inr rfl|assumption):PG X (.Name x pos) (PN i):=by
 intro pins s σ H v u Q I r h;exact wpAny_assign_Name (S7 I hN hi hx r (fun s' I'=>⟨_,H,I',h⟩) hf)
def gNil:TGs:=fun vs σ H Q=>vs=[]/\Q σ H
def D8(t:TG)(u:TGs):TGs:=fun vs σ H Q=>∃v r,vs=v::r/\t v σ H fun σ' H'=>u r σ' H' Q
def P1:PGs X [] gNil:=by
 intro pins s σ H vs us Q I r h;obtain⟨e,h⟩:=h;subst e;cases r
 exact assignInOrder_nil ⟨σ,H,I,h⟩
def XJ{e:Expr}{es:List Expr}{t:TG}{u:TGs}(h1:PG X e t)(h2:PGs X es u)(hs:(assignEach (e::es) X.env).map (·.2)=assign e X.env::(assignEach es X.env).map (·.2):=by rfl):PGs X (e::es) (D8 t u):=by
 intro pins s σ H vs us Q I r h;obtain⟨v,vr,e1,h⟩:=h;subst e1;cases r with
 |cons r rr=>
  rw[hs];refine assignInOrder_cons (thn (h1 pins s σ H _ _ _ I r h) fun _ s1 ⟨σ1,H1,I1,q1⟩=>?_);exact h2 pins s1 σ1 H1 _ _ Q I1 rr q1
def gTup(K:Za)(n:Nat)(t:TGs):TG:=fun v σ H Q=>∃a xs,v=.ref a/\SqT K H a xs/\xs.length=n/\t xs σ H Q
def Zgb{es:List Expr}{k:Nat}{t:TGs}{n:Nat}(hc:X.calm=true)(h:PGs X es t)(hn:(assignEach es X.env).length=n:=by rfl)(hst:(assignEach es X.env).findIdx? (·.1)=none:=by rfl):PG X (.Tuple es k pos) (gTup X.K n t):=by
 intro pins s σ H v u Q I r hw;obtain⟨a,xs,e1,hq,hl,hw⟩:=hw;subst e1;cases r
 obtain⟨its,rv,ht,hz⟩:=I.tuple hq;refine assign_Tuple_tuple (I.ok.hd hc) ht (by simp[hn,←hl,rv.length]) hst fun h' hx=>?_;have I1:Inv X pins σ H {s with heap:=h'}:=I.kept (t':=s.toks) fun b o e=>hx b o (YT (YB e)) e
 exact h pins _ σ H xs _ Q I1 (by simpa using rv) hw
def gSub(to ti:TE)(t:TSet):TG:=fun v σ H Q=>to σ H fun o H1=>ti σ H1 fun i H2=>t o i v H2 fun H3=>Q σ H3
def Gq{o i:Expr}{to ti:TE}{t:TSet}(ho:PE X o to)(hi:PE X i ti)(hs:PSet X t)
  (ha:∀v,assign (.Subscript o i pos) X.env v=(do
   let ov ←holding [v] (eval o X.env)
   let iv ←holding [v,ov] (eval i X.env)
   standAt pos
   holding [v,ov,iv] (setItem ov iv v)
   release [v,ov,iv] []):=by intro _;rfl):PG X (.Subscript o i pos) (gSub to ti t):=by
 intro pins s σ H v u Q I r h;rw[ha];refine Yv (WV (thn (ho pins s σ H _ I h) fun ov s1 ⟨x,H1,I1,r1,q1⟩=>?_));refine Yv (WV (thn (hi pins s1 σ H1 _ I1 q1) fun iv s2 ⟨y,H2,I2,r2,q2⟩=>?_));refine Yv (wpAny_standAt (Yv (WV (thn (hs pins s2 σ H2 x y v ov iv u _ I2 r1 r2 r q2) fun _ s3 ⟨H3,I3,q3⟩=>?_))));exact wpAny_release ⟨σ,H3,I3,q3⟩
def tAsg(te:TE)(g:TG):TS:=fun D σ H=>te σ H fun x H1=>g x σ H1 D.nx
def DE{tg e:Expr}{te:TE}{g:TG}(he:PE X e te)(hg:PG X tg g)(hs:swapsWithSole [tg] e pos.line X.env=pure false:=by rfl)(hw:swappedStores [tg] e X.env=pure none:=by rfl)(h1:(assignEach [tg] X.env).map (·.2)=[assign tg X.env]:=by rfl):PS X (.Assign [tg] e pos) (tAsg te g):=by
 intro pins s σ H D I h;refine wpAny_Assign_stores (thn (he pins s σ H _ I h) fun v s1 ⟨x,H1,I1,r1,q1⟩=>?_) hs hw;rw[h1];exact thn (hg pins s1 σ H1 x v _ I1 r1 q1) fun _ s2 q=>q
def LI{i:Nat}{x:Str}{e:Expr}{te:TE}{pos':Pos}(hN:X.N.Nodup)(hi:X.N[i]?=some x)(hx:Loc X.env.scope x)(he:PE X e te)(hs:swapsWith e (some (.Name x pos')) pos.line X.env=pure false:=by rfl)(hf:X.fn x=true\/X.env.scope.names.lookup x=some .local:=by first|exact .inl rfl|exact .inr rfl|assumption) :
  PS X (.Assign [.Name x pos'] e pos) (tAsg te (PN i)):=by
 intro pins s σ H D I h;refine wpAny_Assign_Name (thn (he pins s σ H _ I h) fun v s1 ⟨y,H1,I1,r1,q1⟩=>?_) hs;exact S7 I1 hN hi hx r1 (fun s2 I2=>⟨_,H1,I2,q1⟩) hf
def tAug(i:Nat)(te:TE)(ti:TIp):TS:=fun D σ H=>∃x,σ[i]?=some (some x)/\te σ H fun y H1=>ti x y H1 fun z H2=>D.nx (σ.set i (some z)) H2
def B9{i:Nat}{x:Str}{e:Expr}{te:TE}{op:Operator}{ti:TIp}{pos':Pos}(hN:X.N.Nodup)(hi:X.N[i]?=some x)(hx:Loc X.env.scope x)(he:PE X e te)(ho:PIp X op ti)(hf:X.fn x=true\/X.env.scope.names.lookup x=some .local:=by first|exact .inl rfl|exact .inr rfl|assumption) :
  PS X (.AugAssign (.Name x pos') op e pos) (tAug i te ti):=by
 intro pins s σ H D I h;obtain⟨v,e1,h⟩:=h;obtain⟨m,hn,hl⟩:=I.loc;have vis:Vis X.env.scope x:=by rcases hx with k|k;exact .inl k;exact .inr (.inl k)
 obtain⟨u,r,l⟩:=hl i x v hi e1 vis;refine wpAny_AugAssign_Name ?_
 have go:wpAny (model X.prog X.w) X.A (eval e X.env) (fun w s₂=>wpAny (model X.prog X.w) X.A (inplaceOp op u w) (fun r s₃=>wpAny (model X.prog X.w) X.A (storeName X.env x r) (fun _=>SP X pins D .next) X.xe s₃) X.xe s₂) X.xe s:=by
  refine thn (he pins s σ H _ I h) fun w s1 ⟨y,H1,I1,r1,q1⟩=>?_;refine thn (ho pins s1 σ H1 v y u w _ I1 r r1 q1) fun z s2 ⟨zv,H2,I2,r2,q2⟩=>?_;exact S7 I2 hN hi hx r2 (fun s3 I3=>⟨_,H2,I3,q2⟩) hf
 rcases l with⟨hk,hm⟩|⟨hk,c,hc,hcell⟩
 ·exact wpAny_loadName_local I.ok.kind hk hn hm go
 ·rcases hk with hk|hk
  ·exact wpAny_loadName_cell I.ok.kind hk hc hcell go
  ·rcases hx with k|k
   ·have:X.env.scope.names.lookup x=some .free:=hk
    rw[k]at this;cases this
   ·have:X.env.scope.names.lookup x=some .free:=hk
    rw[k]at this;cases this
def ipI(f:Int->Int->Int):TIp:=fun x y H Q=>∃i j,x=.int i/\y=.int j/\Q (.int (f i j)) H
def F6:PIp X .Add (ipI fun i j=>i+j):=by
 intro pins s σ H x y v u Q I r1 r2 h;obtain⟨i,j,e1,e2,q⟩:=h;subst e1;subst e2;obtain⟨t,rfl⟩:=r1;obtain⟨t',rfl⟩:=r2;exact iadd_int ⟨.int _,H,I.tok _,⟨_,rfl⟩,q⟩
end
section
variable {X:Cx}{pos:Pos}
def G6(c:TT)(tb:TS):TS:=fun D σ H=>∃W:Nat->St->Hp->Prop,(∃m,W m σ H)/\∀m σ H,W m σ H->
 c σ H fun b H1=>if b=true then ∃N:St->Hp->Prop,(∀σ' H',N σ' H'->∃m',m'<m/\W m' σ' H')/\tb {D with nx:=N,ct:=N,bk:=D.nx} σ H1 else D.nx σ H1
def NP{c:Expr}{body:List Stmt}{tc:TT}{tb:TS}(hp:PassesOwn (model X.prog X.w) X.A X.env X.xe)(hc:PT X c tc)(hb:PSs X body tb):PS X (.While c body [] pos) (G6 tc tb):=by
 intro pins s σ H D I h;obtain⟨W,⟨m0,w0⟩,turn⟩:=h;refine wpAny_While (codeAny_whileLoop (fun n s'=>∃σ' H',Inv X pins σ' H' s'/\W n σ' H') ?_ m0 ⟨σ,H,I,w0⟩);rintro n s1 ⟨σ1,H1,I1,w1⟩;refine Qe hp (thn (hc pins s1 σ1 H1 _ I1 (turn n σ1 H1 w1)) fun b s2 ⟨H2,I2,q2⟩=>?_);cases b with
 |true=>
  obtain⟨N,hN,q2⟩:=q2;rw[Yz rfl];refine Qe hp (thn (hb pins s2 σ1 H2 _ I2 q2) fun f s3 q3=>?_);cases f with
  |next=>
   obtain⟨σ3,H3,I3,n3⟩:=q3;obtain⟨m',hm,w3⟩:=hN σ3 H3 n3;exact⟨m',hm,σ3,H3,I3,w3⟩
  |cont=>
   obtain⟨σ3,H3,I3,n3⟩:=q3;obtain⟨m',hm,w3⟩:=hN σ3 H3 n3;exact⟨m',hm,σ3,H3,I3,w3⟩
  |brk=>exact q3
  |ret v=>exact q3
 |false=>
  rw[Yx YG];exact Vl ⟨σ1,H2,I2,q2⟩
end
structure It where
 go:Nat->Hp->Prop
 yld:Nat->Hp->V->Hp->Prop
 stop:Nat->Hp->Prop
def FpOk(X:Cx)(pins:List (Addr×Obj))(H:Hp)(b:Addr):Prop:=
 H b=none/\b≠X.env.locals/\b∉X.fs/\(b∈X.ex\/X.s₀.heap.objs.size<=b)/\(∀x c,X.env.cells.lookup x=some c->c≠b)/\∀p∈X.pn++pins,p.1≠b
def Inv.fpOk {X:Cx}{pins:List (Addr×Obj)}{σ:St}{H H':Hp}{s:Shared}{b:Addr} (I:Inv X pins σ H s) (hb:s.heap.objs.size<=b) (hn:H' b=none):FpOk X pins H' b:=by
 refine⟨hn,VC (Wg I.lt hb),I.nofs hb,.inr (Y8 I.sz hb),fun x c e z=>?_,fun p hp z=>?_⟩
 ·obtain⟨v,q⟩:=I.cell x c e;exact absurd (Wg q.lt (by rw[z];exact hb)) (WD _)
 ·exact absurd (Wg (YB (I.pin p hp).1) (by rw[z];exact hb)) (WD _)
structure Turn (P:Program) (w:World) (K:Za) (tg:Expr) (J:It) (fp:List Addr) (it:Addr) (tn:Nat->Heap->Prop):Prop where
 mem:it∈fp
 obj:∀i h,tn i h->∀b∈fp,∃o,h.get? b=some o/\∀v,o.data≠.cell v
 keep:∀i h h',tn i h->(∀b∈fp,∀o,h.get? b=some o->h'.get? b=some o)->tn i h'
 item:∀(X:Cx),X.prog=P->X.w=w->X.K=K->X.calm=true->∀(i:Nat) (pins:List (Addr×Obj)) (s:Shared) (σ:St) (H:Hp) (E:Value->Shared->Prop),Inv X pins σ H s->(∀b∈fp,FpOk X pins H b)->tn i s.heap->J.go i H->
  wpAny (model P w) X.A (pyNext (.ref it)) (fun r s1=>∃u,r=some u/\
   wpAny (model P w) X.A (letOwnedTupleGo tg (.ref it) u) (fun _ s2=>∃x H',Inv X pins σ H' s2/\RelV x u/\J.yld i H x H'/\tn (i+1) s2.heap/\∀b∈fp,H' b=none) E s1) E s
 done:∀(X:Cx),X.prog=P->X.w=w->X.K=K->X.calm=true->∀(i:Nat) (pins:List (Addr×Obj)) (s:Shared) (σ:St) (H:Hp) (E:Value->Shared->Prop),Inv X pins σ H s->(∀b∈fp,FpOk X pins H b)->tn i s.heap->J.stop i H->
  wpAny (model P w) X.A (pyNext (.ref it)) (fun r s1=>r=none/\Inv X pins σ H s1) E s
 self:∀(A:Around) (i:Nat) (s:Shared) (Q:Value->Shared->Prop) (E:Value->Shared->Prop),tn i s.heap->Q (.ref it) s->wpAny (model P w) A (pyIter (.ref it)) Q E s
abbrev TI:=St->Hp->(It->Hp->Prop)->Prop
def PIE(X:Cx)(pins:List (Addr×Obj))(σ:St)(tg:Expr)(R:It->Hp->Prop)(itv:Value)(s2:Shared):Prop:=
 ∃(it:Addr) (fp:List Addr) (tn:Nat->Heap->Prop) (J:It) (H':Hp),itv=.ref it/\Inv X pins σ H' s2/\Turn X.prog X.w X.K tg J fp it tn/\tn 0 s2.heap/\(∀b∈fp,FpOk X pins H' b)/\R J H'
def PI(X:Cx)(tg iter:Expr)(wi:TI):Prop:=
 ∀(pins:List (Addr×Obj)) (s:Shared) (σ:St) (H:Hp) (R:It->Hp->Prop),Inv X pins σ H s->wi σ H R->
  wpAny (model X.prog X.w) X.A (eval iter X.env) (fun v s1=>wpAny (model X.prog X.w) X.A (pyIter v) (PIE X pins σ tg R) X.xe s1) X.xe s
def SY {M : Model} {A : Around} {E : Value → Shared → Prop} {s : Shared} {tg : Expr} {it : Addr} {u : Value} {o : Obj} {n : String} {vs : Array Value} {Q : Unit → Shared → Prop} (ho : s.heap.get? it = some o) (hc : o.cls = .type n) (hd : o.data = .fields vs)
    (hn : ["enumerate", "zip", "dict_itemiterator", "dict_reverseitemiterator", "odict_iterator", "itertools.zip_longest", "itertools.pairwise"].contains n = false) (hQ : Q () s) : wpAny M A (letOwnedTupleGo tg (.ref it) u) Q E s := by
  unfold letOwnedTupleGo
  cases tg <;> first
    | exact Y2 hQ
    | (cases u <;> first
        | exact Y2 hQ
        | (refine Yv (wpAny_load ho ?_)
           rw [hc, hd]
           show wpAny M A (if (["enumerate", "zip", "dict_itemiterator", "dict_reverseitemiterator", "odict_iterator", "itertools.zip_longest", "itertools.pairwise"].contains n && vs[0]? == some (rawInt _)) = true then _ else _) Q E s
           rw [Yx (by intro h; rw [hn, Qo] at h; cases h)]
           exact Y2 hQ))
def Itl(K:Za)(a:Addr):It:=
 ⟨fun i H=>∃xs x,SqL K H a xs/\xs[i]?=some x,fun i H x H'=>H'=H/\∀xs,SqL K H a xs->xs[i]?=some x,fun i H=>∃xs,SqL K H a xs/\xs.length<=i⟩
def Itt(K:Za)(a:Addr):It:=
 ⟨fun i H=>∃xs x,SqT K H a xs/\xs[i]?=some x,fun i H x H'=>H'=H/\∀xs,SqT K H a xs->xs[i]?=some x,fun i H=>∃xs,SqT K H a xs/\xs.length<=i⟩
def Itr(lo:Int)(n:Nat):It:=⟨fun i _=>i<n,fun i H x H'=>H'=H/\x=.int (lo+i),fun i _=>n<=i⟩
def Mg{P:Program}{w:World}{K:Za}{tg:Expr}(a it:Addr):Turn P w K tg (Itl K a) [it] it (fun i h=>h.IsListIter it a i) where
 mem:=by simp
 obj:=fun i h st b hb=>by
  have e:b=it:=by simpa using hb
  subst e;obtain⟨o,e,c,d⟩:=st;exact⟨o,e,fun v z=>by rw[d]at z;cases z⟩
 keep:=fun i h h' st k=>st.at fun o e=>k it (by simp) o e
 item:=by
  intro X hP hw hK hc i pins s σ H E I hf st hg;subst hP hw hK;obtain⟨xs,x,hq,hx⟩:=hg;obtain⟨its,rv,p,hz⟩:=I.list hq;obtain⟨u,hu,ru⟩:=rv.get hx;obtain⟨f0,f1,f2,f3,f4,f5⟩:=hf it (by simp);refine wpAny_pyNext_list_item st p.isList (x:=u) (by simpa using hu) fun h' st' sb=>?_;have I1:Inv X pins σ H {s with heap:=h'}:=I.turned (t':=s.toks) (fun b o hb e=>(sb.2 b hb).trans e) f0 f1 f3 f4 f5
  obtain⟨o,e,c,d⟩:=id st';exact⟨u,rfl,SY (s:={s with heap:=h'}) e c d (by decide) ⟨x,H,I1,ru,⟨rfl,fun ys hy=>by rw[I.list_inj hy hq];exact hx⟩,st',fun b hb=>(hf b hb).1⟩⟩
 done:=by
  intro X hP hw hK hc i pins s σ H E I hf st hg;subst hP hw hK;obtain⟨xs,hq,hx⟩:=hg;obtain⟨its,rv,p,hz⟩:=I.list hq;obtain⟨f0,f1,f2,f3,f4,f5⟩:=hf it (by simp);have hl:=rv.length;exact wpAny_pyNext_list_end (I.ok.hd hc) st p.isList (by simp;omega) fun h' eb=>⟨rfl,I.turned (t':=s.toks) (fun b o hb e=>eb b o hb e) f0 f1 f3 f4 f5⟩
 self:=fun _ _ _ _ _ st h=>wpAny_pyIter_listiter st h
def Zdj{P:Program}{w:World}{K:Za}{tg:Expr}(a it:Addr):Turn P w K tg (Itt K a) [it] it (fun i h=>h.IsTupleIter it a i) where
 mem:=by simp
 obj:=fun i h st b hb=>by
  have e:b=it:=by simpa using hb
  subst e;obtain⟨o,e,c,d⟩:=st;exact⟨o,e,fun v z=>by rw[d]at z;cases z⟩
 keep:=fun i h h' st k=>st.at fun o e=>k it (by simp) o e
 item:=by
  intro X hP hw hK hc i pins s σ H E I hf st hg;subst hP hw hK;obtain⟨xs,x,hq,hx⟩:=hg;obtain⟨its,rv,p,hz⟩:=I.tuple hq;obtain⟨u,hu,ru⟩:=rv.get hx;obtain⟨f0,f1,f2,f3,f4,f5⟩:=hf it (by simp);refine wpAny_pyNext_tuple_item st (show s.heap.IsTuple a its.toArray from p) (x:=u) (by simpa using hu) fun h' st' sb=>?_
  have I1:Inv X pins σ H {s with heap:=h'}:=I.turned (t':=s.toks) (fun b o hb e=>(sb.2 b hb).trans e) f0 f1 f3 f4 f5
  obtain⟨o,e,c,d⟩:=id st';exact⟨u,rfl,SY (s:={s with heap:=h'}) e c d (by decide) ⟨x,H,I1,ru,⟨rfl,fun ys hy=>by rw[I.tuple_inj hy hq];exact hx⟩,st',fun b hb=>(hf b hb).1⟩⟩
 done:=by
  intro X hP hw hK hc i pins s σ H E I hf st hg;subst hP hw hK;obtain⟨xs,hq,hx⟩:=hg;obtain⟨its,rv,p,hz⟩:=I.tuple hq;obtain⟨f0,f1,f2,f3,f4,f5⟩:=hf it (by simp);have hl:=rv.length;exact wpAny_pyNext_tuple_end (I.ok.hd hc) st (show s.heap.IsTuple a its.toArray from p) (by simp;omega) fun h' eb=>⟨rfl,I.turned (t':=s.toks) (fun b o hb e=>eb b o hb e) f0 f1 f3 f4 f5⟩
 self:=fun _ _ _ _ _ st h=>wpAny_pyIter_tupleiter st h
def RK{P:Program}{w:World}{K:Za}{tg:Expr}(it:Addr)(lo:Int)(n:Nat):Turn P w K tg (Itr lo n) [it] it (fun i h=>IsRangeIter h it (lo+(i:Nat)*1) ((n:Int)-(i:Nat)) 1) where
 mem:=by simp
 obj:=fun i h st b hb=>by
  have e:b=it:=by simpa using hb
  subst e
  exact⟨_,st,fun v z=>by
   have z':Data.fields _=Data.cell v:=z;cases z'⟩
 keep:=fun i h h' st k=>k it (by simp) _ st
 item:=by
  intro X hP hw hK hc i pins s σ H E I hf st hg;subst hP hw hK;obtain⟨f0,f1,f2,f3,f4,f5⟩:=hf it (by simp);have W:=Walks.range (prog:=X.prog) (w:=X.w) (I.ok.hd hc) it lo 1 n;refine W.item i s _ _ hg st fun v h' tk hv st' kk=>?_;obtain⟨t,rfl⟩:=hv;have I1:Inv X pins σ H {s with heap:=h',toks:=tk}:=I.turned (fun b o hb e=>kk b o (by simpa using hb) e) f0 f1 f3 f4 f5
  refine⟨_,rfl,SY (s:={s with heap:=h',toks:=tk}) (n:="range_iterator") st' rfl rfl (by decide) ⟨.int (lo+i),H,I1,⟨t,?_⟩,⟨rfl,rfl⟩,st',fun b hb=>(hf b hb).1⟩⟩
  rw[Int.mul_one]
 done:=by
  intro X hP hw hK hc i pins s σ H E I hf st hg;subst hP hw hK;obtain⟨f0,f1,f2,f3,f4,f5⟩:=hf it (by simp);exact wpAny_pyNext_range_end (I.ok.hd hc) st (by have:n<=i:=hg;omega) fun h' eb=>⟨rfl,I.turned (t':=s.toks) (fun b o hb e=>eb b o hb e) f0 f1 f3 f4 f5⟩
 self:=fun _ _ _ _ _ st h=>wpAny_pyIter_rangeiter st h
section
variable {X:Cx}{tg:Expr}
def SK(K:Za)(tl:TE):TI:=fun σ H R=>tl σ H fun x H1=>∃a,x=.ref a/\(∃xs,SqL K H1 a xs)/\R (Itl K a) H1
def iTup(K:Za)(tl:TE):TI:=fun σ H R=>tl σ H fun x H1=>∃a,x=.ref a/\(∃xs,SqT K H1 a xs)/\R (Itt K a) H1
def GD{l:Expr}{tl:TE}(hl:PE X l tl):PI X tg l (SK X.K tl):=by
 intro pins s σ H R I h;refine thn (hl pins s σ H _ I h) fun v s1 ⟨x,H1,I1,r1,q1⟩=>?_;obtain⟨a,e,⟨xs,hq⟩,q⟩:=q1;subst e;cases r1
 obtain⟨its,rv,p,hz⟩:=I1.list hq;refine wpAny_pyIter_list p.isList ?_;refine⟨s1.heap.objs.size,[s1.heap.objs.size],_,_,H1,rfl,I1.kept (t':=s1.toks) fun b o e=>Y1 _ e,Mg a _,⟨_,YE _ rfl,rfl,rfl⟩,fun b hb=>?_,q⟩;have e:b=s1.heap.objs.size:=by simpa using hb
 subst e;exact I1.fpOk (Y3 _) (I1.hok.fresh (Y3 _))
def MV{l:Expr}{tl:TE}(hl:PE X l tl):PI X tg l (iTup X.K tl):=by
 intro pins s σ H R I h;refine thn (hl pins s σ H _ I h) fun v s1 ⟨x,H1,I1,r1,q1⟩=>?_;obtain⟨a,e,⟨xs,hq⟩,q⟩:=q1;subst e;cases r1
 obtain⟨its,rv,p,hz⟩:=I1.tuple hq;refine wpAny_pyIter_tuple (show s1.heap.IsTuple a its.toArray from p) ?_
 refine⟨s1.heap.objs.size,[s1.heap.objs.size],_,_,H1,rfl,I1.kept (t':=s1.toks) fun b o e=>Y1 _ e,Zdj a _,⟨_,YE _ rfl,rfl,rfl⟩,fun b hb=>?_,q⟩;have e:b=s1.heap.objs.size:=by simpa using hb
 subst e;exact I1.fpOk (Y3 _) (I1.hok.fresh (Y3 _))
def Dp{pins:List (Addr×Obj)}{σ:St}{H:Hp}{s:Shared}{R:It->Hp->Prop}{E:Value->Shared->Prop}{lo hi:Int}{t u v:Tok}{tk:Nat}(I:Inv X pins σ H s)(h1:-(2 ^ 62)<=lo)(h2:lo<2 ^ 62)(h3:-(2 ^ 62)<=hi)(h4:hi<2 ^ 62)(q:R (Itr lo (hi-lo).toNat) H):wpAny (model X.prog X.w) X.A (pyIter (.ref s.heap.objs.size)) (PIE X pins σ tg R) E {s with heap:=s.heap.push {cls:=.type "range",data:=.fields #[.int lo t,.int hi u,.int 1 v]},toks:=tk}:=by
 refine wpAny_pyIter_range (IsRange.new ..) (small_one h1 h2 h3 h4) ?_;have I1:Inv X pins σ H {s with heap:=s.heap.push {cls:=.type "range",data:=.fields #[.int lo t,.int hi u,.int 1 v]},toks:=tk}:=I.kept fun b o e=>Y1 _ e
 refine⟨(s.heap.push {cls:=.type "range",data:=.fields #[.int lo t,.int hi u,.int 1 v]}).objs.size,[(s.heap.push {cls:=.type "range",data:=.fields #[.int lo t,.int hi u,.int 1 v]}).objs.size],_,_,H,rfl,
  I1.kept (t':=tk) fun b o e=>Y1 _ e,RK _ lo (hi-lo).toNat,?_,fun b hb=>?_,q⟩
 ·have e1:lo+((0:Nat):Int)*1=lo:=by simp
  have e2:(((hi-lo).toNat:Nat):Int)-((0:Nat):Int)=Builtin.Range.rangeSize lo hi 1:=by rw[rangeSize_one];split<;>omega
  show IsRangeIter _ _ (lo+((0:Nat):Int)*1) ((((hi-lo).toNat:Nat):Int)-((0:Nat):Int)) 1;rw[e1,e2];exact YE _ rfl
 ·have e:b=(s.heap.push {cls:=.type "range",data:=.fields #[.int lo t,.int hi u,.int 1 v]}).objs.size:=by simpa using hb
  subst e;exact I1.fpOk (Y3 _) (I1.hok.fresh (Y3 _))
def CS(ta:TA):TI:=fun σ H R=>ta σ H fun vs H1=>∃j:Int,vs=[.int j]/\-(2 ^ 62)<=j/\j<2 ^ 62/\R (Itr 0 j.toNat) H1
def Ig(ta:TA):TI:=fun σ H R=>ta σ H fun vs H1=>∃i j:Int,vs=[.int i,.int j]/\(-(2 ^ 62)<=i/\i<2 ^ 62/\-(2 ^ 62)<=j/\j<2 ^ 62)/\R (Itr i (j-i).toNat) H1
def Kp{a:Expr}{ta:TA}{p pos:Pos}(hg:Gl X "range")(hm:X.mg "range"=none)(ha:PA X [a] ta)(hs:starEach [a] X.env=[(false,eval a X.env)]:=by rfl):PI X tg (.Call (.Name "range" p) [a] [] pos) (CS ta):=by
 intro pins s σ H R I h;refine Call_ (NA I hg hm boot_range (QA (thn (ha pos pins s σ H _ I h) fun us s1 ⟨vs,H1,I1,r1,q1⟩=>?_) hs rfl));obtain⟨j,e,q1,q2,q⟩:=q1;subst e;cases r1 with
 |cons r rr=>
  cases rr
  obtain⟨t,rfl⟩:=r;exact call_range_1 (Dp I1 (by omega) (by omega) q1 q2 (by simpa using q))
def HH{a b:Expr}{ta:TA}{p pos:Pos}(hg:Gl X "range")(hm:X.mg "range"=none)(ha:PA X [a,b] ta)(hs:starEach [a,b] X.env=[(false,eval a X.env),(false,eval b X.env)]:=by rfl)(hs2:starEach [b] X.env=[(false,eval b X.env)]:=by rfl) :
  PI X tg (.Call (.Name "range" p) [a,b] [] pos) (Ig ta):=by
 intro pins s σ H R I h;refine Call_ (NA I hg hm boot_range (QA (thn (ha pos pins s σ H _ I h) fun us s1 ⟨vs,H1,I1,r1,q1⟩=>?_) (by rw[hs,hs2]) (by rw[hs2];rfl)));obtain⟨i,j,e,⟨q1,q2,q3,q4⟩,q⟩:=q1;subst e;cases r1 with
 |cons r rr=>
  cases rr with
  |cons r' rr=>
   cases rr
   obtain⟨t,rfl⟩:=r;obtain⟨t',rfl⟩:=r';exact call_range_2 (Dp I1 q1 q2 q3 q4 q)
def tFor(wi:TI)(g:TG)(tb:TS):TS:=fun D σ H=>wi σ H fun J H1=>∃W:Nat->Nat->St->Hp->Prop,(∃m,W 0 m σ H1)/\∀i m σ H,W i m σ H->
 (J.stop i H/\D.nx σ H)\/(J.go i H/\∃N:St->Hp->Prop,(∀σ' H',N σ' H'->∃m',m'<m/\W (i+1) m' σ' H')/\∀x H',J.yld i H x H'->g x σ H' fun σ2 H2=>tb {D with nx:=N,ct:=N,bk:=D.nx} σ2 H2)
def Ny(fp:List Addr)(h:Heap):List (Addr×Obj):=fp.filterMap fun b=>(h.get? b).map fun o=>(b,o)
def Sb{fp:List Addr}{h:Heap}{b:Addr}{o:Obj}(hb:b∈fp)(e:h.get? b=some o):(b,o)∈Ny fp h:=Vz.mpr ⟨b,hb,by rw[e];rfl⟩
def Zar{fp:List Addr}{h:Heap}{p:Addr×Obj}(hp:p∈Ny fp h):p.1∈fp/\h.get? p.1=some p.2:=by
 obtain⟨b,hb,e⟩:=Vz.mp hp;cases q:h.get? b with
 |none=>rw[q]at e;cases e
 |some o=>
  rw[q]at e;have e':(b,o)=p:=Y7 e;subst e';exact⟨hb,q⟩
def Inv.pinned {pins:List (Addr×Obj)}{σ:St}{H:Hp}{s:Shared}{fp:List Addr} (I:Inv X pins σ H s) (hf:∀b∈fp,FpOk X pins H b) (ho:∀b∈fp,∃o,s.heap.get? b=some o/\∀v,o.data≠.cell v):Inv X (pins++Ny fp s.heap) σ H s:=
 I.pins_of fun p hp=>(YR.mp hp).elim (fun z=>I.pin p (Wa _ z)) fun z=>by
  obtain⟨hb,e⟩:=Zar z;obtain⟨f0,f1,f2,_⟩:=hf p.1 hb;obtain⟨o,e',d⟩:=ho p.1 hb;rw[e]at e';cases e';exact⟨e,f0,f1,f2,d⟩
def Inv.unpinned {pins pl:List (Addr×Obj)}{σ:St}{H:Hp}{s:Shared} (I:Inv X (pins++pl) σ H s):Inv X pins σ H s:=I.pins_of fun p hp=>I.pin p (Wa _ (Qk _ hp))
def UN{iter:Expr}{body:List Stmt}{wi:TI}{g:TG}{tb:TS}{pos:Pos}(hp:PassesOwn (model X.prog X.w) X.A X.env X.xe)(hc:X.calm=true)(hi:PI X tg iter wi)(hg:PG X tg g)(hb:PSs X body tb)(hs:∀x,foldedSetIterable iter X.env x=pure x:=by intro _;rfl):PS X (.For tg iter body [] pos) (tFor wi g tb):=by
 intro pins s σ H D I h;refine wpAny_For (thn (hi pins s σ H _ I h) fun v s1 h1=>thn h1 fun itv s2 h2=>?_) hs;obtain⟨it,fp,tn,J,H2,e,I2,T,st2,f2,W,⟨m0,w0⟩,turn⟩:=h2;subst e;have stat:∀{H':Hp},(∀b∈fp,H' b=none)->∀b∈fp,FpOk X pins H' b:=fun hn b hb=>⟨hn b hb,(f2 b hb).2⟩;refine codeAny_forLoop_any (fun n s'=>∃i σ' H',Inv X pins σ' H' s'/\tn i s'.heap/\(∀b∈fp,H' b=none)/\W i n σ' H') ?_ m0 ⟨0,σ,H2,I2,st2,fun b hb=>(f2 b hb).1,w0⟩;rintro n s3 ⟨i,σ3,H3,I3,st3,fr3,w3⟩;rcases turn i n σ3 H3 w3 with⟨stop,qn⟩|⟨go,N,hN,step⟩
 ·refine Qe hp (thn (T.done X rfl rfl rfl hc i pins s3 σ3 H3 X.xe I3 (stat fr3) st3 stop) fun r s4 ⟨hr,I4⟩=>?_);subst hr;exact Vl ⟨σ3,H3,I4,qn⟩
 ·refine Qe hp (thn (T.item X rfl rfl rfl hc i pins s3 σ3 H3 X.xe I3 (stat fr3) st3 go) fun r s4 ⟨u,hr,h4⟩=>?_);subst hr;refine Qe hp (thn h4 fun _ s5 ⟨x,H5,I5,r5,y5,st5,fr5⟩=>?_);have I5':=I5.pinned (stat fr5) (T.obj _ _ st5);refine Qe hp (thn (hg _ s5 σ3 H5 x u _ I5' r5 (step x H5 y5)) fun _ s6 ⟨σ6,H6,I6,q6⟩=>?_);refine Qe hp (thn (hb _ s6 σ6 H6 _ I6 q6) fun f s7 q7=>?_)
  have again:∀{σ7:St} {H7:Hp},Inv X (pins++Ny fp s5.heap) σ7 H7 s7->N σ7 H7->∃m,m<n/\∃i σ' H',Inv X pins σ' H' s7/\tn i s7.heap/\(∀b∈fp,H' b=none)/\W i m σ' H':=fun {σ7 H7} I7 n7=>by
   obtain⟨m',hm,w7⟩:=hN σ7 H7 n7;refine⟨m',hm,i+1,σ7,H7,I7.unpinned,T.keep _ _ _ st5 fun b hb o e=>(I7.pin (b,o) (Wa _ (Wa _ (Sb hb e)))).1,fun b hb=>?_,w7⟩;obtain⟨o,e,d⟩:=T.obj _ _ st5 b hb;exact(I7.pin (b,o) (Wa _ (Wa _ (Sb hb e)))).2.1
  cases f with
  |next=>obtain⟨σ7,H7,I7,n7⟩:=q7;exact again I7 n7
  |cont=>obtain⟨σ7,H7,I7,n7⟩:=q7;exact again I7 n7
  |brk=>obtain⟨σ7,H7,I7,q7⟩:=q7;exact⟨σ7,H7,I7.unpinned,q7⟩
  |ret v=>obtain⟨x7,σ7,H7,I7,r7,q7⟩:=q7;exact⟨x7,σ7,H7,I7.unpinned,r7,q7⟩
end
abbrev R2:=V->V->Hp->VK->Prop
def OpR(X:Cx)(f:Value->Value->Sem Value)(r:R2):Prop:=
 ∀(pins:List (Addr×Obj)) (s:Shared) (σ:St) (H:Hp) (x y:V) (v u:Value) (Q:VK),Inv X pins σ H s->RelV x v->RelV y u->r x y H Q->
  wpAny (model X.prog X.w) X.A (f v u) (EP X pins σ Q) X.xe s
def UnR(X:Cx)(f:Value->Sem Value)(r:V->Hp->VK->Prop):Prop:=
 ∀(pins:List (Addr×Obj)) (s:Shared) (σ:St) (H:Hp) (x:V) (v:Value) (Q:VK),Inv X pins σ H s->RelV x v->r x H Q->
  wpAny (model X.prog X.w) X.A (f v) (EP X pins σ Q) X.xe s
def Xd(X:Cx)(f:Value)(r:List V->Hp->VK->Prop):Prop:=
 ∀(pins:List (Addr×Obj)) (s:Shared) (σ:St) (H:Hp) (xs:List V) (us:List Value) (Q:VK),Inv X pins σ H s->Vals xs us->r xs H Q->
  wpAny (model X.prog X.w) X.A (call f us) (EP X pins σ Q) X.xe s
def TruR(X:Cx)(r:V->Hp->(Bool->Hp->Prop)->Prop):Prop:=
 ∀(pins:List (Addr×Obj)) (s:Shared) (σ:St) (H:Hp) (x:V) (v:Value) (Q:Bool->Hp->Prop),Inv X pins σ H s->RelV x v->r x H Q->
  wpAny (model X.prog X.w) X.A (truthy v) (TP X pins σ Q) X.xe s
def tOp(r:R2)(ta tb:TE):TE:=fun σ H Q=>ta σ H fun x H1=>tb σ H1 fun y H2=>r x y H2 Q
def tUn(r:V->Hp->VK->Prop)(ta:TE):TE:=fun σ H Q=>ta σ H fun x H1=>r x H1 Q
def rI(C:Int->Int->Prop)(g:Int->Int->V):R2:=fun x y H Q=>∃i j,x=.int i/\y=.int j/\C i j/\Q (g i j) H
def rI0(g:Int->Int->V):R2:=fun x y H Q=>∃i j,x=.int i/\y=.int j/\Q (g i j) H
def rU(g:Int->V):V->Hp->VK->Prop:=fun x H Q=>∃i,x=.int i/\Q (g i) H
section
variable {X:Cx}{a b c:Expr}{ta tb tc:TE}{pos:Pos}
def binT(ha:PE X a ta)(hb:PE X b tb){pins:List (Addr×Obj)}{s:Shared}{σ:St}{H:Hp}{R:V->V->Hp->Prop}(I:Inv X pins σ H s)(h:ta σ H fun x H1=>tb σ H1 fun y H2=>R x y H2){Q:Value->Shared->Prop}{f:Value->Value->Sem Value}(hf:∀v u s2 x y H2,Inv X pins σ H2 s2->RelV x v->RelV y u->R x y H2->wpAny (model X.prog X.w) X.A (f v u) Q X.xe s2) :
  wpAny (model X.prog X.w) X.A (eval a X.env) (fun v s₁=>wpAny (model X.prog X.w) X.A (eval b X.env) (fun u s₂=>wpAny (model X.prog X.w) X.A (f v u) Q X.xe s₂) X.xe s₁) X.xe s:=by
 refine thn (ha pins s σ H _ I h) fun v s1 ⟨x,H1,I1,r1,q1⟩=>?_;refine thn (hb pins s1 σ H1 _ I1 q1) fun u s2 ⟨y,H2,I2,r2,q2⟩=>?_;exact hf v u s2 x y H2 I2 r1 r2 q2
def JS{op:Operator}{r:R2}(ho:OpR X (binaryOp op) r)(ha:PE X a ta)(hb:PE X b tb):PE X (.BinOp a op b pos) (tOp r ta tb):=by
 intro pins s σ H Q I h;exact wpAny_BinOp (binT ha hb I h fun v u s2 x y H2 I2 rx ry q=>ho pins s2 σ H2 x y v u Q I2 rx ry q)
def X1{op:UnaryOp}{r:V->Hp->VK->Prop}(ho:UnR X (unaryOp op) r)(ha:PE X a ta):PE X (.UnaryOp op a pos) (tUn r ta):=by
 intro pins s σ H Q I h;exact UnaryOp_ (thn (ha pins s σ H _ I h) fun v s1 ⟨x,H1,I1,r1,q1⟩=>ho pins s1 σ H1 x v Q I1 r1 q1)
def opI{f:Value->Value->Sem Value}{C:Int->Int->Prop}{g:Int->Int->Int}(rule:∀(i j:Int) (t u:Tok) (s:Shared) (Q:Value->Shared->Prop) (E:Value->Shared->Prop),C i j->Q (.int (g i j) s.toks) {s with toks:=s.toks+1}->wpAny (model X.prog X.w) X.A (f (.int i t) (.int j u)) Q E s) :
  OpR X f (rI C fun i j=>.int (g i j)):=by
 intro pins s σ H x y v u Q I rx ry h;obtain⟨i,j,rfl,rfl,hc,q⟩:=h;obtain⟨t,rfl⟩:=rx;obtain⟨t',rfl⟩:=ry;exact rule i j t t' s _ _ hc ⟨.int (g i j),H,I.tok _,⟨_,rfl⟩,q⟩
def opI0{f:Value->Value->Sem Value}{g:Int->Int->Int}(rule:∀(i j:Int) (t u:Tok) (s:Shared) (Q:Value->Shared->Prop) (E:Value->Shared->Prop),Q (.int (g i j) s.toks) {s with toks:=s.toks+1}->wpAny (model X.prog X.w) X.A (f (.int i t) (.int j u)) Q E s) :
  OpR X f (rI0 fun i j=>.int (g i j)):=by
 intro pins s σ H x y v u Q I rx ry h;obtain⟨i,j,rfl,rfl,q⟩:=h;obtain⟨t,rfl⟩:=rx;obtain⟨t',rfl⟩:=ry;exact rule i j t t' s _ _ ⟨.int (g i j),H,I.tok _,⟨_,rfl⟩,q⟩
def opB0{f:Value->Value->Sem Value}{g:Int->Int->Bool}(rule:∀(i j:Int) (t u:Tok) (s:Shared) (Q:Value->Shared->Prop) (E:Value->Shared->Prop),Q (.bool (g i j)) s->wpAny (model X.prog X.w) X.A (f (.int i t) (.int j u)) Q E s) :
  OpR X f (rI0 fun i j=>.bl (g i j)):=by
 intro pins s σ H x y v u Q I rx ry h;obtain⟨i,j,rfl,rfl,q⟩:=h;obtain⟨t,rfl⟩:=rx;obtain⟨t',rfl⟩:=ry;exact rule i j t t' s _ _ ⟨.bl (g i j),H,I,rfl,q⟩
def CDiv(i j:Int):Prop:=0<j/\j<1073741824
def CPow(i j:Int):Prop:=0<=j/\j<=1000000/\i.natAbs<2 ^ 64
def CMul(i j:Int):Prop:=(-(2 ^ 64)<i/\i<2 ^ 64)\/(-(2 ^ 64)<j/\j<2 ^ 64)
def CMul.ok {i j:Int} (h:CMul i j):IntMulOk i j:=by
 rcases h with⟨h1,h2⟩|⟨h1,h2⟩
 ·exact .of_left (intBits_le_64 h1 h2)
 ·exact .of_right (intBits_le_64 h1 h2)
def Uu:OpR X (binaryOp .Add) (rI0 fun i j=>.int (i+j)):=opI0 fun _ _ _ _ _ _ _ q=>add_int q
def U3:OpR X (binaryOp .Sub) (rI0 fun i j=>.int (i-j)):=opI0 fun _ _ _ _ _ _ _ q=>sub_int q
def KZ:OpR X (binaryOp .Mult) (rI CMul fun i j=>.int (i*j)):=opI fun _ _ _ _ _ _ _ hc q=>mul_int q hc.ok
def UY:OpR X (binaryOp .FloorDiv) (rI CDiv fun i j=>.int (i / j)):=opI fun i j _ _ _ _ _ hc q=>by
 have h1:(0:Int)<j:=hc.1;have h2:j<1073741824:=hc.2;exact floordiv_int (by omega) (by rw[Int.fdiv_eq_ediv_of_nonneg i (by omega)];exact q) (.inl (PyProof.noPylong_small (by omega)))
def Uw:OpR X (binaryOp .Mod) (rI (fun _ j=>0<j) fun i j=>.int (i % j)):=opI fun i j _ _ _ _ _ hc q=>by
 have h1:(0:Int)<j:=hc;exact mod_int' (by omega) (by rw[Int.fmod_eq_emod_of_nonneg i (by omega)];exact q)
def FC:OpR X (binaryOp .Pow) (rI CPow fun i j=>.int (i ^ j.toNat)):=opI fun _ _ _ _ _ _ _ hc q=>pow_int_small hc.1 hc.2.1 hc.2.2 q
def unI{f:Value->Sem Value}{g:Int->Int}(rule:∀(i:Int) (t:Tok) (s:Shared) (Q:Value->Shared->Prop) (E:Value->Shared->Prop),Q (.int (g i) s.toks) {s with toks:=s.toks+1}->wpAny (model X.prog X.w) X.A (f (.int i t)) Q E s) :
  UnR X f (rU fun i=>.int (g i)):=by
 intro pins s σ H x v Q I rx h;obtain⟨i,rfl,q⟩:=h;obtain⟨t,rfl⟩:=rx;exact rule i t s _ _ ⟨.int (g i),H,I.tok _,⟨_,rfl⟩,q⟩
def Xx:UnR X (unaryOp .USub) (rU fun i=>.int (-i)):=unI fun _ _ _ _ _ q=>neg_int q
end
def scal:V->V->Bool
 | .non,.non=>true | .non,.int _=>true | .int _,.non=>true | .non,.bl _=>true | .bl _,.non=>true | .non,.str _=>true | .str _,.non=>true
 | .int _,.int _=>true | .bl _,.bl _=>true | .str _,.str _=>true | .byt _,.byt _=>true
 | .int _,.str _=>true | .str _,.int _=>true | .bl _,.str _=>true | .str _,.bl _=>true
 |_,_=>false
def rEq:R2:=fun x y H Q=>scal x y=true/\Q (.bl (decide (x=y))) H
def rNe:R2:=fun x y H Q=>scal x y=true/\Q (.bl (!decide (x=y))) H
def Ik{i j:Int}:decide (V.int i=V.int j)=(i==j):=by
 rw[Vm];simp
def Ir{i j:Bool}:decide (V.bl i=V.bl j)=(i==j):=by
 rw[Vm];simp
def AY{i j:Str}:decide (V.str i=V.str j)=(i==j):=by
 rw[Vm];simp
def EH{i j:Array UInt8}:decide (V.byt i=V.byt j)=(i.toList==j.toList):=by
 rw[Vm];cases i
 cases j
 simp
section
variable {X:Cx}{a b c:Expr}{ta tb tc:TE}{pos:Pos}
def UB{pins:List (Addr×Obj)}{σ:St}{H:Hp}{s:Shared}{Q:VK}{k k':Bool}(I:Inv X pins σ H s)(q:Q (.bl k) H)(e:k=k'):EP X pins σ Q (.bool k') s:=by
 subst e;exact⟨.bl k,H,I,rfl,q⟩
def op_eq:OpR X (compareOp .Eq) rEq:=by
 intro pins s σ H x y v u Q I rx ry h;obtain⟨hs,q⟩:=h;cases x with
 |non=>
  cases rx
  cases y with
  |non=>cases ry;exact PySem.EqNone.eq_none_none (UB I q (by simp))
  |bl j=>cases ry;exact PySem.EqNone.eq_none_bool (UB I q (by simp))
  |int j=>obtain⟨t',rfl⟩:=ry;exact PySem.EqNone.eq_none_int (UB I q (by simp))
  |str j=>obtain⟨t',rfl⟩:=ry;exact PySem.EqNone.eq_none_str (UB I q (by simp))
  |_=>exact absurd (show false=true from hs) YG
 |bl i=>
  cases rx
  cases y with
  |non=>cases ry;exact PySem.EqNone.eq_bool_none (UB I q (by simp))
  |bl j=>cases ry;exact eq_bool (UB I q Ir)
  |str j=>obtain⟨t',rfl⟩:=ry;exact PySem.EqMixed.eq_bool_str (UB I q (by simp))
  |_=>exact absurd (show false=true from hs) YG
 |int i=>
  obtain⟨t,rfl⟩:=rx;cases y with
  |non=>cases ry;exact PySem.EqNone.eq_int_none (UB I q (by simp))
  |int j=>obtain⟨t',rfl⟩:=ry;exact eq_int (UB I q Ik)
  |str j=>obtain⟨t',rfl⟩:=ry;exact PySem.EqMixed.eq_int_str (UB I q (by simp))
  |_=>exact absurd (show false=true from hs) YG
 |str i=>
  obtain⟨t,rfl⟩:=rx;cases y with
  |non=>cases ry;exact PySem.EqNone.eq_str_none (UB I q (by simp))
  |bl j=>cases ry;exact PySem.EqMixed.eq_str_bool (UB I q (by simp))
  |int j=>obtain⟨t',rfl⟩:=ry;exact PySem.EqMixed.eq_str_int (UB I q (by simp))
  |str j=>obtain⟨t',rfl⟩:=ry;exact eq_str (UB I q AY)
  |_=>exact absurd (show false=true from hs) YG
 |byt i=>
  obtain⟨t,rfl⟩:=rx;cases y with
  |byt j=>obtain⟨t',rfl⟩:=ry;exact PySem.W.eq_bytes (UB I q EH)
  |_=>exact absurd (show false=true from hs) YG
 |_=>cases y<;>exact absurd (show false=true from hs) YG
def op_ne:OpR X (compareOp .NotEq) rNe:=by
 intro pins s σ H x y v u Q I rx ry h;obtain⟨hs,q⟩:=h;cases x with
 |non=>
  cases rx
  cases y with
  |non=>cases ry;exact PySem.EqNone.ne_none_none (UB I q (by simp))
  |bl j=>cases ry;exact PySem.EqNone.ne_none_bool (UB I q (by simp))
  |int j=>obtain⟨t',rfl⟩:=ry;exact PySem.EqNone.ne_none_int (UB I q (by simp))
  |str j=>obtain⟨t',rfl⟩:=ry;exact PySem.EqNone.ne_none_str (UB I q (by simp))
  |_=>exact absurd (show false=true from hs) YG
 |bl i=>
  cases rx
  cases y with
  |non=>cases ry;exact PySem.EqNone.ne_bool_none (UB I q (by simp))
  |bl j=>cases ry;exact ne_bool (UB I q (Wj not Ir))
  |str j=>obtain⟨t',rfl⟩:=ry;exact PySem.EqMixed.ne_bool_str (UB I q (by simp))
  |_=>exact absurd (show false=true from hs) YG
 |int i=>
  obtain⟨t,rfl⟩:=rx;cases y with
  |non=>cases ry;exact PySem.EqNone.ne_int_none (UB I q (by simp))
  |int j=>obtain⟨t',rfl⟩:=ry;exact ne_int (UB I q (Wj not Ik))
  |str j=>obtain⟨t',rfl⟩:=ry;exact PySem.EqMixed.ne_int_str (UB I q (by simp))
  |_=>exact absurd (show false=true from hs) YG
 |str i=>
  obtain⟨t,rfl⟩:=rx;cases y with
  |non=>cases ry;exact PySem.EqNone.ne_str_none (UB I q (by simp))
  |bl j=>cases ry;exact PySem.EqMixed.ne_str_bool (UB I q (by simp))
  |int j=>obtain⟨t',rfl⟩:=ry;exact PySem.EqMixed.ne_str_int (UB I q (by simp))
  |str j=>obtain⟨t',rfl⟩:=ry;exact ne_str (UB I q (Wj not AY))
  |_=>exact absurd (show false=true from hs) YG
 |byt i=>
  obtain⟨t,rfl⟩:=rx;cases y with
  |byt j=>obtain⟨t',rfl⟩:=ry;exact PySem.W.ne_bytes (UB I q (Wj not EH))
  |_=>exact absurd (show false=true from hs) YG
 |_=>cases y<;>exact absurd (show false=true from hs) YG
def X6:OpR X (compareOp .Lt) (rI0 fun i j=>.bl (decide (i<j))):=opB0 fun _ _ _ _ _ _ _ q=>lt_int q
def Me:OpR X (compareOp .LtE) (rI0 fun i j=>.bl (decide (i<=j))):=opB0 fun _ _ _ _ _ _ _ q=>le_int q
def Xp:OpR X (compareOp .Gt) (rI0 fun i j=>.bl (decide (j<i))):=opB0 fun _ _ _ _ _ _ _ q=>gt_int q
def P9:OpR X (compareOp .GtE) (rI0 fun i j=>.bl (decide (j<=i))):=opB0 fun _ _ _ _ _ _ _ q=>ge_int q
def OpR.or {f:Value->Value->Sem Value}{r r':R2} (h:OpR X f r) (h':OpR X f r'):OpR X f (fun x y H Q=>r x y H Q\/r' x y H Q):=by
 intro pins s σ H x y v u Q I rx ry q;rcases q with q|q
 ·exact h pins s σ H x y v u Q I rx ry q
 ·exact h' pins s σ H x y v u Q I rx ry q
def Up(b:Expr){op:CmpOp}(h:op≠.In:=by decide)(h2:op≠.NotIn:=by decide):behindInMarks op b=false:=by
 have e1:(op==CmpOp.In)=false:=by cases op<;>first|rfl|exact absurd rfl h
 have e2:(op==CmpOp.NotIn)=false:=by cases op<;>first|rfl|exact absurd rfl h2
 cases b<;>simp[behindInMarks,e1,e2]
def Pa{op:CmpOp}{r:R2}(ho:OpR X (compareOp op) r)(ha:PE X a ta)(hb:PE X b tb)(hm:behindInMarks op b=false):PE X (.Compare a [op] [b] pos) (tOp r ta tb):=by
 intro pins s σ H Q I h;exact wpAny_Compare1 (binT ha hb I h fun v u s2 x y H2 I2 rx ry q=>ho pins s2 σ H2 x y v u Q I2 rx ry q) hm
def Sw(t:TE):TT:=fun σ H Q=>t σ H fun x H'=>∃k,x=.bl k/\Q k H'
def Uk{op:CmpOp}{r:R2}(ho:OpR X (compareOp op) r)(ha:PE X a ta)(hb:PE X b tb)(hm:behindInMarks op b=false):PT X (.Compare a [op] [b] pos) (Sw (tOp r ta tb)):=by
 intro pins s σ H Q I h
 refine wpAny_isTrue_Compare1 (thn (ha pins s σ H _ I h) fun v s1 ⟨x,H1,I1,r1,q1⟩=>thn (hb pins s1 σ H1 _ I1 q1) fun u s2 ⟨y,H2,I2,r2,q2⟩=>
  thn (ho pins s2 σ H2 x y v u _ I2 r1 r2 q2) fun c s3 ⟨z,H3,I3,r3,k,e,q3⟩=>?_) hm
 subst e;cases r3
 exact Qh ⟨H3,I3,q3⟩
def TruV(K:Za)(x:V)(H:Hp)(k:Bool):Prop:=
 match x with
 | .non=>k=false
 | .bl b=>k=b
 | .int i=>k=(i != 0)
 | .str y=>y.length<=sizeLine/\k=((y.length:Int) != 0)
 | .byt y=>y.size<=sizeLine/\k=((y.size:Int) != 0)
 | .ref p=>(∃xs,SqL K H p xs/\k=!xs.isEmpty)\/(∃xs,SqT K H p xs/\k=!xs.isEmpty)\/∃kvs,H p=some (.dK kvs)/\k=!kvs.isEmpty
 |_=>False
def MM{κ:Type}{kvs:List (κ×V)}{vs:List (κ×Value)}(r:KV kvs vs):(!vs.isEmpty)=!kvs.isEmpty:=by
 cases r<;>rfl
def ER{xs:List V}{its:List Value}(r:Vals xs its):(!its.toArray.isEmpty)=!xs.isEmpty:=by
 cases r<;>simp
def NB:(sizeLine:Nat)<2 ^ 63:=by rw[sizeLine_eq];decide
def Zeq:TruR X (fun x H Q=>∃k,TruV X.K x H k/\Q k H):=by
 intro pins s σ H x v Q I rx h;obtain⟨k,e,q⟩:=h;have hl:=NB;have hs:sizeLine=16777216:=sizeLine_eq;cases x with
 |non=>
  cases rx
  have e':k=false:=e;subst e';exact truthy_none ⟨H,I,q⟩
 |bl b=>
  cases rx
  have e':k=b:=e;subst e';exact Qh ⟨H,I,q⟩
 |int i=>
  obtain⟨t,rfl⟩:=rx;have e':k=(i != 0):=e;subst e';exact PySem.P.truthy_int ⟨H,I,q⟩
 |str y=>
  obtain⟨t,rfl⟩:=rx;obtain⟨hy,e'⟩:y.length<=sizeLine/\k=((y.length:Int) != 0):=e;subst e';exact PySem.P.truthy_str (by omega) ⟨H,I.tok _,q⟩
 |byt y=>
  obtain⟨t,rfl⟩:=rx;obtain⟨hy,e'⟩:y.size<=sizeLine/\k=((y.size:Int) != 0):=e;subst e';exact PySem.W.truthy_bytes (by omega) ⟨H,I.tok _,q⟩
 |ref p=>
  cases rx
  have e':(∃xs,SqL X.K H p xs/\k=!xs.isEmpty)\/(∃xs,SqT X.K H p xs/\k=!xs.isEmpty)\/∃kvs,H p=some (.dK kvs)/\k=!kvs.isEmpty:=e;rcases e' with⟨xs,hx,e'⟩|⟨xs,hx,e'⟩|⟨kvs,hx,e'⟩
  ·subst e';obtain⟨its,r,pl,hz⟩:=I.list hx;have hlen:=r.length;exact wpAny_truthy_list pl.isList (by simp only[YD];omega) ⟨H,I.tok _,by rw[ER r];exact q⟩
  ·subst e';obtain⟨its,r,pl,hz⟩:=I.tuple hx;have hlen:=r.length;exact truthy_tuple pl (by simp only[YD];omega) ⟨H,I.tok _,by rw[ER r];exact q⟩
  ·subst e';obtain⟨hz,hS,vs,r,m⟩:kvs.length<=sizeLine/\(p==sysModules)=false/\∃vs,KV kvs vs/\s.heap.DictOf (XO X.prog X.w) p vs:=I.hok p _ hx;have hlen:kvs.length=vs.length:=Paired.length r;exact wpAny_truthy_dict hS m (by omega) ⟨H,I.tok _,by rw[MM r];exact q⟩
 |_=>exact(show False from e).elim
def Zco(ha:PE X a ta)(he:∀whole,isTrue a X.env whole=(do let v ←whole;standAt a.pos;holding [v] (truthy v))) :
  PT X a (fun σ H Q=>ta σ H fun x H'=>∃k,TruV X.K x H' k/\Q k H'):=by
 intro pins s σ H Q I h;exact isTrue_plain (thn (ha pins s σ H _ I h) fun v s1 ⟨x,H1,I1,r1,q1⟩=>Zeq pins s1 σ H1 x v Q I1 r1 q1) (he _)
def vals1{x:V}{us:List Value}(r:Vals [x] us):∃u,us=[u]/\RelV x u:=by
 cases r with
 |cons r1 r2=>cases r2;exact⟨_,rfl,r1⟩
def vals2{x y:V}{us:List Value}(r:Vals [x,y] us):∃u w',us=[u,w']/\RelV x u/\RelV y w':=by
 cases r with
 |cons r1 r2=>
  cases r2 with
  |cons r3 r4=>cases r4;exact⟨_,_,rfl,r1,r3⟩
def Ht(hc:X.calm=true):Xd X (.builtin "max") (fun xs H Q=>∃i j,xs=[.int i,.int j]/\Q (.int (if j>i then j else i)) H):=by
 intro pins s σ H xs us Q I r h;obtain⟨i,j,rfl,q⟩:=h;obtain⟨u,w',rfl,⟨t,rfl⟩,⟨t',rfl⟩⟩:=vals2 r;refine max_two_ints (I.ok.hd hc) fun h' tk k=>⟨_,H,I.kept k,?_,q⟩;by_cases hj:j>i
 ·rw[Yz hj,Yz hj];exact⟨_,rfl⟩
 ·rw[Yx hj,Yx hj];exact⟨_,rfl⟩
def ME:Xd X (.type "int") (fun xs H Q=>(∃i,xs=[.int i]/\Q (.int i) H)\/∃k,xs=[.bl k]/\Q (.int (if k then 1 else 0)) H):=by
 intro pins s σ H xs us Q I r h;rcases h with⟨i,rfl,q⟩|⟨k,rfl,q⟩
 ·obtain⟨u,rfl,t,rfl⟩:=vals1 r;exact call_int_int ⟨.int i,H,I,⟨_,rfl⟩,q⟩
 ·obtain⟨u,rfl,r1⟩:=vals1 r;cases r1
  exact call_int_bool ⟨.int (if k then 1 else 0),H,I.tok _,⟨_,rfl⟩,q⟩
def LenV(K:Za)(x:V)(H:Hp)(n:Nat):Prop:=
 match x with
 | .str y=>y.length<=sizeLine/\n=y.length
 | .byt y=>y.size<=sizeLine/\n=y.size
 | .ref p=>(∃xs,SqL K H p xs/\n=xs.length)\/∃xs,SqT K H p xs/\n=xs.length
 |_=>False
def M0:Xd X (.builtin "len") (fun xs H Q=>∃x n,xs=[x]/\LenV X.K x H n/\Q (.int n) H):=by
 intro pins s σ H xs us Q I r h;obtain⟨x,n,rfl,e,q⟩:=h;obtain⟨u,rfl,rx⟩:=vals1 r;have hl:=NB;have hs:sizeLine=16777216:=sizeLine_eq;cases x with
 |str y=>
  obtain⟨t,rfl⟩:=rx;obtain⟨hy,e'⟩:y.length<=sizeLine/\n=y.length:=e;subst e';exact len_str (by omega) ⟨.int _,H,I.tok _,⟨_,rfl⟩,q⟩
 |byt y=>
  obtain⟨t,rfl⟩:=rx;obtain⟨hy,e'⟩:y.size<=sizeLine/\n=y.size:=e;subst e';exact PySem.W.len_bytes (by omega) ⟨.int _,H,I.tok _,⟨_,rfl⟩,q⟩
 |ref p=>
  cases rx
  have e':(∃xs,SqL X.K H p xs/\n=xs.length)\/∃xs,SqT X.K H p xs/\n=xs.length:=e;rcases e' with⟨xs,hx,e'⟩|⟨xs,hx,e'⟩
  ·subst e';obtain⟨its,r',pl,hz⟩:=I.list hx;have hlen:=r'.length;exact Calls.call_len_list pl.isList (by simp only[YD];omega) ⟨.int xs.length,H,I.tok _,⟨_,by simp only[YD];rw[hlen]⟩,q⟩
  ·subst e';obtain⟨its,r',pl,hz⟩:=I.tuple hx;have hlen:=r'.length;exact len_tuple pl (by simp only[YD];omega) ⟨.int xs.length,H,I.tok _,⟨_,by simp only[YD];rw[hlen]⟩,q⟩
 |_=>exact(show False from e).elim
end
structure ObjM (h:Heap) (x dx C:Addr) (mA:Str->Option Value):Prop where
 obj:h.get? x=some (PySem.W.instObj C dx)
 ns:h.Ns1 dx mA
 ne:dx≠x
def LX{h:Heap}{dx:Addr}{mA:Str->Option Value}(n:h.Ns1 dx mA):∃od,h.get? dx=some od/\∀name,PySem.W.lookIn name od=some (mA name):=by
 obtain⟨o,es,ep,ho,hd,hk,_,hm⟩:=n;refine⟨o,ho,fun name=>?_⟩;have e:=hm name;unfold nsFind findBy at e;rw[←Array.find?_toList]at e;unfold PySem.W.lookIn;rw[hd]
 dsimp only
 split
 ·rename_i y q;rw[q]at e;exact Wj some e
 ·rename_i q;rw[q]at e
  have a:es.toList.any (·.refKey)=false:=by
   rw[V6];intro y hy;obtain⟨z,t,hkey⟩:=hk y (Array.mem_toList_iff.mp hy);simp[DictEntry.refKey,hkey]
  have a':¬es.toList.any (·.refKey)=true:=by rw[a];exact YG
  rw[Yx a'];exact Wj some e
def ObjM.look {h:Heap}{x dx C:Addr}{mA:Str->Option Value} (I:ObjM h x dx C mA):∃od,PySem.W.InstAt h x (PySem.W.instObj C dx) C (some od)/\∀name,PySem.W.lookIn name od=some (mA name):=
 let ⟨od,ho,hl⟩:=LX I.ns
 ⟨od,⟨I.obj,rfl,rfl,ho⟩,hl⟩
section
variable {prog:Program}{w:World}{A:Around}{E:Value->Shared->Prop}{s:Shared}{K:Za}{x dx C f:Addr}{mA:Str->Option Value}{name:Str}{v:Value}
def IU{expr:Bool}{Q:Value->Shared->Prop}(X:K.In s.heap)(I:ObjM s.heap x dx C mA)(hg:PySem.W.plainGet K C name=true)(hh:PySem.W.hasDictIn K C=true)(ha:PySem.W.findIn K (.ref C) name=some none)(hv:mA name=some v)(hv':PySem.W.handedIn v=true)(h:Q v {s with toks:=s.toks+1}) :
  wpAny (model prog w) A (getAttr (.ref x) name expr) Q E s:=by
 obtain⟨od,J,hl⟩:=I.look;exact PySem.W.get_value X J (Vs hg).1 (PySem.W.findObj_own hh ha rfl (by rw[hl,hv])) hv' h
def Mr{pl:Sem Bool}{Q:Value×List Value->Shared->Prop}(X:K.In s.heap)(I:ObjM s.heap x dx C mA)(hg:PySem.W.plainGet K C name=true)(hf:PySem.W.findIn K (.ref C) name=some (some (.ref f)))(ht:PySem.W.isFn K (.ref f)=true)(hv:mA name=none)(h:Q (.ref f,[.ref x]) s) :
  wpAny (model prog w) A (getMethod (.ref x) name pl) Q E s:=by
 obtain⟨od,J,hl⟩:=I.look;exact PySem.W.method_fn X J (Vs hg).1 (Vs hg).2 hf (beq_iff_eq.mp ht) (by show(PySem.W.lookIn name od).map (·.isSome)=some false;rw[hl,hv];rfl) h
def Zgs{ns:List Str}{Q:Unit->Shared->Prop}(X:K.In s.heap)(I:ObjM s.heap x dx C mA)(hs:PySem.W.findIn K (.ref C) "__setattr__"=some (some (.builtin "object.__setattr__")))(hp:PySem.W.plainOver K C=true)(ht:PySem.W.takerIn K C name=some none)(hh:PySem.W.hasDictIn K C=true)(hw:PySem.Within mA ns)(hsz:ns.length<=sizeLine)(h:∀h',ObjM h' x dx C (fun y=>if y=name then some v else mA y)->Heap.SameBut dx s.heap h'->Q () {s with heap:=h',toks:=s.toks+2}) :
  wpAny (model prog w) A (setAttr (.ref x) name v) Q E s:=by
 obtain⟨od,J,hl⟩:=I.look;refine PySem.W.set_plain X J hs (PySem.W.osa_open (s:={s with toks:=s.toks+1}) (r:=none) X J hp ht fun b=>?_)
 obtain⟨cd,hc,hd'⟩:=PySem.W.any_some hh;have hx:s.heap.get? x=some ⟨.ref C,some dx,.plain,#[]⟩:=I.obj;refine Yv (Y2 (Yv (Yv (wpAny_loadPart hx (Yv (PySem.W.Looks.here (s:={s with toks:=s.toks+1}) (PySem.W.looks_clsIn X hc) ?_))))))
 rw[hd'];refine Y2 (a:=some dx) (Yv (Y2 (Yv ?_)));refine wpAny_nsSet1 (s:={s with toks:=s.toks+1}) I.ns fun h' hn2 hs2=>?_
 obtain⟨oD,esD,epD,hoD,hdD,hcD⟩:=hn2.count (PySem.Within.cons name v hw);refine Yv (wpAny_lookBehind hoD (by rw[hdD];exact pastItsLine_dict (Y8 hcD (by rw[YF];omega))) ?_);exact Y2 (h _ ⟨(hs2.2 _ (Ne.symm I.ne)).trans I.obj,hn2,I.ne⟩ hs2)
def Zbu{R:Result->Shared->Prop}{vs:List Value}{kw:List (Str×Value)}(X:K.In s.heap)(hm:PySem.W.makesIn K C=true)(hi:PySem.W.findIn K (.ref C) "__init__"=some (some (.ref f)))(hf:PySem.W.typeIn K (.ref f)=some (.type "function"))
  (h:codeAny (model prog w) (A.under (.builtin "type.__call__" ⟨.ref C::vs,kw⟩)) (.call (.ref f) ⟨.ref (s.heap.objs.size+1)::vs,kw⟩) (PySem.W.InitBack (s.heap.objs.size+1) R)
   {s with heap:=(s.heap.push PySem.W.emptyDict).push (PySem.W.instObj C s.heap.objs.size)}) :
  codeAny (model prog w) A (.call (.ref C) ⟨vs,kw⟩) R s:=by
 obtain⟨hh,g,d,t,os⟩:=s;exact PySem.W.make_core (PySem.W.makes_of X hm) (PySem.W.looks_findIn X hi) (fun self=>PySem.W.bind_fn X self hf) (.inl rfl) h
end
def putF(f:Str)(v:V):List (Str×V)->List (Str×V)
 |[]=>[(f,v)]
 |(g,x)::r=>if g=f then(g,v)::r else(g,x)::putF f v r
def Dc(f g:Str)(v:V):∀fs:List (Str×V),(putF f v fs).lookup g=if g=f then some v else fs.lookup g
 |[]=>by
  show List.lookup g [(f,v)]=_;by_cases h:g=f
  ·have hb:(g==f)=true:=beq_iff_eq.mpr h;simp only[List.lookup,hb,Yz h]
  ·have hb:(g==f)=false:=WJ.mpr h;simp only[List.lookup,hb,Yx h]
 |(k,x)::r=>by
  have ih:=Dc f g v r;rw[show putF f v ((k,x)::r)=(if k=f then(k,v)::r else(k,x)::putF f v r)from rfl]
  by_cases hk:k=f
  ·rw[Yz hk];by_cases h:g=k
   ·have hb:(g==k)=true:=beq_iff_eq.mpr h;simp only[List.lookup,hb,Yz (h.trans hk)]
   ·have hb:(g==k)=false:=WJ.mpr h;simp only[List.lookup,hb,Yx (fun e:g=f=>h (e.trans hk.symm))]
  ·rw[Yx hk];by_cases h:g=k
   ·have hb:(g==k)=true:=beq_iff_eq.mpr h;simp only[List.lookup,hb,Yx (fun e:g=f=>hk (h.symm.trans e))]
   ·have hb:(g==k)=false:=WJ.mpr h;simp only[List.lookup,hb];exact ih
def Bq(f:Str)(v:V):∀fs:List (Str×V),f∈(putF f v fs).map (·.1)/\∀g,g∈fs.map (·.1)->g∈(putF f v fs).map (·.1)
 |[]=>⟨by simp[putF],fun g h=>by simp at h⟩
 |(k,x)::r=>by
  obtain⟨i1,i2⟩:=Bq f v r;rw[show putF f v ((k,x)::r)=(if k=f then(k,v)::r else(k,x)::putF f v r)from rfl]
  by_cases hk:k=f
  ·rw[Yz hk];subst hk;exact⟨by simp,fun g h=>by simpa using h⟩
  ·rw[Yx hk];refine⟨?_,fun g h=>?_⟩
   ·rw[YC];exact YJ _ i1
   ·rw[YC]at h ⊢;rcases YA.mp h with e|e
    ·exact YA.mpr (.inl e)
    ·exact YJ _ (i2 g e)
def CN(f:Str)(v:V):∀fs:List (Str×V),(putF f v fs).length<=fs.length+1
 |[]=>by simp[putF]
 |(k,x)::r=>by
  have ih:=CN f v r;rw[show putF f v ((k,x)::r)=(if k=f then(k,v)::r else(k,x)::putF f v r)from rfl]
  by_cases hk:k=f
  ·rw[Yz hk,YF,YF];omega
  ·rw[Yx hk,YF,YF];omega
def RelO.some_of {v:V}{o:Option Value} (r:RelO (some v) o):∃u,o=some u/\RelV v u:=by
 cases o with
 |none=>exact(show False from r).elim
 |some u=>exact⟨u,rfl,r⟩
def RelO.none_of {o:Option Value} (r:RelO none o):o=none:=by
 cases o with
 |none=>rfl
 |some u=>exact(show False from r).elim
def LP{v:V}{u:Value}(r:RelV v u):PySem.W.handedIn u=true:=by
 cases v with
 |non=>cases (show u=Value.none from r);rfl
 |bl b=>cases (show u=Value.bool b from r);rfl
 |int i=>obtain⟨t,e⟩:=(show ∃t,u=Value.int i t from r);cases e;rfl
 |str x=>obtain⟨t,e⟩:=(show ∃t,u=Value.str x t from r);cases e;rfl
 |byt b=>obtain⟨t,e⟩:=(show ∃t,u=Value.bytes b t from r);cases e;rfl
 |flt b=>obtain⟨t,e⟩:=(show ∃t,u=Value.float b t from r);cases e;rfl
 |ref a=>cases (show u=Value.ref a from r);rfl
 |ty n=>cases (show u=Value.type n from r);rfl
section
variable {P:Program}{w:World}{H H':Hp}{h h':Heap}{a C dx:Addr}{fs fs':List (Str×V)}
def Sr(hok:HOk P w H h)(e:H a=some (.ins C dx fs)):∃mA,ObjM h a dx C mA/\(∀f,RelO (fs.lookup f) (mA f))/\PySem.Within mA (fs.map (·.1))/\fs.length<=1000/\H dx=some (.own a):=by
 obtain⟨d,z,ne,ob,mA,n,r,q⟩:=(show ObjOk P w H h a (.ins C dx fs)from hok a _ e)
 exact⟨mA,⟨ob,n,ne⟩,r,q,z,d⟩
end
structure Cls (K:Za) (C:Addr):Prop where
 pg:PySem.W.plainGet K C Str.empty=true
 hd:PySem.W.hasDictIn K C=true
 po:PySem.W.plainOver K C=true
 sa:PySem.W.findIn K (.ref C) "__setattr__"=some (some (.builtin "object.__setattr__"))
def Cls.get {K:Za}{C:Addr} (c:Cls K C) (f:Str):PySem.W.plainGet K C f=true:=c.pg
def NoAttr(K:Za)(C:Addr)(f:Str):Prop:=PySem.W.findIn K (.ref C) f=some none
def NoAttr.taker {K:Za}{C:Addr}{f:Str} (n:NoAttr K C f):PySem.W.takerIn K C f=some none:=by
 unfold PySem.W.takerIn;rw[show PySem.W.findIn K (.ref C) f=some none from n]
 rfl
structure Meth (K:Za) (C:Addr) (m:Str) (f:Addr):Prop where
 at_:PySem.W.findIn K (.ref C) m=some (some (.ref f))
 fn:PySem.W.isFn K (.ref f)=true
 kp:PySem.W.keepIn K (.ref f)=true
section
variable {X:Cx}{pins:List (Addr×Obj)}{σ:St}{H:Hp}{s:Shared}{a C dx:Addr}{fs:List (Str×V)}{f:Str}{v:V}{A:Around}{E:Value->Shared->Prop}
def Zbj{b:Bool}{Q:Value->Shared->Prop}(I:Inv X pins σ H s)(e:H a=some (.ins C dx fs))(c:Cls X.K C)(n:NoAttr X.K C f)(l:fs.lookup f=some v)(h:∀u s',Inv X pins σ H s'->RelV v u->Q u s'):wpAny (model X.prog X.w) A (getAttr (.ref a) f b) Q E s:=by
 obtain⟨mA,O,r,_,_,_⟩:=Sr I.hok e;obtain⟨u,hu,ru⟩:=RelO.some_of (v:=v) (o:=mA f) (by rw[←l];exact r f);exact IU I.kIn O (c.get f) c.hd n hu (LP ru) (h u _ (I.tok _) ru)
def Fk{m:Str}{g:Addr}{pl:Sem Bool}{Q:Value×List Value->Shared->Prop}(I:Inv X pins σ H s)(e:H a=some (.ins C dx fs))(c:Cls X.K C)(k:Meth X.K C m g)(l:fs.lookup m=none)(h:Q (.ref g,[.ref a]) s):wpAny (model X.prog X.w) A (getMethod (.ref a) m pl) Q E s:=by
 obtain⟨mA,O,r,_,_,_⟩:=Sr I.hok e;have hn:mA m=none:=RelO.none_of (by rw[←l];exact r m);exact Mr I.kIn O (c.get m) k.at_ k.fn hn h
def Mf{y:V}{u:Value}{Q:Unit->Shared->Prop}(I:Inv X pins σ H s)(e:H a=some (.ins C dx fs))(c:Cls X.K C)(n:NoAttr X.K C f)(hl:fs.length<1000)(ry:RelV y u)(h:∀s',Inv X pins σ (upd H a (.ins C dx (putF f y fs))) s'->Q () s'):wpAny (model X.prog X.w) A (setAttr (.ref a) f u) Q E s:=by
 obtain⟨mA,O,r,wi,_,ho⟩:=Sr I.hok e;have hz:(fs.map (·.1)).length<=sizeLine:=by rw[Yu,sizeLine_eq];omega
 refine Zgs I.kIn O c.sa c.po n.taker c.hd wi hz fun h' O' sb=>h _ ?_;have hd:∃o,h'.get? dx=some o:=let ⟨o,_,_,e',_⟩:=O'.ns;⟨o,e'⟩;refine I.write (x:=a) (e:=dx) (by rw[e];exact True.intro) (.inr ho) (fun b q hb z=>(sb.2 b hb).trans z) hd ?_;refine⟨by rw[Uv O.ne];exact ho,?_,O.ne,O'.obj,_,O'.ns,fun g=>?_,fun g hg=>?_⟩
 ·have:=CN f y fs;omega
 ·show RelO ((putF f y fs).lookup g) (if g=f then some u else mA g);rw[Dc];by_cases q:g=f
  ·rw[Yz q,Yz q];exact ry
  ·rw[Yx q,Yx q];exact r g
 ·by_cases q:g=f
  ·rw[q];exact(Bq f y fs).1
  ·refine(Bq f y fs).2 g (wi g fun z=>hg ?_);show(if g=f then some u else mA g)=none;rw[Yx q];exact z
def Inv.made (I:Inv X pins σ H s):Inv X pins σ (upd (upd H s.heap.objs.size (.own (s.heap.objs.size+1))) (s.heap.objs.size+1) (.ins C s.heap.objs.size []))
  {s with heap:=(s.heap.push PySem.W.emptyDict).push (PySem.W.instObj C s.heap.objs.size)}:=by
 have e1:(s.heap.push PySem.W.emptyDict).get? s.heap.objs.size=some PySem.W.emptyDict:=YE s.heap rfl
 have e2:((s.heap.push PySem.W.emptyDict).push (PySem.W.instObj C s.heap.objs.size)).get? (s.heap.objs.size+1)=some (PySem.W.instObj C s.heap.objs.size):=by
  have:=YE (s.heap.push PySem.W.emptyDict) (o:=PySem.W.instObj C s.heap.objs.size) rfl
  rwa[Qp]at this
 have e3:(s.heap.push PySem.W.emptyDict).Ns s.heap.objs.size (fun _=>none):=⟨PySem.W.emptyDict,#[],_,e1,rfl,(fun e he=>absurd he (by simp)),fun _=>rfl⟩;have I1:=I.laid (a:=s.heap.objs.size) (o:=.own (s.heap.objs.size+1)) (h':=s.heap.push PySem.W.emptyDict) (t':=s.toks) (fun b u q=>Y1 _ q) (Y3 _) ⟨_,e1⟩;refine I1.laid (a:=s.heap.objs.size+1) (o:=.ins C s.heap.objs.size []) (t':=s.toks) (fun b u q=>Y1 _ q) (WQ (Qp _ _)) ?_;have ne:s.heap.objs.size≠s.heap.objs.size+1:=YT (Qr _);refine⟨by rw[Uv ne,UJ],WA _,ne,e2,fun _=>none,(Heap.Ns1.of_empty e3).at fun o q=>Y1 _ q,fun _=>True.intro,fun y hy=>absurd rfl hy⟩
def Zfb{prog:Program}{w:World}{env:Env}{e:Expr}{f:Str}{pos:Pos}{s:Shared}{Q:Value->Shared->Prop}(hb:attributeBase e f env (eval e env)=eval e env)(h:wpAny (model prog w) A (eval e env) (fun o s₁=>wpAny (model prog w) A (getAttr o f true) Q E s₁) E s):wpAny (model prog w) A (eval (.Attribute e f pos) env) Q E s:=
 Attribute_any_ h (by rw[arm_eval_Attribute,hb])
end
def tFld(K:Za)(ta:TE)(f:Str):TE:=fun σ H Q=>ta σ H fun x H1=>∃a C dx fs v,x=.ref a/\H1 a=some (.ins C dx fs)/\Cls K C/\NoAttr K C f/\fs.lookup f=some v/\Q v H1
def sFld(K:Za)(ta tv:TE)(f:Str):TS:=fun D σ H=>tv σ H fun y H1=>ta σ H1 fun x H2=>∃a C dx fs,x=.ref a/\H2 a=some (.ins C dx fs)/\Cls K C/\NoAttr K C f/\fs.length<1000/\
 D.nx σ (upd H2 a (.ins C dx (putF f y fs)))
section
variable {X:Cx}{o e value:Expr}{f:Str}{pos pos' tpos:Pos}{ta tv:TE}
def Kr(he:PE X e ta)(hb:attributeBase e f X.env (eval e X.env)=eval e X.env):PE X (.Attribute e f pos) (tFld X.K ta f):=by
 intro pins s σ H Q I h;refine Zfb hb (thn (he pins s σ H _ I h) fun u s1 ⟨x,H1,I1,rx,a,C,dx,fs,v,ex,ea,c,n,l,q⟩=>?_);subst ex;obtain rfl:u=Value.ref a:=rx;exact Zbj I1 ea c n l fun u' s2 I2 ru=>⟨v,H1,I2,ru,q⟩
def FZ(ha:PE X o ta)(hv:PE X value tv)(hs:swapsWith value (some (.Attribute o f pos')) pos.line X.env=pure false):PS X (.Assign [.Attribute o f pos'] value pos) (sFld X.K ta tv f):=by
 intro pins s σ H D I h;refine plainObj_wpAny_Assign_Attribute (thn (hv pins s σ H _ I h) fun u s1 ⟨y,H1,I1,ry,q⟩=>thn (ha pins s1 σ H1 _ I1 q) fun ov s2 ⟨x,H2,I2,rx,a,C,dx,fs,ex,ea,c,n,l,q2⟩=>?_) hs;subst ex;obtain rfl:ov=Value.ref a:=rx;exact Mf I2 ea c n l ry fun s3 I3=>⟨σ,_,I3,q2⟩
def Zhx{pl:Sem Bool}{m:Str}{apos:Pos}{args:List Expr}{pins:List (Addr×Obj)}{s:Shared}{σ:St}{H:Hp}{Q:Value->Shared->Prop}{te:TE}(he:PE X e te)(I:Inv X pins σ H s)
  (h:te σ H fun x H1=>∃a C dx fs g,x=.ref a/\H1 a=some (.ins C dx fs)/\Cls X.K C/\Meth X.K C m g/\fs.lookup m=none/\
   ∀s1,Inv X pins σ H1 s1->wpAny (model X.prog X.w) X.A (callWith pos (.ref g) [.ref a] (backTo pos (starEach args X.env)) (backToKw pos (keywordEach [] X.env))) Q X.xe s1)
  (ht:eval (.Call (.Attribute e m apos) args [] pos) X.env=(do
   let ov ←eval e X.env
   standAt apos.atName
   let (f,first) ←holding [ov] (getMethod ov m pl)
   callWith pos f first (backTo pos (starEach args X.env)) (backToKw pos (keywordEach [] X.env)))) :
  wpAny (model X.prog X.w) X.A (eval (.Call (.Attribute e m apos) args [] pos) X.env) Q X.xe s:=by
 refine Vf (pl:=pl) (thn (he pins s σ H _ I h) fun u s1 ⟨x,H1,I1,rx,a,C,dx,fs,g,ex,ea,c,k,l,q⟩=>?_) ht;subst ex;obtain rfl:u=Value.ref a:=rx;exact Fk I1 ea c k l (q s1 I1)
end
section
variable {X:Cx}{pins:List (Addr×Obj)}{σ:St}{H:Hp}{s:Shared}{A:Around}{E:Value->Shared->Prop}{Q:Value->Shared->Prop}{c:Value}{b:Bool}
inductive TyOf (K:Za) (H:Hp):V->Value->Prop where
 |non:TyOf K H .non (.type "NoneType")
 |bl (x:Bool):TyOf K H (.bl x) (.type "bool")
 |int (i:Int):TyOf K H (.int i) (.type "int")
 |str (x:Str):TyOf K H (.str x) (.type "str")
 |flt (x:UInt64):TyOf K H (.flt x) (.type "float")
 |lst {a:Addr} {xs:List V} (e:H a=some (.lst xs)):TyOf K H (.ref a) (.type "list")
 |frz {a:Addr} {o:Obj} {xs:List V} (e:H a=some (.frz o (.lst xs))):TyOf K H (.ref a) (.type "list")
 |tup {a:Addr} {xs:List V} (e:H a=some (.tup xs)):TyOf K H (.ref a) (.type "tuple")
 |dK {a:Addr} {kvs:List (Key×V)} (e:H a=some (.dK kvs)):TyOf K H (.ref a) (.type "dict")
 |dT {a:Addr} {kvs:List (List Key×V)} (e:H a=some (.dT kvs)):TyOf K H (.ref a) (.type "dict")
 |ins {a C dx:Addr} {fs:List (Str×V)} (e:H a=some (.ins C dx fs)) (cl:Cls K C) (ha:PySem.W.findIn K (.ref C) "__class__"=some (some (.builtin "object.__class__")))
   (hn:PySem.W.specialIn K (.builtin "object.__class__") "__get__"=some (some (.builtin "getset_descriptor.__get__"))) (htk:PySem.W.takesIn K (.builtin "object.__class__")=some true)
   (hm:PySem.W.mroIn K C (.type "object")=some true):TyOf K H (.ref a) (.ref C)
def Zgq{x:V}{u t:Value}(I:Inv X pins σ H s)(rx:RelV x u)(ty:TyOf X.K H x t)(e:PySem.W.kitOne X.K t c=some b)(h:∀tk,Q (.bool b) {s with toks:=tk}) :
  wpAny (model X.prog X.w) A (call (.builtin "isinstance") [u,c]) Q E s:=by
 cases ty with
 |non=>cases (show u=Value.none from rx);exact W7 PySem.W.kitx_none I.kIn True.intro e (fun z=>nomatch z) h
 |bl y=>cases (show u=Value.bool y from rx);exact W7 PySem.W.kitx_bool I.kIn True.intro e (fun z=>nomatch z) h
 |int i=>obtain⟨t,q⟩:=(show ∃t,u=Value.int i t from rx);cases q;exact W7 PySem.W.kitx_int I.kIn True.intro e (fun z=>nomatch z) h
 |str y=>obtain⟨t,q⟩:=(show ∃t,u=Value.str y t from rx);cases q;exact W7 PySem.W.kitx_str I.kIn True.intro e (fun z=>nomatch z) h
 |flt y=>obtain⟨t,q⟩:=(show ∃t,u=Value.float y t from rx);cases q;exact W7 PySem.W.kitx_float I.kIn True.intro e (fun z=>nomatch z) h
 | @lst a xs ea=>
  cases (show u=Value.ref a from rx)
  obtain⟨_,_,n,_,h1⟩:=(show ObjOk X.prog X.w H s.heap a (.lst xs)from I.hok a _ ea)
  exact W7 PySem.W.kitx_list I.kIn ⟨_,h1,rfl⟩ e (fun z=>nomatch z) h
 | @frz a ob xs ea=>
  cases (show u=Value.ref a from rx)
  obtain⟨_,_,_,n,_,h1⟩:=(show ObjOk X.prog X.w H s.heap a (.frz ob (.lst xs))from I.hok a _ ea)
  exact W7 PySem.W.kitx_list I.kIn ⟨_,h1,rfl⟩ e (fun z=>nomatch z) h
 | @tup a xs ea=>
  cases (show u=Value.ref a from rx)
  obtain⟨_,_,_,p⟩:=(show ObjOk X.prog X.w H s.heap a (.tup xs)from I.hok a _ ea)
  obtain⟨o,h1,h2,_⟩:=p;exact W7 PySem.W.kitx_tuple I.kIn ⟨o,h1,h2⟩ e (fun z=>nomatch z) h
 | @dK a kvs ea=>
  cases (show u=Value.ref a from rx)
  obtain⟨_,_,vs,_,p⟩:=(show ObjOk X.prog X.w H s.heap a (.dK kvs)from I.hok a _ ea)
  obtain⟨o,es,ep,h1,h2,_⟩:=p;exact W7 PySem.W.kitx_dict I.kIn ⟨o,h1,h2.1⟩ e (fun z=>nomatch z) h
 | @dT a kvs ea=>
  cases (show u=Value.ref a from rx)
  obtain⟨_,_,xs,_,o,es,ep,h1,h2,_⟩:=(show ObjOk X.prog X.w H s.heap a (.dT kvs)from I.hok a _ ea)
  exact W7 PySem.W.kitx_dict I.kIn ⟨o,h1,h2.1⟩ e (fun z=>nomatch z) h
 | @ins a C dx fs ea cl ha hn htk hm=>
  cases (show u=Value.ref a from rx)
  obtain⟨mA,O,_⟩:=Sr I.hok ea;obtain⟨od,J,_⟩:=O.look;exact W7 (PySem.W.kitx_own (cl.get _) cl.hd ha hn htk hm) I.kIn J e (fun z=>nomatch z) h
end
structure Room (k:Nat) (A:Around):Prop where
 hd:A.handled=none
 dp:A.depth+3*k+5<recursionLimit
 un:A.units+16*k+200<cLine
def Room.mono {j k:Nat}{A:Around} (r:Room k A) (h:j<=k):Room j A:=⟨r.hd,by have:=r.dp;omega,by have:=r.un;omega⟩
def Room.deeper {k:Nat}{A:Around} (r:Room (k+1) A) (env:Env):Room k (A.deeper env):=
 ⟨r.hd,by have:=r.dp;show A.depth+1+3*k+5<_;omega,by have:=r.un;show A.units+3+16*k+200<_;omega⟩
def LG{A:Around}{C:Addr}{us:List Value}{kw:List (Str×Value)}:(A.under (.builtin "type.__call__" ⟨.ref C::us,kw⟩)).depth=A.depth+1:=by
 first|rfl|simp[Around.under,Code.weight,Code.isCreation,Code.isGuard,Code.isCaller,Code.frames,Code.isFrame,guardIds]
def Rv{A:Around}{C:Addr}{us:List Value}{kw:List (Str×Value)}:(A.under (.builtin "type.__call__" ⟨.ref C::us,kw⟩)).units=A.units+1:=by
 first|rfl|simp[Around.under,Code.cUnits,Code.frames,Code.isFrame]
def Room.make {k:Nat}{A:Around} (r:Room (k+1) A) (C:Addr) (us:List Value) (kw:List (Str×Value)):Room k (A.under (.builtin "type.__call__" ⟨.ref C::us,kw⟩)):=
 ⟨r.hd,by have:=r.dp;rw[LG];omega,by have:=r.un;rw[Rv];omega⟩
def Room.depth {k:Nat}{A:Around} (r:Room k A):A.depth<recursionLimit:=by have:=r.dp;omega
def Room.units {k:Nat}{A:Around} (r:Room k A):A.units+64<cLine:=by have:=r.un;omega
def Room.units0 {k:Nat}{A:Around} (r:Room k A):A.units<cLine:=by have:=r.un;omega
def tNil:TA:=fun _ H Q=>Q [] H
def Xc(ta:TE)(tr:TA):TA:=fun σ H Q=>ta σ H fun x H1=>tr σ H1 fun xs H2=>Q (x::xs) H2
section
variable {X:Cx}{e:Expr}{es:List Expr}{te:TE}{t:TA}{pos:Pos}
def U0:PA X [] tNil:=fun _ _ _ _ H Q I h=>Calls.spliced_nil ⟨[],H,I,.nil,h⟩
def Ug(ha:PE X e te)(hr:PA X es t)(hs:starEach (e::es) X.env=(false,eval e X.env)::starEach es X.env:=by rfl):PA X (e::es) (Xc te t):=by
 intro pos pins s σ H Q I h;rw[hs];show wpAny _ _ (spliced ((false,eval e X.env)::backTo pos (starEach es X.env))) _ _ s;refine Calls.spliced_cons (thn (ha pins s σ H _ I h) fun u s1 ⟨x,H1,I1,r1,q1⟩=>?_);exact thn (hr pos pins s1 σ H1 _ I1 q1) fun us s2 ⟨xs,H2,I2,r2,q2⟩=>⟨x::xs,H2,I2,.cons r1 r2,q2⟩
def tTup(t:TA):TE:=fun σ H Q=>t σ H fun xs H1=>xs.length<=sizeLine/\∀p,H1 p=none->Q (.ref p) (upd H1 p (.tup xs))
def tLst(t:TA):TE:=fun σ H Q=>t σ H fun xs H1=>xs.length<=sizeLine/\∀p,H1 p=none->Q (.ref p) (upd H1 p (.lst xs))
def Ur{x1}(h:PA X es t):PE X (.Tuple es x1 pos) (tTup t):=by
 intro pins s σ H Q I hq;refine wpAny_Tuple_spliced (thn (h pos pins s σ H _ I hq) fun us s1 ⟨xs,H1,I1,r,z,q⟩=>⟨by rw[←r.length];exact z,?_⟩);have hf:H1 s1.heap.objs.size=none:=I1.hok.fresh (Y3 _);refine⟨.ref s1.heap.objs.size,upd H1 s1.heap.objs.size (.tup xs),I1.laid (t':=s1.toks) (fun b u e=>Y1 _ e) (Y3 _) ?_,rfl,q _ hf⟩;exact⟨z,us,r,⟨_,YE _ rfl,rfl,_,rfl⟩⟩
def Uj(h:PA X es t):PE X (.List es pos) (tLst t):=by
 intro pins s σ H Q I hq;refine wpAny_List_spliced (thn (h pos pins s σ H _ I hq) fun us s1 ⟨xs,H1,I1,r,z,q⟩=>⟨by rw[←r.length];exact z,?_⟩);have hf:H1 s1.heap.objs.size=none:=I1.hok.fresh (Y3 _);refine⟨.ref s1.heap.objs.size,upd H1 s1.heap.objs.size (.lst xs),I1.laid (t':=s1.toks) (fun b u e=>Y1 _ e) (Y3 _) ?_,rfl,q _ hf⟩;exact⟨z,us,0,r,YE _ rfl⟩
end
abbrev Sp:=List V->Hp->VK->XK->Prop
abbrev CXT:=List Env->Hp->Shared->XK->Value->Shared->Prop
structure Env0 (P:Program) (w:World) (K:Za) (mg:Str->Option Value) (base:Heap) (A:Around) (outer:List Env) (s:Shared) (H:Hp):Prop where
 frames:A.frames=some outer
 mod:Mod K mg base
 bs:∀b o,base.get? b=some o->s.heap.get? b=some o/\H b=none
 bsz:base.objs.size<=s.heap.objs.size
 funs:s.heap.FunFrames base outer
 frf:∀b∈frs outer,H b=none
 hok:HOk P w H s.heap
 bare:AllBare s.gens
def CE(outer:List Env)(P:Program)(w:World)(H:Hp)(s:Shared)(Q:VK)(u:Value)(s':Shared):Prop:=
 ∃v H',s'.os=s.os/\AllBare s'.gens/\Un (frs outer) [] H H' s.heap s'.heap/\HOk P w H' s'.heap/\RelV v u/\Q v H'
def CR(CX:CXT)(outer:List Env)(P:Program)(w:World)(H:Hp)(s:Shared)(Q:VK)(E:XK)(r:Result)(s':Shared):Prop:=
 match r with
 | .ok (.ret u)=>CE outer P w H s Q u s'
 | .ok _=>False
 | .error e=>CX outer H s E e s'
structure FnOk (P:Program) (w:World) (K:Za) (mg:Str->Option Value) (base:Heap) (CX:CXT) (k:Nat) (f:Addr) (fd:FuncData) (ps:List Str) (sp:Sp):Prop where
 len:∀vs H Q E,sp vs H Q E->vs.length=ps.length
 run:∀(A:Around) (outer:List Env) (s:Shared) (H:Hp) (args:Args) (us:List Value) (vs:List V) (Q:VK) (E:XK),Room k A->Env0 P w K mg base A outer s H->BindsTo s fd args (ps.zip us)->Vals vs us->sp vs H Q E->
  codeAny (model P w) A (.call (.ref f) args) (CR CX outer P w H s Q E) s
def FnOk.imp {P:Program}{w:World}{K:Za}{mg:Str->Option Value}{base:Heap}{CX:CXT}{k:Nat}{f:Addr}{fd:FuncData}{ps:List Str}{sp sp':Sp} (F:FnOk P w K mg base CX k f fd ps sp)
  (h:∀vs H Q E,sp' vs H Q E->sp vs H Q E):FnOk P w K mg base CX k f fd ps sp':=
 ⟨fun vs H Q E q=>F.len vs H Q E (h _ _ _ _ q),fun A outer s H args us vs Q E hr he hb hv hs=>F.run A outer s H args us vs Q E hr he hb hv (h _ _ _ _ hs)⟩
def Env0.make {P:Program}{w:World}{K:Za}{mg:Str->Option Value}{base:Heap}{A:Around}{outer:List Env}{s:Shared}{H:Hp} (e:Env0 P w K mg base A outer s H) (C:Addr) (us:List Value) (kw:List (Str×Value)) :
  Env0 P w K mg base (A.under (.builtin "type.__call__" ⟨.ref C::us,kw⟩)) outer s H:=⟨by first|exact e.frames|(simpa [Around.under,Code.envs,Code.isFrame,pushEnvs]using e.frames),e.mod,e.bs,e.bsz,e.funs,e.frf,e.hok,e.bare⟩
section
variable {X:Cx}{pins:List (Addr×Obj)}{σ:St}{H:Hp}{s s':Shared}
def Inv.env0 (I:Inv X pins σ H s):Env0 X.prog X.w X.K X.mg X.base X.A X.stack s H:=
 ⟨I.ok.frames,I.ok.mod,I.bs,Y8 I.ok.bsz I.sz,I.stack,I.stkFree,I.hok,I.bare⟩
def Inv.after {Q:VK}{u:Value} (I:Inv X pins σ H s) (h:CE X.stack X.prog X.w H s Q u s'):EP X pins σ Q u s':=by
 obtain⟨v,H',os,bare,un,hok,r,q⟩:=h;obtain⟨hh,g,d,t,os'⟩:=s';obtain rfl:os'=s.os:=os;exact⟨v,H',I.call (h':=hh) (g':=g) (d':=d) (t':=t) (ch:=[]) un hok bare (fun b z=>absurd z (by simp)),r,q⟩
end
def Ph(sp:Sp)(dvs:List V)(E:XK)(t:TA):TE:=fun σ H Q=>t σ H fun vs H1=>sp (vs++dvs) H1 Q E
def Pj(C:Addr)(m:Str)(sp:Sp)(dvs:List V)(E:XK)(ta:TE)(t:TA):TE:=fun σ H Q=>ta σ H fun x H1=>∃a dx fs,x=.ref a/\H1 a=some (.ins C dx fs)/\fs.lookup m=none/\
 t σ H1 fun vs H2=>sp (x::(vs++dvs)) H2 Q E
def Ao(C:Addr)(sp:Sp)(dvs:List V)(E:XK)(t:TA):TE:=fun σ H Q=>t σ H fun vs H1=>∀x dx,H1 x=none->H1 dx=none->dx≠x->
 sp (.ref x::(vs++dvs)) (upd (upd H1 dx (.own x)) x (.ins C dx [])) (fun v H2=>v=.non/\Q (.ref x) H2) E
def Binds(K:Za)(fd:FuncData)(ps:List Str)(ds:List Value):Prop:=
 ∀(s:Shared) (us:List Value),K.In s.heap->(us++ds).length=ps.length->BindsTo s fd ⟨us,[]⟩ (ps.zip (us++ds))
def Binds.all {K:Za}{fd:FuncData}{ps:List Str} (h:∀us:List Value,us.length=ps.length->bindArgs fd ⟨us,[]⟩=pure (ps.zip us)):Binds K fd ps []:=fun s us _ hl=>by
 rw[Wl]at hl ⊢;exact .of_eq (h us hl)
def Kc(CX:CXT)(X:Cx)(E:XK):Prop:=∀(pins:List (Addr×Obj)) (σ:St) (H:Hp) (s:Shared) (e:Value) (s':Shared),Inv X pins σ H s->CX X.stack H s E e s'->X.xe e s'
section
variable {X:Cx}{CX:CXT}{k:Nat}{f C:Addr}{fd:FuncData}{ps:List Str}{sp:Sp}{dvs:List V}{ds:List Value}{E:XK}{x m:Str}{p pos apos:Pos}{e o:Expr}{es:List Expr}{ta:TE}{t:TA}
def BY{pins:List (Addr×Obj)}{σ:St}{H:Hp}{s:Shared}{Q:VK}{us:List Value}{vs:List V}(F:FnOk X.prog X.w X.K X.mg X.base CX k f fd ps sp)(hr:Room k X.A)(hb:Binds X.K fd ps ds)(hd:Vals dvs ds)(hx:Kc CX X E)(I:Inv X pins σ H s)(r:Vals vs us)(h:sp (vs++dvs) H Q E):wpAny (model X.prog X.w) X.A (call (.ref f) us) (EP X pins σ Q) X.xe s:=by
 have r2:Vals (vs++dvs) (us++ds):=r.append hd;have hl:(us++ds).length=ps.length:=by rw[←r2.length];exact F.len _ _ _ _ h
 refine wpAny_call (Q5 (F.run X.A X.stack s H ⟨us,[]⟩ (us++ds) (vs++dvs) Q E hr I.env0 (hb s us I.kIn hl) r2 h) fun r s' hq=>?_);cases r with
 |error e=>exact hx pins σ H s e s' I hq
 |ok fl=>
  cases fl with
  |ret u=>exact I.after hq
  |next=>exact False.elim hq
  |brk=>exact False.elim hq
  |cont=>exact False.elim hq
def MS(F:FnOk X.prog X.w X.K X.mg X.base CX k f fd ps sp)(hr:Room k X.A)(hg:Gl X x)(hm:X.mg x=some (.ref f))(hk:PySem.W.keepIn X.K (.ref f)=true)(hb:Binds X.K fd ps ds)(hd:Vals dvs ds)(hx:Kc CX X E)(ha:PA X (e::es) t)(hdb:(x==("__debug__" : Str))=false:=by decide)(he:starEach (e::es) X.env=(false,eval e X.env)::starEach es X.env:=by rfl)(hpl:(backTo pos (starEach es X.env)).any (·.1)=false:=by rfl) :
  PE X (.Call (.Name x p) (e::es) [] pos) (Ph sp dvs E t):=by
 intro pins s σ H Q I h;refine QE (SL I hg hm ?_ hdb);refine V0 (h₀:=X.base) I.ok.mod.kin hk (thn (ha pos pins s σ H _ I h) fun us s1 ⟨vs,H1,I1,r,q⟩=>⟨I1.kIn,?_⟩) he hpl;exact BY F hr hb hd hx I1 r q
def Zgk{pl:Sem Bool}(he:PE X o ta)(c:Cls X.K C)(hm:Meth X.K C m f)(F:FnOk X.prog X.w X.K X.mg X.base CX k f fd ps sp)(hr:Room k X.A)(hb:Binds X.K fd ps ds)(hd:Vals dvs ds)(hx:Kc CX X E)(ha:PA X (e::es) t)(hst:starEach (e::es) X.env=(false,eval e X.env)::starEach es X.env:=by rfl)(hpl:(backTo pos (starEach es X.env)).any (·.1)=false:=by rfl)
  (ht:eval (.Call (.Attribute o m apos) (e::es) [] pos) X.env=(do
   let ov ←eval o X.env
   standAt apos.atName
   let (f,first) ←holding [ov] (getMethod ov m pl)
   callWith pos f first (backTo pos (starEach (e::es) X.env)) (backToKw pos (keywordEach [] X.env))):=by rfl) :
  PE X (.Call (.Attribute o m apos) (e::es) [] pos) (Pj C m sp dvs E ta t):=by
 intro pins s σ H Q I h;refine Vf (pl:=pl) (thn (he pins s σ H _ I h) fun u s1 ⟨x,H1,I1,rx,a,dx,fs,ex,ea,l,q⟩=>?_) ht;subst ex;obtain rfl:u=Value.ref a:=rx;refine Fk I1 ea c hm l ?_;refine V0 (first:=[.ref a]) (h₀:=X.base) I.ok.mod.kin hm.kp (thn (ha pos pins s1 σ H1 _ I1 q) fun us s2 ⟨vs,H2,I2,r,q2⟩=>⟨I2.kIn,?_⟩) hst hpl
 exact BY (us:=.ref a::us) (vs:=.ref a::vs) F hr hb hd hx I2 (.cons rfl r) q2
def MW{pl:Sem Bool}(he:PE X o ta)(c:Cls X.K C)(hm:Meth X.K C m f)(F:FnOk X.prog X.w X.K X.mg X.base CX k f fd ps sp)(hr:Room k X.A)(hb:Binds X.K fd ps ds)(hd:Vals dvs ds)(hx:Kc CX X E)
  (ht:eval (.Call (.Attribute o m apos) [] [] pos) X.env=(do
   let ov ←eval o X.env
   standAt apos.atName
   let (f,first) ←holding [ov] (getMethod ov m pl)
   callWith pos f first (backTo pos (starEach [] X.env)) (backToKw pos (keywordEach [] X.env))):=by rfl) :
  PE X (.Call (.Attribute o m apos) [] [] pos) (Pj C m sp dvs E ta tNil):=by
 intro pins s σ H Q I h;refine Vf (pl:=pl) (thn (he pins s σ H _ I h) fun u s1 ⟨x,H1,I1,rx,a,dx,fs,ex,ea,l,q⟩=>?_) ht;subst ex;obtain rfl:u=Value.ref a:=rx;refine Fk I1 ea c hm l ?_;exact PySem.W.callWith_K0 (first:=[.ref a]) I1.kIn hm.kp (BY (us:=[.ref a]) (vs:=[.ref a]) F hr hb hd hx I1 (.cons rfl .nil) q)
structure Mk (K:Za) (C f:Addr):Prop where
 makes:PySem.W.makesIn K C=true
 init:PySem.W.findIn K (.ref C) "__init__"=some (some (.ref f))
 fn:PySem.W.isFn K (.ref f)=true
 kp:PySem.W.keepIn K (.ref C)=true
def LR{pins:List (Addr×Obj)}{σ:St}{H:Hp}{s:Shared}{Q:VK}{us:List Value}{vs:List V}(M:Mk X.K C f)(F:FnOk X.prog X.w X.K X.mg X.base CX k f fd ps sp)(hr:Room (k+1) X.A)(hb:Binds X.K fd ps ds)(hd:Vals dvs ds)(hx:Kc CX X E)(I:Inv X pins σ H s)(r:Vals vs us)(h:∀x dx,H x=none->H dx=none->dx≠x->sp (.ref x::(vs++dvs)) (upd (upd H dx (.own x)) x (.ins C dx [])) (fun v H2=>v=.non/\Q (.ref x) H2) E) :
  wpAny (model X.prog X.w) X.A (call (.ref C) us) (EP X pins σ Q) X.xe s:=by
 have hq:=h (s.heap.objs.size+1) s.heap.objs.size (I.hok.fresh (QC _)) (I.hok.fresh (Y3 _)) (YT (Qr _));have I2:=Inv.made (C:=C) I;have r2:Vals (V.ref (s.heap.objs.size+1)::(vs++dvs)) (Value.ref (s.heap.objs.size+1)::(us++ds)):=.cons rfl (r.append hd)
 have hl:(Value.ref (s.heap.objs.size+1)::us++ds).length=ps.length:=by
  have e:=r2.length;rw[F.len _ _ _ _ hq]at e;exact e.symm
 refine wpAny_call (Zbu (f:=f) I.kIn M.makes M.init (beq_iff_eq.mp M.fn) (Q5 (F.run _ X.stack _ _ ⟨Value.ref (s.heap.objs.size+1)::us,[]⟩ (Value.ref (s.heap.objs.size+1)::(us++ds)) _ _ E (hr.make C us [])
  (I2.env0.make C us []) (hb _ (Value.ref (s.heap.objs.size+1)::us) I2.kIn hl) r2 hq) fun r s' hq'=>?_))
 cases r with
 |error e=>exact hx pins σ _ _ e s' I2 hq'
 |ok fl=>
  cases fl with
  |ret u=>
   obtain⟨v,H',I3,rv,ev,q3⟩:=I2.after hq';subst ev;exact⟨rv,⟨V.ref (s.heap.objs.size+1),H',I3,rfl,q3⟩⟩
  |next=>exact False.elim hq'
  |brk=>exact False.elim hq'
  |cont=>exact False.elim hq'
def Of(M:Mk X.K C f)(F:FnOk X.prog X.w X.K X.mg X.base CX k f fd ps sp)(hr:Room (k+1) X.A)(hg:Gl X x)(hm:X.mg x=some (.ref C))(hb:Binds X.K fd ps ds)(hd:Vals dvs ds)(hx:Kc CX X E)(ha:PA X (e::es) t)(hdb:(x==("__debug__" : Str))=false:=by decide)(he:starEach (e::es) X.env=(false,eval e X.env)::starEach es X.env:=by rfl)(hpl:(backTo pos (starEach es X.env)).any (·.1)=false:=by rfl) :
  PE X (.Call (.Name x p) (e::es) [] pos) (Ao C sp dvs E t):=by
 intro pins s σ H Q I h;refine QE (SL I hg hm ?_ hdb);refine V0 (h₀:=X.base) I.ok.mod.kin M.kp (thn (ha pos pins s σ H _ I h) fun us s1 ⟨vs,H1,I1,r,q⟩=>⟨I1.kIn,?_⟩) he hpl;exact LR M F hr hb hd hx I1 r q
end
structure FnScope (N P:List Str) (sc:Scope):Prop where
 kind:sc.kind=.function
 co:sc.isCoroutine=false
 gen:sc.isGenerator=false
 nd:N.Nodup
 pre:N.take P.length=P
 par:∀x∈P,sc.names.lookup x=some .local\/sc.names.lookup x=some .cell
 nofree:∀y∈sc.names,y.2≠.free
def Et{kindOf:Str->Option NameKind}{x:Str}:∀{binds:List (Str×Value)}{m:Str->Option Value},(∀v,(x,v)∉binds)->bindL kindOf binds m x=m x
 |[],_,_=>rfl
 |(n,v)::r,m,h=>by
  unfold bindL;rw[Et fun w hw=>h w (YJ _ hw)];split
  ·have:x≠n:=by rintro rfl;exact h v YO
   simp[this]
  ·rfl
def Ca{kindOf:Str->Option NameKind}{x:Str}:∀{binds:List (Str×Value)}{m:Str->Option Value},(∀v,(x,v)∉binds)->bindC kindOf binds m x=m x
 |[],_,_=>rfl
 |(n,v)::r,m,h=>by
  unfold bindC;rw[Ca fun w hw=>h w (YJ _ hw)];split
  ·rfl
  ·have:x≠n:=by rintro rfl;exact h v YO
   simp[this]
def Cv{kindOf:Str->Option NameKind}{x:Str}{v:Value}:∀{P:List Str}{vs:List Value}{i:Nat}{m:Str->Option Value},P.Nodup->P[i]?=some x->vs[i]?=some v->kindOf x=some .local->
  bindL kindOf (P.zip vs) m x=some v
 |[],_,_,_,_,h,_,_=>by simp at h
 |_::_,[],_,_,_,_,h,_=>by simp at h
 |p::P,w::vs,0,m,nd,h1,h2,hk=>by
  simp at h1 h2;subst h1;subst h2;show bindL kindOf ((p,w)::P.zip vs) m p=_;unfold bindL;rw[Et fun v hv=>(YV.mp nd).1 (List.of_mem_zip hv).1,Yz hk];simp
 |p::P,w::vs,i+1,m,nd,h1,h2,hk=>by
  show bindL kindOf ((p,w)::P.zip vs) m x=_;unfold bindL;exact Cv (i:=i) (YV.mp nd).2 (by simpa using h1) (by simpa using h2) hk
def GQ{kindOf:Str->Option NameKind}{x:Str}{v:Value}:∀{P:List Str}{vs:List Value}{i:Nat}{m:Str->Option Value},P.Nodup->P[i]?=some x->vs[i]?=some v->kindOf x≠some .local->
  bindC kindOf (P.zip vs) m x=some v
 |[],_,_,_,_,h,_,_=>by simp at h
 |_::_,[],_,_,_,_,h,_=>by simp at h
 |p::P,w::vs,0,m,nd,h1,h2,hk=>by
  simp at h1 h2;subst h1;subst h2;show bindC kindOf ((p,w)::P.zip vs) m p=_;unfold bindC;rw[Ca fun v hv=>(YV.mp nd).1 (List.of_mem_zip hv).1,Yx hk];simp
 |p::P,w::vs,i+1,m,nd,h1,h2,hk=>by
  show bindC kindOf ((p,w)::P.zip vs) m x=_;unfold bindC;exact GQ (i:=i) (YV.mp nd).2 (by simpa using h1) (by simpa using h2) hk
def start(N:List Str)(vs:List V):St:=vs.map some++List.replicate (N.length-vs.length) none
def cxOf(CX:CXT)(P:Program)(w:World)(K:Za)(mg:Str->Option Value)(base:Heap)(N:List Str)(qual:Str)(scope:Scope)(f:Addr)(cd:Value)(A:Around)(outer:List Env)(s:Shared)(H:Hp)(E:XK):Cx where
 prog:=P
 w:=w
 K:=K
 mg:=mg
 base:=base
 A:=A.deeper (envOfC qual scope s.heap.objs.size f cd)
 N:=N
 s₀:=s
 H₀:=H
 env:=envOfC qual scope s.heap.objs.size f cd
 outer:=outer
 stack:=envOfC qual scope s.heap.objs.size f cd::outer
 ex:=[]
 calm:=true
 fn:=fun _=>true
 pn:=[]
 xe:=fun e s'=>wpAny (model P w) (A.deeper (envOfC qual scope s.heap.objs.size f cd)) (leaving (envOfC qual scope s.heap.objs.size f cd) e) (fun _ s''=>CX outer H s E e s'') (fun e' s''=>CX outer H s E e' s'') s'
def DV{sc:Scope}{n:Nat}{x:Str}(h:sc.names.lookup x=some .cell):∃c,(cellsFrom n sc.names []).lookup x=some c:=by
 have q:=PySem.W.cellsFrom_some sc.names n [] (.inl h);exact Option.isSome_iff_exists.mp q
def IX{CX:CXT}{P:Program}{w:World}{K:Za}{mg:Str->Option Value}{base:Heap}{N ps:List Str}{qual:Str}{scope:Scope}{f:Addr}{cd:Value}{A:Around}{outer:List Env}{s s1:Shared}{H:Hp}{E:XK}{us:List Value}{vs:List V}(S:FnScope N ps scope)(hd:A.handled=none)(e0:Env0 P w K mg base A outer s H)(hl:vs.length=ps.length)(r:Vals vs us)(x:InCallC s s.heap.objs.size (bindL (envOfC qual scope s.heap.objs.size f cd).kindOf (ps.zip us) fun _=>none) (cellsFrom (s.heap.objs.size+1) scope.names []) (bindC (envOfC qual scope s.heap.objs.size f cd).kindOf (ps.zip us) fun _=>none) s1) :
  Inv (cxOf CX P w K mg base N qual scope f cd A outer s H E) [] (start N vs) H s1:=by
 have hpl:ps.length<=N.length:=by have:=Wj List.length S.pre;rw[We]at this;omega
 obtain⟨h1,tk,rfl,hk⟩:=x.done;have noA:∀b:Addr,b∉(cxOf CX P w K mg base N qual scope f cd A outer s H E).ex:=fun b z=>absurd (show b∈([]:List Addr)from z) (by simp)
 refine⟨⟨e0.mod,S.kind,rfl,rfl,Y3 _,fun y z c h1 h2=>?_,fun y hy=>?_,fun y c _ h=>?_,fun _=>hd,Around.frames_deeper e0.frames,.inr ⟨rfl,rfl⟩,fun b z=>absurd z (noA b),e0.bs,e0.bsz,fun b _ _=>noA b,fun b z=>absurd z (noA b),e0.funs,e0.frf⟩,
  rfl,e0.bare,Un.kept hk,⟨_,x.toInCall.ns,fun i y v h1 h2 h3=>?_⟩,fun y c h=>⟨_,x.cell y c h⟩,e0.hok.fresh (Y3 _),fun y c h=>?_,fun p hp=>absurd (show p∈([]:List (Addr×Obj))from hp) (by simp),e0.hok.kept hk,?_⟩
 ·exact name_of_addr x.apart (WZ h1) (WZ h2)
 ·have hy:scope.names.lookup y=some .cell\/scope.names.lookup y=some .free:=hy;rcases hy with hy|hy
  ·exact DV hy
  ·exact absurd rfl (S.nofree _ (WZ hy))
 ·exact QD (x.above y c (WZ h))
 ·have hi:i<vs.length:=by
   unfold start at h2;by_cases hi:i<vs.length
   ·exact hi
   ·rw[Wc (by simpa using hi)]at h2;rw[WX]at h2;split at h2<;>cases h2
  have ha:vs[i]?=some v:=by
   unfold start at h2;rw[YW (by simpa using hi),Y6]at h2;cases e:vs[i]? with
   |none=>rw[e]at h2;cases h2
   |some a=>rw[e]at h2;cases h2;rfl
  obtain⟨u,hu,rv⟩:=r.get ha
  have hp:ps[i]?=some y:=by
   rw[←S.pre,WC (by omega)];exact h1
  have ndP:ps.Nodup:=by rw[←S.pre];exact S.nd.sublist (QN _ _)
  refine⟨u,rv,?_⟩;rcases S.par y (YM hp)with k|k
  ·exact .inl ⟨k,Cv ndP hp hu k⟩
  ·obtain⟨c,e⟩:=DV (n:=s.heap.objs.size+1) k;refine .inr ⟨.inl k,c,e,?_⟩;have q:=x.cell y c e;rw[GQ ndP hp hu (by show scope.names.lookup y≠_;rw[k];decide)]at q;exact q
 ·exact e0.hok.fresh (QD (x.above y c (WZ h)))
 ·unfold start;show _=N.length;rw[Y4,Yu,List.length_replicate];omega
def SR{CX:CXT}{P:Program}{w:World}{K:Za}{mg:Str->Option Value}{base:Heap}{k:Nat}{f:Addr}{name qual:Str}{params:Arguments}{body:List Stmt}{scope:Scope}{dV kV doc pm cdv ct oc:Value}{an od:Option Addr}{osl:Array (Option Value)}{N ps:List Str}{sp:Sp}(lk:K.lookup f=some ⟨oc,od,.func (PySem.W.fnOf name qual params body scope dV kV doc pm an cdv ct),osl⟩)(hcd:PySem.W.codeIn K cdv qual=true)(S:FnScope N ps scope)(len:∀vs H Q E,sp vs H Q E->vs.length=ps.length)
  (hbody:∀(A:Around) (outer:List Env) (s:Shared) (H:Hp) (vs:List V) (Q:VK) (E:XK),Room k (A.deeper (envOfC qual scope s.heap.objs.size f cdv))->sp vs H Q E->
   ∃t,PSs (cxOf CX P w K mg base N qual scope f cdv A outer s H E) body t/\t {nx:=fun _ H'=>Q .non H',rt:=Q} (start N vs) H) :
  FnOk P w K mg base CX (k+1) f (PySem.W.fnOf name qual params body scope dV kV doc pm an cdv ct) ps sp:=by
 refine⟨len,fun A outer s H args us vs Q E hr e0 hb r hsp=>?_⟩;have hl:=len _ _ _ _ hsp;have KX:K.In s.heap:=e0.mod.kin.keeps fun b o e=>(e0.bs b o e).1;have lim:s.heap.NoLimit:=e0.mod.nolimit.keeps fun b o e=>(e0.bs b o e).1
 have hkind:∀y∈ps.zip us,scope.names.lookup y.1=some .local\/(scope.names.lookup y.1=some .cell/\((cellsFrom (s.heap.objs.size+1) scope.names []).lookup y.1).isSome=true):=fun⟨n,v⟩ hy=>by
  rcases S.par n (List.of_mem_zip hy).1 with q|q
  ·exact .inl q
  ·exact .inr ⟨q,PySem.W.cellsFrom_some _ _ _ (.inl q)⟩
 refine codeAny_call_function hr.depth (KX _ _ lk) rfl S.co S.gen rfl (PySem.W.codeRec_of KX hcd) (hb _ _ _ _ ?_);refine wpAny_newFunctionEnv_cells S.kind hkind fun env he s1 x=>?_;subst he;refine⟨lim.keeps x.toInCall.keep,codeAny_func ?_⟩;obtain⟨t,ht,hq⟩:=hbody A outer s H vs Q E (hr.deeper _) hsp;have I:Inv (cxOf CX P w K mg base N qual scope f cdv A outer s H E) [] (start N vs) H s1:=IX S hr.hd e0 hl r x;refine Wx (ht [] s1 (start N vs) H _ I hq) (fun fl s' hs=>?_) fun e s' hs=>hs
 have fin:∀{σ':St} {H':Hp} {v:V} {u:Value},Inv (cxOf CX P w K mg base N qual scope f cdv A outer s H E) [] σ' H' s'->RelV v u->Q v H'->CE outer P w H s Q u s':=
  fun {σ' H' v u} J rv q=>⟨v,H',J.os,J.bare,J.base,J.hok,rv,q⟩
 cases fl with
 |ret u=>
  obtain⟨v,σ',H',J,rv,q⟩:=hs;exact fin J rv q
 |next=>
  obtain⟨σ',H',J,q⟩:=hs;exact fin (v:=V.non) (u:=Value.none) J rfl q
 |brk=>
  obtain⟨_,_,_,q⟩:=hs;exact False.elim q
 |cont=>
  obtain⟨_,_,_,q⟩:=hs;exact False.elim q
section
variable {X:Cx}{x:Str}{p pos:Pos}{e:Expr}{es:List Expr}{t:TA}{id T:String}{r:List V->Hp->VK->Prop}
def tCB(r:List V->Hp->VK->Prop)(t:TA):TE:=fun σ H Q=>t σ H fun vs H1=>r vs H1 Q
def UZ(hc:Xd X (.builtin id) r)(hg:Gl X x)(hm:X.mg x=none)(hv:bootBuiltins x=some (.builtin id))(ha:PA X (e::es) t)(hn:x≠"__name__":=by decide)(hdb:(x==("__debug__" : Str))=false:=by decide)(he:starEach (e::es) X.env=(false,eval e X.env)::starEach es X.env:=by rfl)(hpl:(backTo pos (starEach es X.env)).any (·.1)=false:=by rfl):PE X (.Call (.Name x p) (e::es) [] pos) (tCB r t):=by
 intro pins s σ H Q I h;refine QE (NA I hg hm hv ?_ hn hdb);exact PyProof.Rows.callWith_builtin1 (thn (ha pos pins s σ H _ I h) fun us s1 ⟨vs,H1,I1,r1,q1⟩=>hc pins s1 σ H1 vs us Q I1 r1 q1) he hpl
def XX(hc:Xd X (.type T) r)(hg:Gl X x)(hm:X.mg x=none)(hv:bootBuiltins x=some (.type T))(ha:PA X (e::es) t)(hn:x≠"__name__":=by decide)(hdb:(x==("__debug__" : Str))=false:=by decide)(he:starEach (e::es) X.env=(false,eval e X.env)::starEach es X.env:=by rfl)(hpl:(backTo pos (starEach es X.env)).any (·.1)=false:=by rfl):PE X (.Call (.Name x p) (e::es) [] pos) (tCB r t):=by
 intro pins s σ H Q I h;refine QE (NA I hg hm hv ?_ hn hdb);exact QA (thn (ha pos pins s σ H _ I h) fun us s1 ⟨vs,H1,I1,r1,q1⟩=>hc pins s1 σ H1 vs us Q I1 r1 q1) he hpl
end
end L2
namespace HT
open PySem PyProof.Rows
section
variable {prog:Program}{w:World}{A:Around}{E:Value->Shared->Prop}{s:Shared}
def IV{t b:Addr}{vs ws:List Value}{Q:Value->Shared->Prop}(ht:IsTup s.heap t vs.toArray)(hb:IsTup s.heap b ws.toArray)(hv:vs≠[])(h1:ws=[]->Q (.ref t) s)(h2:ws≠[]->Q (.ref s.heap.objs.size) {s with heap:=s.heap.push {cls:=.type "tuple",data:=.seq (vs++ws).toArray}})(hsz:vs.length+ws.length<=sizeLine):wpAny (model prog w) A (binaryOp .Add (.ref t) (.ref b)) Q E s:=by
 obtain⟨⟨cls,dd,data,sl⟩,ho,hc,n,hd⟩:=id ht;obtain⟨⟨cls2,dd2,data2,sl2⟩,ho2,hc2,n2,hd2⟩:=id hb;simp only at hc hd hc2 hd2;subst hc hd hc2 hd2;have e:vs.toArray++ws.toArray=(vs++ws).toArray:=by simp
 by_cases hw:ws=[]
 ·exact concat_meets ⟨_,ho,rfl⟩ ⟨_,ho2,rfl⟩ noFill_tuple_add seq_tuple_add QT QL (QF _ _)
   (tuple_addW1 t b vs.toArray ws.toArray n n2 dd dd2 sl sl2 (by simpa using hv) (by simp[hw])) ⟨ho,ho2,h1 hw⟩
 ·refine concat_meets ⟨_,ho,rfl⟩ ⟨_,ho2,rfl⟩ noFill_tuple_add seq_tuple_add QT QL (QF _ _)
   (tuple_addW2 t b vs.toArray ws.toArray n n2 dd dd2 sl sl2 (by simpa using hv) (by simpa using hw) (by rw[YD,YD];exact hsz)) ⟨ho,ho2,?_⟩
  rw[e];exact h2 hw
def sIx(n d:Nat):Option Int->Nat
 |none=>d
 |some v=>if v<0 then(v+(n:Int)).toNat else min v.toNat n
def GW(n d:Nat):sIx n d none=d:=rfl
def Se(n d k:Nat):sIx n d (some (k:Int))=min k n:=by
 show(if (k:Int)<0 then((k:Int)+(n:Int)).toNat else min (k:Int).toNat n)=min k n;rw[Yx (by omega),Wb]
end
end HT
namespace L2
open PySem PySem.Spec PyProof.Rows
abbrev TO:=St->Hp->(Option Int->Hp->Prop)->Prop
def PO(X:Cx)(e:Option Expr)(t:TO):Prop:=
 ∀(pins:List (Addr×Obj)) (s:Shared) (σ:St) (H:Hp) (Q:Option Int->Hp->Prop),Inv X pins σ H s->t σ H Q->
  wpAny (model X.prog X.w) X.A (evalPart e X.env) (fun u s'=>∃o H',Inv X pins σ H' s'/\IsPart u o/\Q o H') X.xe s
def Eo:TO:=fun _ H Q=>Q none H
def Hd(t:TE):TO:=fun σ H Q=>t σ H fun x H1=>∃i,x=.int i/\Q (some i) H1
def NU{ns:List Int}:∀{us:List Value},Vals (ns.map V.int) us->IntsAre us ns:=by
 induction ns with
 |nil=>intro us r;rw[VD]at r;cases r;exact .nil
 |cons n ns ih=>
  intro us r;rw[YC]at r;cases r with
  |cons r1 r2=>
   obtain⟨t,e⟩:=r1;subst e;exact .cons n t (ih r2)
section
variable {X:Cx}{e:Expr}{te:TE}{lo hi:Option Expr}{tl th:TO}{pos p2:Pos}
def XD:PO X none Eo:=by
 intro pins s σ H Q I h;rw[evalPart_none];exact Y2 ⟨none,H,I,.none,h⟩
def X4(h:PE X e te):PO X (some e) (Hd te):=by
 intro pins s σ H Q I hw;rw[evalPart_some];refine thn (h pins s σ H _ I hw) fun u s1 ⟨x,H1,I1,r1,q1⟩=>?_;obtain⟨i,rfl,q⟩:=q1;obtain⟨t,rfl⟩:=r1;exact⟨some i,H1,I1,.int i t,q⟩
def SlR(X:Cx)(r:V->Option Int->Option Int->Hp->VK->Prop):Prop:=
 ∀(pins:List (Addr×Obj)) (s:Shared) (σ:St) (H:Hp) (x:V) (v vl vu:Value) (lo hi:Option Int) (sl:Addr) (Q:VK),Inv X pins σ H s->RelV x v->s.heap.IsSliceOf sl vl vu .none->IsPart vl lo->IsPart vu hi->r x lo hi H Q->
  ∃T id,typeLookup (.type T) "__getitem__"=pure (some (.builtin id))/\s.TypeIs v T/\wpAny (model X.prog X.w) X.A (getItem v (.ref sl)) (EP X pins σ Q) X.xe s
def tSl(r:V->Option Int->Option Int->Hp->VK->Prop)(te:TE)(tl th:TO):TE:=fun σ H Q=>te σ H fun x H1=>tl σ H1 fun l H2=>th σ H2 fun u H3=>r x l u H3 Q
def X7{r:V->Option Int->Option Int->Hp->VK->Prop}(hr:SlR X r)(he:PE X e te)(hl:PO X lo tl)(hu:PO X hi th):PE X (.Subscript e (.Slice lo hi none p2) pos) (tSl r te tl th):=by
 intro pins s σ H Q I h;refine Subscript_ (thn (he pins s σ H _ I h) fun v s1 ⟨x,H1,I1,r1,q1⟩=>?_);refine wpAny_Slice (thn (hl pins s1 σ H1 _ I1 q1) fun vl s2 ⟨l,H2,I2,pl,q2⟩=>thn (hu pins s2 σ H2 _ I2 q2) fun vu s3 ⟨u,H3,I3,pu,q3⟩=>?_);rw[evalPart_none];refine Y2 ?_;have I4:Inv X pins σ H3 {s3 with heap:=s3.heap.push {cls:=.type "slice",data:=.fields #[vl,vu,.none]}}:=I3.kept (t':=s3.toks) fun b ob q=>Y1 _ q
 obtain⟨T,id,hT,ht,hg⟩:=hr pins {s3 with heap:=s3.heap.push {cls:=.type "slice",data:=.fields #[vl,vu,.none]}} σ H3 x v vl vu l u s3.heap.objs.size Q I4 r1 (Heap.IsSliceOf.new ..) pl pu q3
 show wpAny (model X.prog X.w) X.A (subscriptTail e (.Slice lo hi none p2) v (.ref s3.heap.objs.size)) (EP X pins σ Q) X.xe {s3 with heap:=s3.heap.push {cls:=.type "slice",data:=.fields #[vl,vu,.none]}}
 exact tail_any (ops:=[.ref s3.heap.objs.size,v]) ht hT hg (by with_unfolding_all rfl)
def cutV(xs:List V)(lo hi:Option Int):List V:=(xs.drop (HT.sIx xs.length 0 lo)).take (HT.sIx xs.length xs.length hi-HT.sIx xs.length 0 lo)
def Zcl(xs:List V)(lo hi:Option Int):(cutV xs lo hi).length<=xs.length:=by
 unfold cutV;rw[We,QY];omega
def Ox(K:Za):R2:=fun x y H Q=>∃a b xs ys,x=.ref a/\y=.ref b/\SqT K H a xs/\SqT K H b ys/\xs≠[]/\xs.length+ys.length<=sizeLine/\
 (ys=[]->Q (.ref a) H)/\(ys≠[]->∀p,H p=none->Q (.ref p) (upd H p (.tup (xs++ys))))
def Vals.nil_iff {xs:List V}{us:List Value} (r:Vals xs us):us=[]↔xs=[]:=by
 cases r with
 |nil=>simp
 |cons _ _=>simp
def Zbz:OpR X (binaryOp .Add) (Ox X.K):=by
 intro pins s σ H x y v u Q I rx ry h;obtain⟨a,b,xs,ys,rfl,rfl,ha,hb,hx,hz,q1,q2⟩:=h;cases rx
 cases ry
 obtain⟨its,r1,p1,_⟩:=I.tuple ha;obtain⟨its2,r2,p2,_⟩:=I.tuple hb;refine HT.IV p1 p2 (fun z=>hx (r1.nil_iff.mp z)) (fun z=>⟨.ref a,H,I,rfl,q1 (r2.nil_iff.mp z)⟩) (fun z=>?_) (by rw[←r1.length,←r2.length];exact hz);refine⟨.ref s.heap.objs.size,_,I.laid (t':=s.toks) (o:=.tup (xs++ys)) (fun b ob q=>Y1 _ q) (Y3 _) ?_,rfl,q2 (fun w=>z (r2.nil_iff.mpr w)) _ (I.hok.fresh (Y3 _))⟩;exact⟨by rw[Y4];exact hz,_,r1.append r2,IsTup.new _ _⟩
end
def ixN(n:Nat)(i:Int):Option Nat:=if 0<=i then(if i<n then some i.toNat else none)else if -(n:Int)<=i then some (i+n).toNat else none
def atI{α:Type}(xs:List α)(i:Int):Option α:=(ixN xs.length i).bind fun j=>xs[j]?
def Dn{n:Nat}{i:Int}{j:Nat}(h:ixN n i=some j):seqIndex? i n=some j/\j<n/\-(n:Int)<=i/\i<n:=by
 unfold ixN at h;by_cases h0:0<=i
 ·rw[Yz h0]at h;by_cases h1:i<n
  ·rw[Yz h1]at h;have e:i.toNat=j:=Y7 h;exact⟨by rw[seqIndex_of h0 h1,e],by omega,by omega,h1⟩
  ·rw[Yx h1]at h;cases h
 ·rw[Yx h0]at h;by_cases h1:-(n:Int)<=i
  ·rw[Yz h1]at h;have e:(i+n).toNat=j:=Y7 h;exact⟨by rw[seqIndex_neg (by omega) h1,e],by omega,h1,by omega⟩
  ·rw[Yx h1]at h;cases h
def Im{α:Type}{xs:List α}{i:Int}{v:α}(h:atI xs i=some v):∃j,seqIndex? i xs.length=some j/\xs[j]?=some v/\j<xs.length/\-(xs.length:Int)<=i/\i<xs.length:=by
 unfold atI at h;cases e:ixN xs.length i with
 |none=>rw[e]at h;cases h
 |some j=>
  rw[e]at h;obtain⟨h1,h2,h3,h4⟩:=Dn e;exact⟨j,h1,h,h2,h3,h4⟩
def T6{α:Type}{xs:List α}{j:Nat}{v:α}(h:xs[j]?=some v):atI xs (j:Int)=some v:=by
 have hj:j<xs.length:=(YQ.mp h).1
 have e:ixN xs.length (j:Int)=some j:=by
  unfold ixN;rw[Yz (by omega),Yz (by omega)];simp
 unfold atI;rw[e];exact h
def Ea(b:Expr):Prop:=∀o i,subscripted b false o i=operate [o,i] (getItem o i)
def IxR(X:Cx)(r:R2):Prop:=
 ∀(value slice:Expr) (pins:List (Addr×Obj)) (s:Shared) (σ:St) (H:Hp) (x y:V) (v u:Value) (Q:VK),Inv X pins σ H s->RelV x v->RelV y u->r x y H Q->
  subscripted slice false v u=operate [v,u] (getItem v u)->wpAny (model X.prog X.w) X.A (subscriptTail value slice v u) (EP X pins σ Q) X.xe s
def MtR(X:Cx)(id:String)(r:V->List V->Hp->VK->Prop):Prop:=
 ∀(pins:List (Addr×Obj)) (s:Shared) (σ:St) (H:Hp) (x:V) (xs:List V) (v:Value) (us:List Value) (Q:VK),Inv X pins σ H s->RelV x v->Vals xs us->r x xs H Q->
  wpAny (model X.prog X.w) X.A (call (.builtin id) (v::us)) (EP X pins σ Q) X.xe s
section
variable {X:Cx}{a b:Expr}{ta tb:TE}{pos:Pos}
def IxR.or {r r':R2} (h:IxR X r) (h':IxR X r'):IxR X (fun x y H Q=>r x y H Q\/r' x y H Q):=by
 intro value slice pins s σ H x y v u Q I rx ry q hs;rcases q with q|q
 ·exact h value slice pins s σ H x y v u Q I rx ry q hs
 ·exact h' value slice pins s σ H x y v u Q I rx ry q hs
def Ia{r:R2}(hr:IxR X r)(ha:PE X a ta)(hb:PE X b tb)(hs:Ea b):PE X (.Subscript a b pos) (tOp r ta tb):=by
 intro pins s σ H Q I h;exact Subscript_ (binT ha hb I h fun v u s2 x y H2 I2 rx ry q=>hr a b pins s2 σ H2 x y v u Q I2 rx ry q (hs _ _))
def rIxL(K:Za):R2:=fun x y H Q=>∃p xs i v,x=.ref p/\y=.int i/\SqL K H p xs/\atI xs i=some v/\Q v H
def rIxT(K:Za):R2:=fun x y H Q=>∃p xs i v,x=.ref p/\y=.int i/\SqT K H p xs/\atI xs i=some v/\Q v H
def ix_list:IxR X (rIxL X.K):=by
 intro value slice pins s σ H x y v u Q I rx ry h hs;obtain⟨p,xs,i,z,rfl,rfl,hq,he,q⟩:=h;cases rx
 obtain⟨t,rfl⟩:=ry;obtain⟨its,r,pl,hz⟩:=I.list hq;obtain⟨j,h1,h2,h3,h4,h5⟩:=Im he;obtain⟨w,ew,rw'⟩:=r.get h2;have hl:=r.length;have hn:=NB;have fin:EP X pins σ Q w s:=⟨z,H,I,rw',q⟩;by_cases h0:0<=i
 ·have hj:i.toNat=j:=by
   rw[seqIndex_of h0 h5]at h1;exact Y7 h1
  exact item_listR pl.isList h0 (by omega) (by rw[hj];simpa using ew) fin hs
 ·have hj:(i+(its.toArray.size:Int)).toNat=j:=by
   rw[seqIndex_neg (by omega) h4]at h1;rw[YD,←hl];exact Y7 h1
  exact subscriptTail_builtinR (x:=w) pl.isList.typeIs slot_list_getitem.lookup
   (wpAny_getItem_list_neg (Q:=fun r s'=>r=w/\EP X pins σ Q r s') pl.isList (by omega) (by rw[YD]<;>omega) (by omega) (by rw[hj];simpa using ew) ⟨rfl,fin⟩) hs
def Lb:IxR X (rIxT X.K):=by
 intro value slice pins s σ H x y v u Q I rx ry h hs;obtain⟨p,xs,i,z,rfl,rfl,hq,he,q⟩:=h;cases rx
 obtain⟨t,rfl⟩:=ry;obtain⟨its,r,pl,hz⟩:=I.tuple hq;obtain⟨j,h1,h2,h3,h4,h5⟩:=Im he;obtain⟨w,ew,rw'⟩:=r.get h2;have hl:=r.length;have hn:=NB;have fin:EP X pins σ Q w s:=⟨z,H,I,rw',q⟩
 exact subscriptTail_builtinR (x:=w) pl.typeIs slot_tuple_getitem.lookup
  (getItem_tuple (j:=j) (Q:=fun r s'=>r=w/\EP X pins σ Q r s') pl (by omega) (by omega) (by rw[YD,←hl];exact h1) (by simpa using ew) ⟨rfl,fin⟩) hs
def Zdu(its:List Value)(n j:Nat)(u:Value):Obj.mapSeq (·.setIfInBounds j u) {cls:=.type "list",data:=.seq its.toArray n}={cls:=.type "list",data:=.seq (its.set j u).toArray n}:=by
 simp[Obj.mapSeq]
def Inv.lst {pins:List (Addr×Obj)}{σ:St}{H:Hp}{s:Shared}{p:Addr}{xs:List V} (I:Inv X pins σ H s) (h:H p=some (.lst xs)) :
  ∃(its:List Value) (n:Nat),Vals xs its/\s.heap.get? p=some {cls:=.type "list",data:=.seq its.toArray n}/\xs.length<=sizeLine:=by
 obtain⟨z,its,n,r,e⟩:=I.hok p _ h;exact⟨its,n,r,e,z⟩
def Inv.lstUpd {pins:List (Addr×Obj)}{σ:St}{H:Hp}{s:Shared}{p:Addr}{xs ys:List V}{its its':List Value}{n n':Nat}{f:Obj->Obj} (I:Inv X pins σ H s) (h:H p=some (.lst xs))
  (ho:s.heap.get? p=some {cls:=.type "list",data:=.seq its.toArray n}) (hf:f {cls:=.type "list",data:=.seq its.toArray n}={cls:=.type "list",data:=.seq its'.toArray n'}) (r:Vals ys its') (hz:ys.length<=sizeLine) (t:Nat) :
  Inv X pins σ (upd H p (.lst ys)) {s with heap:=s.heap.update p f,toks:=t}:=by
 have e:(s.heap.update p f).get? p=some {cls:=.type "list",data:=.seq its'.toArray n'}:=by
  rw[Wq f ho (by rw[hf]<;>rfl),hf]
 refine I.write (x:=p) (e:=p) (by rw[h];trivial) (.inl rfl) (fun b u hb q=>(Wv _ _ (Ne.symm hb)).trans q) ⟨_,e⟩ ?_;exact⟨hz,its',n',r,e⟩
def Hi:V->V->V->Hp->(Hp->Prop)->Prop:=fun o i v H Q=>∃p xs k j,o=.ref p/\i=.int k/\H p=some (.lst xs)/\ixN xs.length k=some j/\Q (upd H p (.lst (xs.set j v)))
def Em:PSet X Hi:=by
 intro pins s σ H o i v ov iv u Q I ro ri rv h;obtain⟨p,xs,k,j,rfl,rfl,hp,hj,q⟩:=h;cases ro
 obtain⟨t,rfl⟩:=ri;obtain⟨its,n,r,ho,hz⟩:=I.lst hp;obtain⟨h1,h2,h3,h4⟩:=Dn hj;have hl:=r.length;have hn:=NB
 have I':Inv X pins σ (upd H p (.lst (xs.set j v))) {s with heap:=s.heap.update p (Obj.mapSeq (·.setIfInBounds j u))}:=
  I.lstUpd hp ho (Zdu its n j u) (r.set rv j) (by rw[Wy];exact hz) s.toks
 by_cases h0:0<=k
 ·have hk:k.toNat=j:=by
   rw[seqIndex_of h0 h4]at h1;exact Y7 h1
  exact PySem.W.ki_setAt ho h0 (by omega) (by rw[YD,←hl];exact h4) (by rw[hk];exact⟨_,I',q⟩)
 ·have hk:(k+(its.toArray.size:Int)).toNat=j:=by
   rw[seqIndex_neg (by omega) h3]at h1;rw[YD,←hl];exact Y7 h1
  exact PySem.W.ki_setBack ho (by omega) (by rw[YD,←hl];exact h3) (by omega) (by rw[hk];exact⟨_,I',q⟩)
def Ze7(lo hi:Option Int)(n:Nat):(sliceBounds lo hi none n).1=((HT.sIx n 0 lo:Nat):Int)/\(sliceBounds lo hi none n).2.1=((HT.sIx n n hi:Nat):Int)/\(sliceBounds lo hi none n).2.2=1:=by
 refine⟨?_,?_,rfl⟩
 ·cases lo with
  |none=>simp[sliceBounds,HT.sIx]
  |some i=>
   simp only[sliceBounds,HT.sIx,Option.getD_none,show(1:Int)>0 by decide,if_true];by_cases h:i<0
   ·simp only[h,if_true]<;>omega
   ·simp only[h,QZ]<;>omega
 ·cases hi with
  |none=>simp[sliceBounds,HT.sIx]
  |some i=>
   simp only[sliceBounds,HT.sIx,Option.getD_none,show(1:Int)>0 by decide,if_true];by_cases h:i<0
   ·simp only[h,if_true]<;>omega
   ·simp only[h,QZ]<;>omega
def Zhd(its:List Value)(lo hi:Option Int):slicePick its.toArray lo hi none=((its.drop (HT.sIx its.length 0 lo)).take (HT.sIx its.length its.length hi-HT.sIx its.length 0 lo)).toArray:=by
 obtain⟨h1,h2,h3⟩:=Ze7 lo hi its.toArray.size;unfold slicePick;rw[h1,h2,h3];simp only[sliceRange_one,pick_run,YD]<;>rfl
def rSlL(K:Za):V->Option Int->Option Int->Hp->VK->Prop:=fun x lo hi H Q=>∃a xs,x=.ref a/\SqL K H a xs/\∀p,H p=none->Q (.ref p) (upd H p (.lst (cutV xs lo hi)))
def Lm:SlR X (rSlL X.K):=by
 intro pins s σ H x v vl vu lo hi sl Q I rx hs pl pu h;obtain⟨a,xs,rfl,hx,q⟩:=h;cases rx
 obtain⟨its,r,ht,hz⟩:=I.list hx;have hlen:=r.length;refine⟨"list",_,slot_list_getitem.lookup,ht.isList.typeIs,?_⟩;refine wpAny_getItem_list_slice ht.isList hs pl pu .none (by simp) ?_ (by rw[YD]<;>omega);rw[Zhd,←hlen];refine⟨.ref s.heap.objs.size,_,I.laid (t':=s.toks) (o:=.lst (cutV xs lo hi)) (fun b ob q=>Y1 _ q) (Y3 _) ?_,rfl,q _ (I.hok.fresh (Y3 _))⟩;exact⟨Y8 (Zcl xs lo hi) hz,_,0,(r.drop (HT.sIx xs.length 0 lo)).take (HT.sIx xs.length xs.length hi-HT.sIx xs.length 0 lo),YE _ rfl⟩
def XF:V->Bool
 | .non=>true
 | .bl _=>true
 | .int _=>true
 | .str _=>true
 |_=>false
def eqV:V->V->Bool
 | .non,.non=>true
 | .bl a,.bl b=>a==b
 | .bl a,.int b=>(if a then 1 else 0)==b
 | .int a,.bl b=>a==(if b then 1 else 0)
 | .int a,.int b=>a==b
 | .str a,.str b=>a==b
 |_,_=>false
def Df{A:Around}{s:Shared}{y x:V}{u v:Value}(ry:RelV y u)(rx:RelV x v)(fy:XF y=true)(fx:XF x=true):SeqAt.EqAt A s u v (eqV y x):=by
 cases y with
 |non=>
  cases ry
  cases x with
  |non=>cases rx;exact SeqAt.EqAt.same _
  |bl b=>cases rx;exact SeqAt.EqAt.none_bool b
  |int b=>obtain⟨t,rfl⟩:=rx;exact SeqAt.EqAt.none_int b t
  |str b=>obtain⟨t,rfl⟩:=rx;exact SeqAt.EqAt.none_str b t
  |_=>exact absurd (show false=true from fx) YG
 |bl a=>
  cases ry
  cases x with
  |non=>cases rx;exact SeqAt.EqAt.bool_none a
  |bl b=>cases rx;exact SeqAt.EqAt.bool_bool a b
  |int b=>obtain⟨t,rfl⟩:=rx;exact SeqAt.EqAt.bool_int a b t
  |str b=>obtain⟨t,rfl⟩:=rx;exact SeqAt.EqAt.bool_str a b t
  |_=>exact absurd (show false=true from fx) YG
 |int a=>
  obtain⟨t',rfl⟩:=ry;cases x with
  |non=>cases rx;exact SeqAt.EqAt.int_none a t'
  |bl b=>cases rx;exact SeqAt.EqAt.int_bool a t' b
  |int b=>obtain⟨t,rfl⟩:=rx;exact SeqAt.EqAt.int_int a t' b t
  |str b=>obtain⟨t,rfl⟩:=rx;exact SeqAt.EqAt.int_str a t' b t
  |_=>exact absurd (show false=true from fx) YG
 |str a=>
  obtain⟨t',rfl⟩:=ry;cases x with
  |non=>cases rx;exact SeqAt.EqAt.str_none a t'
  |bl b=>cases rx;exact SeqAt.EqAt.str_bool a t' b
  |int b=>obtain⟨t,rfl⟩:=rx;exact SeqAt.EqAt.str_int a t' b t
  |str b=>obtain⟨t,rfl⟩:=rx;exact SeqAt.EqAt.str_str a t' b t
  |_=>exact absurd (show false=true from fx) YG
 |_=>exact absurd (show false=true from fy) YG
def eqU(x:V)(u:Value):Bool:=match u with
 | .none=>eqV .non x
 | .bool b=>eqV (.bl b) x
 | .int i _=>eqV (.int i) x
 | .str z _=>eqV (.str z) x
 |_=>false
def G4{x y:V}{u:Value}(r:RelV y u)(f:XF y=true):eqU x u=eqV y x:=by
 cases y with
 |non=>cases r;rfl
 |bl b=>cases r;rfl
 |int i=>obtain⟨t,rfl⟩:=r;rfl
 |str z=>obtain⟨t,rfl⟩:=r;rfl
 |_=>exact absurd (show false=true from f) YG
def TM{x:V}:∀{xs:List V}{us:List Value},Vals xs us->xs.all XF=true->us.any (eqU x)=xs.any fun y=>eqV y x
 |_,_,.nil,_=>rfl
 |y::xs,u::us,.cons r t,f=>by
  rw[QW,Wf]at f;rw[Qv,Qv,G4 r f.1,TM t f.2]
def Nv{A:Around}{s:Shared}{x:V}{v:Value}(rx:RelV x v)(fx:XF x=true):∀{xs:List V}{us:List Value},Vals xs us->xs.all XF=true->∀u∈us,SeqAt.EqAt A s u v (eqU x u)
 |_,_,.nil,_=>fun u hu=>by cases hu
 |y::xs,u::us,.cons r t,f=>fun u' hu=>by
  rw[QW,Wf]at f;rcases YA.mp hu with rfl|hu
  ·rw[G4 r f.1];exact Df r rx f.1 fx
  ·exact Nv rx fx t f.2 u' hu
def inV(x:V)(xs:List V):Bool:=xs.any fun y=>eqV y x
def rIn(K:Za)(neg:Bool):R2:=fun x y H Q=>∃p xs,y=.ref p/\(SqL K H p xs\/SqT K H p xs)/\XF x=true/\xs.all XF=true/\Q (.bl (if neg then !inV x xs else inV x xs)) H
def Zdr:OpR X (compareOp .In) (rIn X.K false):=by
 intro pins s σ H x y v u Q I rx ry h;obtain⟨p,xs,rfl,hq,fx,fs,q⟩:=h;cases ry
 rcases hq with hq|hq
 ·obtain⟨its,r,pl,hz⟩:=I.list hq;refine SeqAt.in_listAt (eqU x) pl.isList (fun w hw=>Nv rx fx r fs w (by simpa using hw)) ⟨.bl _,H,I,rfl,?_⟩;rw[show its.toArray.any (eqU x)=its.any (eqU x) by simp,TM r fs];exact q
 ·obtain⟨its,r,pl,hz⟩:=I.tuple hq;refine SeqAt.in_tupleAt (eqU x) pl (fun w hw=>Nv rx fx r fs w (by simpa using hw)) ⟨.bl _,H,I,rfl,?_⟩;rw[show its.toArray.any (eqU x)=its.any (eqU x) by simp,TM r fs];exact q
def Zca:OpR X (compareOp .NotIn) (rIn X.K true):=by
 intro pins s σ H x y v u Q I rx ry h;obtain⟨p,xs,rfl,hq,fx,fs,q⟩:=h;cases ry
 rcases hq with hq|hq
 ·obtain⟨its,r,pl,hz⟩:=I.list hq;refine SeqAt.notIn_listAt (eqU x) pl.isList (fun w hw=>Nv rx fx r fs w (by simpa using hw)) ⟨.bl _,H,I,rfl,?_⟩;rw[show its.toArray.any (eqU x)=its.any (eqU x) by simp,TM r fs];exact q
 ·obtain⟨its,r,pl,hz⟩:=I.tuple hq;refine SeqAt.notIn_tupleAt (eqU x) pl (fun w hw=>Nv rx fx r fs w (by simpa using hw)) ⟨.bl _,H,I,rfl,?_⟩;rw[show its.toArray.any (eqU x)=its.any (eqU x) by simp,TM r fs];exact q
def Zdd:Xd X (.type "list") (fun xs H Q=>∃p ys,xs=[.ref p]/\(SqL X.K H p ys\/SqT X.K H p ys)/\∀l,H l=none->Q (.ref l) (upd H l (.lst ys))):=by
 intro pins s σ H xs us Q I r h;obtain⟨p,ys,rfl,hq,q⟩:=h;obtain⟨u,rfl,rx⟩:=vals1 r;cases rx
 have fin:∀(its:List Value),Vals ys its->ys.length<=sizeLine->∀(h':Heap) (c':Nat),(∀b o',s.heap.get? b=some o'->h'.get? b=some o')->
   h'.get? s.heap.objs.size=some {cls:=.type "list",dict:=none,data:=.seq its.toArray c',slots:=#[]}->EP X pins σ Q (.ref s.heap.objs.size) {s with heap:=h'}:=fun its r' hz h' c' kp e=>
  ⟨.ref s.heap.objs.size,_,I.laid (t':=s.toks) kp (Y3 _) (show ObjOk X.prog X.w _ h' _ (.lst ys)from⟨hz,its,c',r',e⟩),rfl,q _ (I.hok.fresh (Y3 _))⟩
 rcases hq with hq|hq
 ·obtain⟨its,r',pl,hz⟩:=I.list hq;have hlen:=r'.length;obtain⟨o,ho,hc,n,hd⟩:=pl.isList;exact call_list_seq p (.inl rfl) ho hc hd (fun h' c' kp e=>fin its r' hz h' c' kp e) (by simp only[YD]<;>omega)
 ·obtain⟨its,r',pl,hz⟩:=I.tuple hq;have hlen:=r'.length;obtain⟨o,ho,hc,n,hd⟩:=pl;exact call_list_seq p (.inr rfl) ho hc hd (fun h' c' kp e=>fin its r' hz h' c' kp e) (by simp only[YD]<;>omega)
def Zfg:Xd X (.type "tuple") (fun xs H Q=>∃p ys,xs=[.ref p]/\((SqL X.K H p ys/\∀l,H l=none->Q (.ref l) (upd H l (.tup ys)))\/(SqT X.K H p ys/\Q (.ref p) H))):=by
 intro pins s σ H xs us Q I r h;obtain⟨p,ys,rfl,h⟩:=h;obtain⟨u,rfl,rx⟩:=vals1 r;cases rx
 rcases h with⟨hq,q⟩|⟨hq,q⟩
 ·obtain⟨its,r',pl,hz⟩:=I.list hq;have hlen:=r'.length;refine call_tuple_list pl.isList (fun h' kp=>?_) (by simp only[YD]<;>omega);have I1:Inv X pins σ H {s with heap:=h'}:=I.kept (t':=s.toks) kp
  have I2:Inv X pins σ (upd H h'.objs.size (.tup ys)) {s with heap:=h'.push {cls:=.type "tuple",data:=.seq its.toArray}}:=
   I1.laid (t':=s.toks) (fun b o e=>Y1 _ e) (Y3 _) (show ObjOk X.prog X.w _ _ _ (.tup ys)from⟨hz,its,r',IsTup.new _ _⟩)
  exact⟨.ref h'.objs.size,_,I2,rfl,q _ (I1.hok.fresh (Y3 _))⟩
 ·obtain⟨its,r',pl,hz⟩:=I.tuple hq;exact call_tuple_same pl ⟨.ref p,H,I,rfl,q⟩
def tyV(K:Za)(T:String)(x:V)(H:Hp):Prop:=match x with
 | .str _=>T = "str"
 | .int _=>T = "int"
 | .ref p=>(T = "list"/\∃xs,SqL K H p xs)\/(T = "tuple"/\∃o,K.lookup p=some o/\o.cls=.type "tuple"/\o.dict=none)\/
   (T = "dict"/\((∃kvs,H p=some (.dK kvs))\/∃kvs,H p=some (.dT kvs)))\/(T = "set"/\∃S n,H p=some (.set S n))
 |_=>False
def Ej{pins:List (Addr×Obj)}{σ:St}{H:Hp}{s:Shared}{T:String}{x:V}{v:Value}(I:Inv X pins σ H s)(r:RelV x v)(ty:tyV X.K T x H) :
  s.TypeIs v T/\∀a,v=.ref a->∃ob,s.heap.get? a=some ob/\ob.dict=none:=by
 cases x with
 |str z=>
  obtain⟨t,rfl⟩:=r;cases (show T = "str" from ty)
  exact⟨typeIs_str s z t,fun _ e=>nomatch e⟩
 |int i=>
  obtain⟨t,rfl⟩:=r;cases (show T = "int" from ty)
  exact⟨typeIs_int s i t,fun _ e=>nomatch e⟩
 |ref p=>
  cases r
  rcases ty with⟨rfl,xs,hq⟩|⟨rfl,o,hk,hc,hd⟩|⟨rfl,hk⟩|⟨rfl,S,n,hk⟩
  ·obtain⟨its,_,pl,_⟩:=I.list hq;refine⟨pl.isList.typeIs,fun a e=>?_⟩;cases e
   obtain⟨o,n,e,c,hd,_⟩:=pl;exact⟨o,e,hd⟩
  ·refine⟨⟨o,I.kIn p o hk,hc⟩,fun a e=>?_⟩;cases e
   exact⟨o,I.kIn _ o hk,hd⟩
  ·have z:∃o,s.heap.get? p=some o/\o.ExactDict:=by
    rcases hk with⟨kvs,hk⟩|⟨kvs,hk⟩
    ·obtain⟨_,_,_,_,o,_,_,e,ex,_⟩:=I.hok p _ hk;exact⟨o,e,ex⟩
    ·obtain⟨_,_,_,_,o,_,_,e,ex,_⟩:=I.hok p _ hk;exact⟨o,e,ex⟩
   obtain⟨o,e,ex⟩:=z;refine⟨⟨o,e,ex.1⟩,fun a e2=>?_⟩;cases e2
   exact⟨o,e,ex.2.1⟩
  ·obtain⟨o,_,_,_,e,ex,_⟩:=I.hok p _ hk;refine⟨⟨o,e,ex.1⟩,fun a e2=>?_⟩;cases e2
   exact⟨o,e,ex.2.1⟩
 |_=>exact False.elim ty
def tBM0(K:Za)(T:String)(r:V->List V->Hp->VK->Prop)(to:TE):TE:=fun σ H Q=>to σ H fun x H1=>tyV K T x H1/\r x [] H1 Q
def tBM(K:Za)(T:String)(r:V->List V->Hp->VK->Prop)(to:TE)(t:TA):TE:=fun σ H Q=>to σ H fun x H1=>tyV K T x H1/\t σ H1 fun xs H2=>r x xs H2 Q
variable {o e:Expr}{es:List Expr}{to:TE}{t:TA}{name:Str}{apos cpos:Pos}{T id:String}{r:V->List V->Hp->VK->Prop}
def TX(pa:PlainAttrs T)(slot:Slot T name id)(hty:typeOf (.builtin id)=pure (.type "method_descriptor"))(hm:MtR X id r)(ho:PE X o to)(hbase:attributeBase o name X.env (eval o X.env)=eval o X.env:=by rfl)(hline:(apos.endLine==cpos.line)=true:=by rfl):PE X (.Call (.Attribute o name apos) [] [] cpos) (tBM0 X.K T r to):=by
 intro pins s σ H Q I h;refine wpAny_Call_method0_late hbase hline (thn (ho pins s σ H _ I h) fun v s1 ⟨x,H1,I1,r1,ty,q1⟩=>?_);obtain⟨h1,h2⟩:=Ej I1 r1 ty;exact⟨T,id,pa,slot,hty,h1,h2,Calls.callWith_builtin rfl (PySem.evalArgs_none (hm pins s1 σ H1 x [] v [] Q I1 r1 .nil q1))⟩
def Kd(pa:PlainAttrs T)(slot:Slot T name id)(hty:typeOf (.builtin id)=pure (.type "method_descriptor"))(hm:MtR X id r)(ho:PE X o to)(ha:PA X (e::es) t)(hbase:attributeBase o name X.env (eval o X.env)=eval o X.env:=by rfl)
  (hfew:((backTo cpos (starEach (e::es) X.env)).all (fun x=>!x.1)&&(backToKw cpos (keywordEach [] X.env)).all (fun x=>x.1.isSome)
   && decide ((e::es).length+([]:List Keyword).length+(if ([]:List Keyword).isEmpty then 0 else 1)<30))=true:=by rfl)
  (hline:(apos.endLine==cpos.line)=true:=by rfl) (hs:starEach (e::es) X.env=(false,eval e X.env)::starEach es X.env:=by rfl) (hplain:(backTo cpos (starEach es X.env)).any (·.1)=false:=by rfl) :
  PE X (.Call (.Attribute o name apos) (e::es) [] cpos) (tBM X.K T r to t):=by
 intro pins s σ H Q I h;refine wpAny_Call_method_late hbase hfew hline rfl (thn (ho pins s σ H _ I h) fun v s1 ⟨x,H1,I1,r1,ty,q1⟩=>?_);obtain⟨h1,h2⟩:=Ej I1 r1 ty;refine⟨T,id,pa,slot,hty,h1,h2,?_⟩;have hA:=ha cpos pins s1 σ H1 _ I1 q1;rw[hs]at hA ⊢;refine Calls.callWith_builtin (by show(false || (backTo cpos (starEach es X.env)).any (·.1))=false;rw[hplain]<;>rfl) (Calls.evalArgs_plain ?_);exact thn hA fun us s2 ⟨vs,H2,I2,r2,q2⟩=>hm pins s2 σ H2 x vs v us Q I2 r1 r2 q2
end
def MtM(X:Cx)(id:String)(r:V->List V->Hp->VK->Prop):Prop:=
 ∀(pins:List (Addr×Obj)) (s:Shared) (σ:St) (H:Hp) (x:V) (xs:List V) (v:Value) (us:List Value) (Q:VK),Inv X pins σ H s->RelV x v->Vals xs us->r x xs H Q->
  wpAny (model X.prog X.w) X.A (call (.builtin id) (v::us)) (EP X pins σ Q) X.xe s
def Vals.one:∀{x:V}{us:List Value},Vals [x] us->∃u,us=[u]/\RelV x u
 |_,_,.cons r .nil=>⟨_,rfl,r⟩
def Vals.zero:∀{us:List Value},Vals [] us->us=[]
 |_,.nil=>rfl
def Vals.dropLast {xs:List V}{us:List Value} (h:Vals xs us):Vals xs.dropLast us.dropLast:=by
 induction h with
 |nil=>exact .nil
 |cons r t ih=>
  cases t with
  |nil=>exact .nil
  |cons q t'=>exact .cons r ih
def Zby{α:Type}(l:List α):l.eraseIdx (l.length-1)=l.dropLast:=by
 induction l with
 |nil=>rfl
 |cons a r ih=>
  cases r with
  |nil=>rfl
  |cons b r=>
   have e:(a::b::r).length-1=((b::r).length-1)+1:=by
    have h1:(a::b::r).length=r.length+2:=rfl;have h2:(b::r).length=r.length+1:=rfl;omega
   rw[e,List.eraseIdx_cons_succ,ih]
   all_goals rfl
section
variable {X:Cx}{pins:List (Addr×Obj)}{σ:St}{H:Hp}{s:Shared}{l b:Addr}{xs ys zs:List V}
def Inv.lset {its its':List Value}{n:Nat}{f:Array Value->Array Value}{t':Nat} (I:Inv X pins σ H s) (hH:H l=some (.lst xs))
  (e:s.heap.get? l=some {cls:=.type "list",data:=.seq its.toArray n}) (hf:f its.toArray=its'.toArray) (hv:Vals ys its') (hz:ys.length<=sizeLine) :
  Inv X pins σ (upd H l (.lst ys)) {s with heap:=s.heap.update l (Obj.mapSeq f),toks:=t'}:=by
 have q:=PySem.IsL.update e f;rw[hf]at q;refine I.write (x:=l) (e:=l) (by rw[hH];exact trivial) (.inl rfl) (fun b' u hb hu=>(Wv s.heap (Obj.mapSeq f) (Ne.symm hb)).trans hu) ⟨_,q⟩ ?_;exact⟨hz,its',_,hv,q⟩
def Inv.lnew {its:List Value}{t':Nat} (I:Inv X pins σ H s) (hv:Vals ys its) (hz:ys.length<=sizeLine) :
  Inv X pins σ (upd H s.heap.objs.size (.lst ys)) {s with heap:=s.heap.push {cls:=.type "list",data:=.seq its.toArray},toks:=t'}:=
 I.laid (fun _ _ q=>Y1 _ q) (Y3 _) ⟨hz,its,0,hv,YE _ rfl⟩
def Inv.fresh (I:Inv X pins σ H s):H s.heap.objs.size=none:=I.hok.fresh (Y3 _)
def Inv.lstM (I:Inv X pins σ H s) (hH:H l=some (.lst xs)):xs.length<=sizeLine/\∃(its:List Value) (n:Nat),Vals xs its/\xs.length=its.length/\s.heap.get? l=some {cls:=.type "list",data:=.seq its.toArray n}:=by
 obtain⟨z,its,n,r,e⟩:=I.hok l _ hH;exact⟨z,its,n,r,r.length,e⟩
def Zfk{n:Nat}(h:n<=sizeLine):Builtin.List.listTooLong n=false:=by
 unfold Builtin.List.listTooLong;exact YH (by omega)
end
section
variable {X:Cx}
def Fv:V->List V->Hp->VK->Prop:=fun x vs H Q=>∃l xs y,x=.ref l/\vs=[y]/\H l=some (.lst xs)/\xs.length<sizeLine/\Q .non (upd H l (.lst (xs++[y])))
def Kz:MtM X "list.append" Fv:=by
 intro pins s σ H x vs v us Q I rx rv h;obtain⟨l,xs,y,rfl,rfl,hH,hz,q⟩:=h;cases rx
 obtain⟨u,rfl,ru⟩:=rv.one;obtain⟨z,its,n,r,hl,e⟩:=I.lstM hH;refine call_meets F.slot_list_append ⟨_,e,rfl⟩ F.entry_list_append (F.args_list_append_2 _ _) (PySem.list_append l its.toArray n u (by rw[YD];omega)) ⟨e,?_⟩;refine⟨.non,_,I.lset (its':=its++[u]) hH e (by simp) (r.append (.cons ru .nil)) ?_,rfl,q⟩;rw[Y4,Wn];omega
def Cd:V->List V->Hp->VK->Prop:=fun x vs H Q=>∃l b xs zs,x=.ref l/\vs=[.ref b]/\H l=some (.lst xs)/\H b=some (.lst zs)/\xs.length+zs.length<=sizeLine/\Q .non (upd H l (.lst (xs++zs)))
def De:MtM X "list.extend" Cd:=by
 intro pins s σ H x vs v us Q I rx rv h;obtain⟨l,b,xs,zs,rfl,rfl,hH,hB,hz,q⟩:=h;cases rx
 obtain⟨u,rfl,ru⟩:=rv.one;cases ru
 obtain⟨z,its,n,r,hl,e⟩:=I.lstM hH;obtain⟨z2,its2,n2,r2,hl2,e2⟩:=I.lstM hB;have hsz:its.toArray.size+its2.toArray.size<=sizeLine:=by rw[YD,YD];omega
 have hlong:¬(!its.toArray.isEmpty&&Builtin.List.listTooLong (its.toArray.size+its2.toArray.size))=true:=by
  rw[Zfk hsz,Vx];exact YG
 refine call_meets F.slot_list_extend ⟨_,e,rfl⟩ F.entry_list_extend (F.args_list_extend_2 _ _)
  (AutoSeq1.list_extend_list_list_0 l its.toArray n b its2.toArray n2 hlong (by rw[YD];omega) (by omega)) ⟨e,e2,?_⟩
 refine⟨.non,_,I.lset (its':=its++its2) hH e (by simp) (r.append r2) ?_,rfl,q⟩;rw[Y4];omega
def rPop:V->List V->Hp->VK->Prop:=fun x vs H Q=>∃l xs y,x=.ref l/\vs=[]/\H l=some (.lst xs)/\xs[xs.length-1]?=some y/\Q y (upd H l (.lst xs.dropLast))
def SA:MtM X "list.pop" rPop:=by
 intro pins s σ H x vs v us Q I rx rv h;obtain⟨l,xs,y,rfl,rfl,hH,hy,q⟩:=h;cases rx
 have hus:=rv.zero;subst hus;obtain⟨z,its,n,r,hl,e⟩:=I.lstM hH;obtain⟨u,hu,ru⟩:=r.get hy
 have hy':its.toArray[its.toArray.size-1]?=some u:=by
  show its.toArray[its.length-1]?=some u;rw[←Ww,←hl];exact hu
 refine call_meets F.slot_list_pop ⟨_,e,rfl⟩ F.entry_list_pop (F.args_list_pop_1 _) (MeetsSeq.list_pop_last l its.toArray n u hy' (by rw[YD];omega)) ⟨e,?_⟩;refine⟨y,_,I.lset (its':=its.dropLast) hH e ?_ r.dropLast ?_,ru,q⟩
 ·show its.toArray.eraseIdxIfInBounds (its.toArray.size-1)=its.dropLast.toArray;rw[YD,List.eraseIdxIfInBounds_toArray,Zby]
 ·rw[List.length_dropLast];omega
def rCat:R2:=fun x y H Q=>∃l b xs zs,x=.ref l/\y=.ref b/\H l=some (.lst xs)/\H b=some (.lst zs)/\xs.length+zs.length<=sizeLine/\∀p,H p=none->Q (.ref p) (upd H p (.lst (xs++zs)))
def Xu:OpR X (binaryOp .Add) rCat:=by
 intro pins s σ H x y v u Q I rx ry h;obtain⟨l,b,xs,zs,rfl,rfl,hH,hB,hz,q⟩:=h;cases rx
 cases ry
 obtain⟨z,its,n,r,hl,e⟩:=I.lstM hH;obtain⟨z2,its2,n2,r2,hl2,e2⟩:=I.lstM hB;refine PySem.P.add_list e e2 ?_ (by rw[YD,YD];omega);have ea:its.toArray++its2.toArray=(its++its2).toArray:=by simp
 rw[ea];exact⟨.ref _,_,I.lnew (t':=s.toks) (r.append r2) (by rw[Y4];omega),rfl,q _ I.fresh⟩
end
end L2
namespace Att
open PySem PySem.W PySem.Calls PyProof.Rows
def RI{P:Params}{h:Heap}:∀(ns:List Int) (vs:List Value),WellAll P h vs (ns.map WData.int)->IntsAre vs ns:=by
 intro ns
 induction ns with
 |nil=>
  intro vs w;rw[VD]at w;cases w
  exact .nil
 |cons n ns ih=>
  intro vs w;rw[YC]at w;cases w with
  |cons a b=>
   cases a
   exact .cons _ _ (ih _ b)
def M7{l:OpenLaw}{n:Nat}(hn:l.most=some n){P:Params}{h:Heap}{args:List WData}{vals:List Value}(hpre:l.row.toRowW.claim.pre args=true)(hwl:WellAll P h vals args) :
  ∃a vs ns,vals=[Value.ref a]/\args=[WData.list (ns.map WData.int)]/\h.get? a=some {cls:=.type "list",data:=.seq vs.toArray}/\IntsAre vs ns/\ns.length<=n:=by
 have hsh:WShape.hasAll [] args [.list .int]=true:=(pre_splitW hpre).1;have hc:l.pre.holds [] {args:=args}=true:=(pre_splitW hpre).2;obtain⟨d,r,rfl,h1,h2⟩:=hasAllW_cons hsh;obtain rfl:=hasAllW_nil h2;obtain⟨xs,rfl,h3⟩:=hasW_list h1;obtain⟨ns,rfl⟩:=items_int h3
 have hlen:ns.length<=n:=by
  unfold OpenLaw.pre at hc
  have h4:(WTm.not (.lt (.lit (.int (n:Int))) (.len (.arg 0)))).holds [] {args:=[.list (ns.map .int)]}=true:=by
   have h4:=(holds_andW hc).1;rw[hn]at h4;exact h4
  have h5:=condW_of h4 (w_not (w_lt w_lit (w_len_list (w_arg rfl))));rw[Yu]at h5;refine Nat.le_of_not_lt fun q=>?_;have q':(n:Int)<((ns.length:Nat):Int):=by omega
  first
   |(rw[Yy q']at h5;exact absurd h5 (by decide))
   |(simp at h5;omega)
 cases hwl with
 |cons w1 w2=>
  cases w2
  cases w1 with
  |list ho hall=>exact⟨_,_,ns,rfl,rfl,ho,RI ns _ hall,hlen⟩
def Zg9(l:OpenLaw)(args:List WData):l.row.toRowW.claim.post args (.bool true) args=true:=
 postW_of (r:=l.row.toRowW) (X:=(true==true))
  (show WShape.has [] (.bool true) .bool=true by first|rfl|decide|simp[WShape.has,WShape.arms,WShape.armsAll])
  (show(WTm.eq .res (.lit (.bool true))).value [] {args:=args,res:=some (.bool true),after:=args}=some (.bool (true==true))from w_eq_bool (w_res rfl) w_lit) rfl
def MK{l:OpenLaw}{n:Nat}{q:Program}{loose:List Str}{XP:(Str->Option Value)->Heap->Prop}{YP:World->Heap->Prop}{d:DefRec}(hn:l.most=some n)(hdf:d.params.defaults=[])
  (call:∀(w:World) (s₀ s₁:Shared) (mg mb:Str->Option Value) (fa:Addr) (o:Obj) (pm cd doc:Value) (a:Addr) (vs:List Value) (ns:List Int),
   Ground q loose [] XP w s₀ mg mb s₁.heap->YP w s₁.heap->
   s₁.heap.get? fa=some o->o.data=.func (docDef d.name d.params d.body d.scope pm cd doc)->s₁.heap.CodeRec cd d.name->mg d.name=some (.ref fa)->
   s₁.heap.get? a=some {cls:=.type "list",data:=.seq vs.toArray}->IntsAre vs ns->ns.length<=n->s₁.gens=#[]->
   codeAny (model l.prog w) callerA (.call (.ref fa) ⟨[.ref a],[]⟩) (fun r s'=>r=.ok (.ret (.bool true))/\OldK s₁.heap s'.heap/\s'.os=s₁.os/\AllBare s'.gens) s₁) :
  WalkO q loose XP YP l.row.toRowW d [] (fun f vs=>PySem.call f vs):=by
 intro w s₀ s₁ mg mb G Y fa o pm cd doc dV kV ho hd hcd hD hmg hg args vals as hpre hlay hrd hwl hlo;obtain rfl:dV=.none:=Dflts.none hD hdf;obtain rfl:kV=.none:=Dflts.noKw hD;obtain⟨a,vs,ns,rfl,rfl,hobj,hints,hlen⟩:=M7 hn hpre hwl;refine enter_call (Q5 (call w s₀ s₁ mg mb fa o pm cd doc a vs ns G Y ho (fd_plain hd) hcd hmg hobj hints hlen hg) fun r s' hq=>?_);obtain⟨rfl,h2,h3,h4⟩:=hq;exact⟨.inl ⟨.bool true,.bool true,[],rfl,fun _=>rfl,.bool true,Zg9 l _,fun _=>⟨List.Pairwise.nil,fun _ hm=>(nomatch hm)⟩⟩,h2,h3,h4⟩
end Att
namespace L2
open PySem PySem.Spec PyProof.Rows
def Sq:∀{vs:List Value}{ns:List Int},IntsAre vs ns->Vals (ns.map V.int) vs
 |_,_,.nil=>.nil
 |_,_,.cons n t h=>.cons ⟨t,rfl⟩ (Sq h)
def Only(H:Hp):Prop:=∀b,H b=none\/∃o xs,H b=some (.frz o (.lst xs))
def RL{P:Program}{w:World}{K:Za}{mg mb:Str->Option Value}{CX:CXT}{k:Nat}{fa a:Addr}{fd:FuncData}{x:Str}{sp:Sp}{s₁:Shared}{vs:List Value}{ns:List Int}(KX:K.In s₁.heap)(hns:s₁.heap.Ns mainGlobals mg)(hb:s₁.heap.Ns builtinsNs mb)(hbb:∀x:Str,x≠"__name__"->mb x=bootBuiltins x)(hlim:s₁.heap.NoLimit)(hg:s₁.gens=#[])(ha:s₁.heap.get? a=some {cls:=.type "list",data:=.seq vs.toArray})(hi:IntsAre vs ns)(hl:ns.length<=sizeLine)(hr:Room k callerA)(F:∀base:Heap,K.In base->base.Ns mainGlobals mg->FnOk P w K mg base CX k fa fd [x] sp)(hbind:∀(s:Shared) (u:Value),BindsTo s fd ⟨[u],[]⟩ [(x,u)])(hsp:∀H:Hp,Only H->SqL K H a (ns.map V.int)->sp [.ref a] H (fun v _=>v=.bl true) fun _ _ _=>False)(hCX:∀H e s',CX [] H s₁ (fun _ _ _=>False) e s'->False) :
  codeAny (model P w) callerA (.call (.ref fa) ⟨[.ref a],[]⟩) (fun r s'=>r=.ok (.ret (.bool true))/\OldK s₁.heap s'.heap/\s'.os=s₁.os/\AllBare s'.gens) s₁:=by
 have rv:=Sq hi;have lenV:=hi.length
 have core:∀H:Hp,Only H->SqL K H a (ns.map V.int)->HOk P w H s₁.heap->(∀b,H b≠none->b=a)->(H a≠none->K.lookup a=none)->
   codeAny (model P w) callerA (.call (.ref fa) ⟨[.ref a],[]⟩) (fun r s'=>r=.ok (.ret (.bool true))/\OldK s₁.heap s'.heap/\s'.os=s₁.os/\AllBare s'.gens) s₁:=by
  intro H hO hS hok hA hK;have base_of:∀{b:Addr} {o:Obj},s₁.heap.get? b=some o->H b=none->(hidT s₁.heap H).get? b=some o:=fun e n=>Zhb e n
  have noA:∀{b:Addr} {o:Obj} {es:Array DictEntry} {ep:Nat},s₁.heap.get? b=some o->o.data=.dict es ep->H b=none:=fun {b o es ep} e d=>by
   cases q:H b with
   |none=>rfl
   |some u=>
    have e':b=a:=hA b (by rw[q];simp);subst e';rw[ha]at e;cases e;have d':Data.seq vs.toArray _=Data.dict es ep:=d;cases d'
  have nsK:∀{b:Addr} {m:Str->Option Value},s₁.heap.Ns b m->(hidT s₁.heap H).Ns b m:=fun {b m} ⟨o,es,ep,e,d,r⟩=>⟨o,es,ep,base_of e (noA e d),d,r⟩
  have hKb:K.In (hidT s₁.heap H):=fun b o e=>base_of (KX b o e) (by
   cases q:H b with
   |none=>rfl
   |some u=>
    have e':b=a:=hA b (by rw[q];simp);subst e';rw[hK (by rw[q];simp)]at e;cases e)
  have hM:Mod K mg (hidT s₁.heap H):=⟨hKb,nsK hns,⟨mb,nsK hb,hbb⟩,let ⟨mc,h1,h2⟩:=hlim;⟨mc,nsK h1,h2⟩⟩;have e0:Env0 P w K mg (hidT s₁.heap H) callerA [] s₁ H:=⟨rfl,hM,fun b o e=>Lx e,WQ (Zhr _ _),trivial,fun b hb=>absurd (show b∈([]:List Addr)from hb) (by simp),hok,.of_eq hg⟩
  refine Q5 ((F _ hKb (nsK hns)).run callerA [] s₁ H ⟨[.ref a],[]⟩ [.ref a] [.ref a] _ _ hr e0 (hbind s₁ (.ref a)) (.cons rfl .nil) (hsp H hO hS)) fun r s' h=>?_;cases r with
  |error e=>exact(hCX H e s' h).elim
  |ok fl=>
   cases fl with
   |next=>exact False.elim h
   |brk=>exact False.elim h
   |cont=>exact False.elim h
   |ret u=>
    obtain⟨v,H',os,bare,un,hok',r',q⟩:=h;have q':v=.bl true:=q;subst q';obtain rfl:u=Value.bool true:=r';refine⟨rfl,OldK.of_keep fun b o e=>?_,os,bare⟩;cases q:H b with
    |none=>exact un.keep b o e q (by intro z;exact absurd (show b∈([]:List Addr)from z) (by simp)) (by simp)
    |some u=>
     rcases hO b with z|⟨ob,xs,z⟩
     ·rw[q]at z;cases z
     ·have z2:=un.frzs b ob _ z;obtain⟨e1,_⟩:=hok b _ z;obtain⟨e2,_⟩:=hok' b _ z2;rw[e]at e1;cases e1;exact e2
 cases hk:K.lookup a with
 |some o=>
  have e:=KX a o hk;rw[ha]at e;cases e
  refine core (fun _=>none) (fun _=>.inl rfl) (.inr ⟨_,vs.toArray,_,hk,rfl,rfl,rfl,by rw[YD,lenV];exact hl,by simpa using rv⟩) (fun b u z=>by have z':(none:Option HO)=some u:=z;cases z') (fun b z=>absurd rfl z) fun z=>absurd rfl z
 |none=>
  refine core (fun b=>if b=a then some (.frz {cls:=.type "list",data:=.seq vs.toArray} (.lst (ns.map V.int)))else none) (fun b=>?_) (.inl (.inr ⟨{cls:=.type "list",data:=.seq vs.toArray},Yz rfl⟩)) (fun b u z=>?_) (fun b z=>?_) fun _=>hk
  ·by_cases hb:b=a
   ·exact .inr ⟨_,_,Yz hb⟩
   ·exact .inl (Yx hb)
  ·by_cases hb:b=a
   ·have z':=(Yz hb).symm.trans z;cases z'
    subst hb;exact⟨ha,by rw[Yu];exact hl,vs,_,rv,ha⟩
   ·have z':=(Yx hb).symm.trans z;cases z'
  ·by_cases hb:b=a
   ·exact hb
   ·exact absurd (Yx hb) z
def Zc0{l:PySem.W.OpenLaw}{n k:Nat}{q:Program}{loose:List Str}{XP:(Str->Option Value)->Heap->Prop}{YP:World->Heap->Prop}{d:DefRec}{K:Params->Za}{CX:World->CXT}{sp:World->Sp}{x:Str}(hn:l.most=some n)(hn2:n<=sizeLine)(hdf:d.params.defaults=[])(hr:Room k callerA)(hY:∀(w:World) (h:Heap),YP w h->(K w.params).In h)
  (F:∀(w:World) (mg:Str->Option Value) (fa:Addr) (h:Heap),(K w.params).In h->h.Ns mainGlobals mg->mg d.name=some (.ref fa)->
   ∃fd:FuncData,(∀(s:Shared) (u:Value),BindsTo s fd ⟨[u],[]⟩ [(x,u)])/\
    ∀base:Heap,(K w.params).In base->base.Ns mainGlobals mg->FnOk l.prog w (K w.params) mg base (CX w) k fa fd [x] (sp w))
  (hsp:∀(w:World) (H:Hp) (a:Addr) (ns:List Int),ns.length<=n->Only H->SqL (K w.params) H a (ns.map V.int)->sp w [.ref a] H (fun v _=>v=.bl true) fun _ _ _=>False)
  (hCX:∀(w:World) (H:Hp) (s:Shared) (e:Value) (s':Shared),CX w [] H s (fun _ _ _=>False) e s'->False) :
  PySem.W.WalkO q loose XP YP l.row.toRowW d [] (fun f vs=>PySem.call f vs):=by
 refine Att.MK hn hdf fun w s₀ s₁ mg mb fa o pm cd doc a vs ns G Y ho hd hcd hmg hobj hints hlen hg=>?_;have KX:=hY w _ Y;obtain⟨fd,hb,hF⟩:=F w mg fa _ KX G.T.g hmg;exact RL KX G.T.g G.T.b G.T.builtins G.T.nolimit hg hobj hints (Y8 hlen hn2) hr hF hb (fun H hO hS=>hsp w H a ns hlen hO hS) fun H e s'=>hCX w H s₁ e s'
def OD{l:PySem.W.OpenLaw}{n k:Nat}{q:Program}{loose:List Str}{XP:(Str->Option Value)->Heap->Prop}{YP:World->Heap->Prop}{d:DefRec}{K:Params->Za}{CX:CXT}{sp:Za->Sp}{x:Str}(hn:l.most=some n)(hn2:n<=sizeLine)(hdf:d.params.defaults=[])(hr:Room k callerA)(hY:∀(w:World) (h:Heap),YP w h->(K w.params).In h)
  (F:∀(w:World) (mg:Str->Option Value) (fa:Addr) (h:Heap),(K w.params).In h->h.Ns mainGlobals mg->mg d.name=some (.ref fa)->
   ∃fd:FuncData,(∀(s:Shared) (u:Value),BindsTo s fd ⟨[u],[]⟩ [(x,u)])/\
    ∀base:Heap,(K w.params).In base->base.Ns mainGlobals mg->FnOk l.prog w (K w.params) mg base CX k fa fd [x] (sp (K w.params)))
  (hsp:∀(K:Za) (H:Hp) (a:Addr) (ns:List Int),ns.length<=n->Only H->SqL K H a (ns.map V.int)->sp K [.ref a] H (fun v _=>v=.bl true) fun _ _ _=>False)
  (hCX:∀(H:Hp) (s:Shared) (e:Value) (s':Shared),CX [] H s (fun _ _ _=>False) e s'->False) :
  PySem.W.WalkO q loose XP YP l.row.toRowW d [] (fun f vs=>PySem.call f vs):=
 Zc0 (K:=K) (CX:=fun _=>CX) (sp:=fun w=>sp (K w.params)) hn hn2 hdf hr hY F (fun w H a ns h1 h2 h3=>hsp (K w.params) H a ns h1 h2 h3) fun _ H s e s'=>hCX H s e s'
def inClass(s:Stmt)(j:Nat):Stmt:=match s with
 | .ClassDef _ _ _ body _ _ _ _ _ _ _=>body.getD j (.Pass ⟨0,0,0,0⟩)
 |_=>.Pass ⟨0,0,0,0⟩
def Kl(s:Stmt):Arguments:=match s with
 | .FunctionDef _ a _ _ _ _ _ _ _ _=>a
 |_=>{posonlyargs:=[],args:=[],vararg:=none,kwonlyargs:=[],kw_defaults:=[],kwarg:=none,defaults:=[]}
def Xl(s:Stmt):List Stmt:=match s with
 | .FunctionDef _ _ b _ _ _ _ _ _ _=>b
 |_=>[]
def JV(s:Stmt):Scope:=match s with
 | .FunctionDef _ _ _ _ _ _ sc _ _ _=>sc
 |_=>{kind:=.function,names:=[],isGenerator:=false,isCoroutine:=false}
abbrev CX0:CXT:=fun _ _ _ _ _ _=>False
abbrev E0:XK:=fun _ _ _=>False
def UH{X:Cx}:Kc CX0 X E0:=fun _ _ _ _ _ _ _ h=>h.elim
structure Fun (K:Za) (x qual:Str) (st:Stmt) (f:Addr) (fd:FuncData):Prop where
 ex:∃(oc:Value) (od:Option Addr) (kV doc pm:Value) (an:Option Addr) (cdv ct:Value) (osl:Array (Option Value)),
  fd=PySem.W.fnOf x qual (Kl st) (Xl st) (JV st) .none kV doc pm an cdv ct/\K.lookup f=some ⟨oc,od,.func fd,osl⟩/\PySem.W.codeIn K cdv qual=true
 kp:PySem.W.keepIn K (.ref f)=true
section
variable {P:Program}{w:World}{K:Za}{mg:Str->Option Value}{base:Heap}
def Fun.ok {x qual:Str}{st:Stmt}{f:Addr}{fd:FuncData}{N ps:List Str}{k:Nat}{sp:Sp} (F:Fun K x qual st f fd) (S:FnScope N ps (JV st)) (len:∀vs H Q E,sp vs H Q E->vs.length=ps.length)
  (hbody:∀(cdv:Value) (A:Around) (outer:List Env) (s:Shared) (H:Hp) (vs:List V) (Q:VK) (E:XK),Room k (A.deeper (envOfC qual (JV st) s.heap.objs.size f cdv))->sp vs H Q E->
   ∃t,PSs (cxOf CX0 P w K mg base N qual (JV st) f cdv A outer s H E).nox (Xl st) t/\t {nx:=fun _ H'=>Q .non H',rt:=Q} (start N vs) H):FnOk P w K mg base CX0 (k+1) f fd ps sp:=by
 obtain⟨oc,od,kV,doc,pm,an,cdv,ct,osl,rfl,lk,hcd⟩:=F.ex;refine SR lk hcd S len fun A outer s H vs Q E hr hsp=>?_;obtain⟨t,h,q⟩:=hbody cdv A outer s H vs Q E hr hsp;exact⟨t,h.nox,q⟩
def Fun.binds {x qual:Str}{st:Stmt}{f:Addr}{fd:FuncData}{ps:List Str} (F:Fun K x qual st f fd)
  (h:∀(kV doc pm:Value) (an:Option Addr) (cdv ct:Value) (us:List Value),us.length=ps.length->bindArgs (PySem.W.fnOf x qual (Kl st) (Xl st) (JV st) .none kV doc pm an cdv ct) ⟨us,[]⟩=pure (ps.zip us)):Binds K fd ps []:=by
 obtain⟨oc,od,kV,doc,pm,an,cdv,ct,osl,rfl,lk,hcd⟩:=F.ex;exact .all (h kV doc pm an cdv ct)
def Am{x qual:Str}{st:Stmt}{f:Addr}{oc:Value}{od an:Option Addr}{osl:Array (Option Value)}{kV doc pm cdv ct:Value}(l:K.lookup f=some ⟨oc,od,.func (PySem.W.fnOf x qual (Kl st) (Xl st) (JV st) .none kV doc pm an cdv ct),osl⟩)(c:PySem.W.codeIn K cdv qual=true)(k:PySem.W.keepIn K (.ref f)=true):Fun K x qual st f (PySem.W.fnOf x qual (Kl st) (Xl st) (JV st) .none kV doc pm an cdv ct):=⟨⟨oc,od,kV,doc,pm,an,cdv,ct,osl,rfl,l,c⟩,k⟩
end
def UO{A:Around}{k:Nat}(hr:Room k A):A.units+1<cLine:=V1 (Nat.add_le_add_left (by decide:1<=64) _) hr.units
def RC{n:Nat}(h:n<=1000):n<sizeLine:=V1 h (by decide)
section
variable {X:Cx}
def pv(i:Nat){x:Str}{pos:Pos}(hN:X.N[i]?=some x:=by rfl)(hv:Vis X.env.scope x:=by first|exact Or.inl rfl|exact Or.inr (Or.inl rfl)|exact Or.inr (Or.inr rfl))(hd:(x==("__debug__" : Str))=false:=by decide)(hcd:(x==("__classdict__" : Str))=false:=by decide):PE X (.Name x pos) (tVar i):=Re hN hv hd hcd
end
def iteF{A B:Prop}(h:B):if false=true then A else B:=by
 rw[Yx YG];exact h
def iteT{A B:Prop}(h:A):if true=true then A else B:=by
 rw[Yz rfl];exact h
def ite2{c A B:Prop}[Decidable c](h1:c->A)(h2:¬c->B):if c then A else B:=by
 by_cases h:c
 ·rw[Yz h];exact h1 h
 ·rw[Yx h];exact h2 h
def P7{c A B:Prop}[Decidable c](hc:c)(h:B):if (!decide c)=true then A else B:=by
 rw[Yy hc];exact iteF h
def Same(H H':Hp):Prop:=∀b o,H b=some o->H' b=some o
def Same.refl (H:Hp):Same H H:=fun _ _ h=>h
def Same.trans {H H1 H2:Hp} (a:Same H H1) (b:Same H1 H2):Same H H2:=fun c o h=>b c o (a c o h)
def Same.free {H H':Hp} (e:Same H H') {l:Addr} (h:H' l=Option.none):H l=Option.none:=by
 cases q:H l with
 |none=>rfl
 |some o=>
  rw[e l o q]at h;cases h
def Same.seq {K:Za}{H H':Hp}{a:Addr}{xs:List V} (e:Same H H') (h:SqL K H a xs):SqL K H' a xs:=by
 rcases h with(h|⟨o,h⟩)|h
 ·exact .inl (.inl (e _ _ h))
 ·exact .inl (.inr ⟨o,e _ _ h⟩)
 ·exact .inr h
end L2
set_option maxHeartbeats 4000000
namespace L2
open PySem PySem.Spec PyProof.Rows
section
variable {κ:Type} [DecidableEq κ]
def valV(kvs:List (κ×V))(k:κ):Option V:=(kvs.find? fun kv=>decide (kv.1=k)).map (·.2)
def putK(kvs:List (κ×V))(k:κ)(v:V):List (κ×V):=
 if (kvs.any fun kv=>decide (kv.1=k))=true then kvs.map (fun kv=>if kv.1=k then(kv.1,v)else kv)else kvs++[(k,v)]
def Kf{p:κ×V}{r:List (κ×V)}{k:κ}(e:p.1=k):valV (p::r) k=some p.2:=by simp[valV,Qx,e]
def Ke{p:κ×V}{r:List (κ×V)}{k:κ}(e:¬p.1=k):valV (p::r) k=valV r k:=by simp[valV,Qx,e]
def Nh(k:κ):∀kvs:List (κ×V),(kvs.any fun kv=>decide (kv.1=k))=(valV kvs k).isSome
 |[]=>rfl
 |p::r=>by
  rw[Qv];by_cases e:p.1=k
  ·simp only[Kf e,Yy e,Bool.true_or,Option.isSome_some]
  ·rw[Ke e,YH e,Bool.false_or];exact Nh k r
def Ez(k j:κ)(y:V):∀kvs:List (κ×V),valV (kvs.map fun kv=>if kv.1=k then(kv.1,y)else kv) j=(valV kvs j).map fun x=>if j=k then y else x
 |[]=>rfl
 |p::r=>by
  have ih:=Ez k j y r;rw[YC];by_cases h:p.1=k
  ·rw[Yz h];by_cases e:p.1=j
   ·rw[Kf (p:=(p.1,y)) e,Kf e,Vn,Yz (e.symm.trans h)]
   ·rw[Ke (p:=(p.1,y)) e,Ke e,ih]
  ·rw[Yx h];by_cases e:p.1=j
   ·rw[Kf (p:=p) e,Kf e,Vn,Yx (fun z=>h (e.trans z))]
   ·rw[Ke (p:=p) e,Ke e,ih]
def Eh(k j:κ)(y:V):∀kvs:List (κ×V),valV kvs k=none->valV (kvs++[(k,y)]) j=if j=k then some y else valV kvs j
 |[],_=>by
  by_cases e:k=j
  ·rw[Yz e.symm];exact Kf (p:=(k,y)) e
  ·rw[Yx (fun z=>e z.symm)];exact Ke (p:=(k,y)) e
 |p::r,hn=>by
  rw[W9];have hk:¬p.1=k:=fun z=>by rw[Kf z]at hn;cases hn
  rw[Ke hk]at hn;have ih:=Eh k j y r hn;by_cases e:p.1=j
  ·rw[Kf e,Kf e,Yx (fun z=>hk (e.trans z))]
  ·rw[Ke e,Ke e,ih]
def Tc(kvs:List (κ×V))(k j:κ)(y:V):valV (putK kvs k y) j=if j=k then some y else valV kvs j:=by
 unfold putK;by_cases a:(kvs.any fun kv=>decide (kv.1=k))=true
 ·rw[Yz a,Ez];rw[Nh]at a;by_cases e:j=k
  ·obtain⟨x,hx⟩:=Option.isSome_iff_exists.mp a;rw[Yz e,e,hx,Vn,Yz rfl]
  ·rw[Yx e];cases valV kvs j with
   |none=>rfl
   |some x=>rw[Vn,Yx e]
 ·rw[Yx a];refine Eh k j y kvs ?_;rw[Nh]at a;cases q:valV kvs k with
  |none=>rfl
  |some x=>rw[q]at a;exact(a rfl).elim
def Nj(kvs:List (κ×V))(k:κ)(v:V):(putK kvs k v).length<=kvs.length+1:=by
 unfold putK;split
 ·rw[Yu];omega
 ·rw[Y4,YF,List.length_nil];omega
def Zdh{kvs:List (κ×V)}{k:κ}(v:V)(h:valV kvs k=none):putK kvs k v=kvs++[(k,v)]:=by
 unfold putK;rw[Nh,h];exact Yx (by decide)
def RelO.isSome_eq {o:Option V}{u:Option Value} (r:RelO o u):o.isSome=u.isSome:=by
 cases o with
 |none=>cases u with
  |none=>rfl
  |some _=>exact(show False from r).elim
 |some _=>cases u with
  |none=>exact(show False from r).elim
  |some _=>rfl
def KV.val {kvs:List (κ×V)}{vs:List (κ×Value)} (r:KV kvs vs) (k:κ):RelO (valV kvs k) (valueAt vs k):=by
 unfold KV at r
 induction r with
 |nil=>exact True.intro
 | @cons p q ps qs h t ih=>
  obtain⟨h1,h2⟩:=h;by_cases e:p.1=k
  ·have e':q.1=k:=h1.symm.trans e;have b:valueAt (q::qs) k=some q.2:=by simp[valueAt,Qx,e']
   rw[Kf e,b];exact h2
  ·have e':¬q.1=k:=fun z=>e (h1.trans z);have b:valueAt (q::qs) k=valueAt qs k:=by simp[valueAt,Qx,e']
   rw[Ke e,b];exact ih
def KV.any {kvs:List (κ×V)}{vs:List (κ×Value)} (r:KV kvs vs) (k:κ):(kvs.any fun kv=>decide (kv.1=k))=vs.any fun kv=>decide (kv.1=k):=by
 unfold KV at r
 induction r with
 |nil=>rfl
 |cons h t ih=>rw[Qv,Qv,ih,h.1]
def KV.repl {kvs:List (κ×V)}{vs:List (κ×Value)} (r:KV kvs vs) (k:κ) {y:V}{u:Value} (ry:RelV y u) :
  KV (kvs.map fun kv=>if kv.1=k then(kv.1,y)else kv) (vs.map fun kv=>if kv.1=k then(kv.1,u)else kv):=by
 unfold KV at r ⊢
 induction r with
 |nil=>exact .nil
 | @cons p q ps qs h t ih=>
  rw[YC,YC];refine .cons ?_ ih;obtain⟨h1,h2⟩:=h;by_cases e:p.1=k
  ·rw[Yz e,Yz (h1.symm.trans e)];exact⟨h1,ry⟩
  ·rw[Yx e,Yx (fun z=>e (h1.trans z))];exact⟨h1,h2⟩
def KV.put {kvs:List (κ×V)}{vs:List (κ×Value)} (r:KV kvs vs) (k:κ) {y:V}{u:Value} (ry:RelV y u):KV (putK kvs k y) (stored vs k u):=by
 unfold putK stored;rw[r.any k];by_cases e:(vs.any fun kv=>decide (kv.1=k))=true
 ·rw[Yz e,Yz e];exact r.repl k ry
 ·rw[Yx e,Yx e];exact Paired.snoc r ⟨rfl,ry⟩
def KV.length {kvs:List (κ×V)}{vs:List (κ×Value)} (r:KV kvs vs):kvs.length=vs.length:=Paired.length r
end
def N8{P:Program}{w:World}{k:Key}{u:Value}(r:RelV (kV k) u):(XO P w).is k u=true:=by
 cases k with
 |inl i=>obtain⟨t,e⟩:=(show ∃t,u=Value.int i t from r);subst e;exact Zfr P w i t
 |inr x=>obtain⟨t,e⟩:=(show ∃t,u=Value.str x t from r);subst e;exact Zc8 P w x t
def CG{P:Program}{w:World}:∀{ks:List Key}{us:List Value},Vals (ks.map kV) us->ItemsAre (XO P w) ks us
 |[],_,r=>by rw[VD]at r;cases r;exact .nil
 |k::ks,_,r=>by
  rw[YC]at r;cases r with
  |cons h t=>exact .cons (N8 h) (CG t)
abbrev KT(H:Hp):List (List Key×V)->List (List Key×Addr×Value)->Prop:=Paired fun p q=>p.1=q.1/\H q.2.1=some (.tup (p.1.map kV))/\RelV p.2 q.2.2
def KT.val {H:Hp}{kvs:List (List Key×V)}{xs:List (List Key×Addr×Value)} (r:KT H kvs xs) (k:List Key):RelO (valV kvs k) ((atKey xs k).map (·.2)):=by
 induction r with
 |nil=>exact True.intro
 | @cons p q ps qs h t ih=>
  obtain⟨h1,_,h2⟩:=h;by_cases e:p.1=k
  ·have e':q.1=k:=h1.symm.trans e;have b:atKey (q::qs) k=some q.2:=by simp[atKey,Qx,e']
   rw[Kf e,b];exact h2
  ·have e':¬q.1=k:=fun z=>e (h1.trans z);have b:atKey (q::qs) k=atKey qs k:=by simp[atKey,Qx,e']
   rw[Ke e,b];exact ih
def KT.repl {H:Hp}{kvs:List (List Key×V)}{xs:List (List Key×Addr×Value)} (r:KT H kvs xs) (k:List Key) {y:V}{u:Value} (ry:RelV y u) :
  KT H (kvs.map fun kv=>if kv.1=k then(kv.1,y)else kv) (xs.map (putAt k u)):=by
 induction r with
 |nil=>exact .nil
 | @cons p q ps qs h t ih=>
  rw[YC,YC];refine .cons ?_ ih;obtain⟨h1,h2,h3⟩:=h;unfold putAt;by_cases e:p.1=k
  ·rw[Yz e,Yz (h1.symm.trans e)];exact⟨h1,h2,ry⟩
  ·rw[Yx e,Yx (fun z=>e (h1.trans z))];exact⟨h1,h2,h3⟩
def KT.put {H:Hp}{kvs:List (List Key×V)}{xs:List (List Key×Addr×Value)} (r:KT H kvs xs) (k:List Key) {b:Addr}{y:V}{u:Value} (hb:H b=some (.tup (k.map kV))) (ry:RelV y u) :
  KT H (putK kvs k y) (storedH xs k b u):=by
 have e:(kvs.any fun kv=>decide (kv.1=k))=(atKey xs k).isSome:=by
  rw[Nh,(r.val k).isSome_eq,V7]
 unfold putK storedH;rw[e];by_cases q:(atKey xs k).isSome=true
 ·rw[Yz q,Yz q];exact r.repl k ry
 ·rw[Yx q,Yx q];exact Paired.snoc r ⟨rfl,hb,ry⟩
def KT.keeps {H H':Hp}{kvs:List (List Key×V)}{xs:List (List Key×Addr×Value)} (r:KT H kvs xs) (ht:∀b ys,H b=some (.tup ys)->H' b=some (.tup ys)):KT H' kvs xs:=
 Paired.mapP r fun _ _ z=>⟨z.1,ht _ _ z.2.1,z.2.2⟩
section
variable {P:Program}{w:World}{H:Hp}{h:Heap}{a:Addr}
def G1{u:HO}(ok:HOk P w H h)(e:Rd H a u):ObjOk P w H h a u:=e.ok ok
def TY{kvs:List (Key×V)}(ok:HOk P w H h)(e:Rd H a (.dK kvs)):kvs.length<=sizeLine/\(a==sysModules)=false/\∃vs,KV kvs vs/\h.DictOf (XO P w) a vs:=
 show ObjOk P w H h a (.dK kvs)from G1 ok e
def RS{kvs:List (Key×V)}(ok:HOk P w H h)(e:H a=some (.dK kvs)):kvs.length<=sizeLine/\(a==sysModules)=false/\∃vs,KV kvs vs/\h.DictOf (XO P w) a vs:=TY ok (.inl e)
def PR{ks:List Key}(ok:HOk P w H h)(e:H a=some (.tup (ks.map kV))):(tupleKind (XO P w)).is h ks a:=by
 obtain⟨_,its,r,o,h1,h2,n,h3⟩:=(show ObjOk P w H h a (.tup (ks.map kV))from ok a _ e)
 exact⟨o,its.toArray,n,h1,h2,h3,by simpa using CG r⟩
def TK{kvs:List (List Key×V)}(ok:HOk P w H h)(e:Rd H a (.dT kvs)):kvs.length<=sizeLine/\(a==sysModules)=false/\
  ∃xs,KT H kvs xs/\h.DictOfH (tupleKind (XO P w)) a xs:=by
 obtain⟨z,y,xs,r,o,es,ep,h1,h2,h3,h4,h5⟩:=(show ObjOk P w H h a (.dT kvs)from G1 ok e)
 refine⟨z,y,xs,r,o,es,ep,h1,h2,h3,h4,fun x hx=>?_,h5⟩
 have all:∀{l:List (List Key×V)} {m:List (List Key×Addr×Value)},KT H l m->∀x∈m,(tupleKind (XO P w)).is h x.1 x.2.1:=by
  intro l m q
  induction q with
  |nil=>intro x hx;exact nomatch hx
  | @cons p q ps qs hq t ih=>
   intro x hx;rcases YA.mp hx with e|hx
   ·subst e;exact PR ok (by rw[←hq.1];exact hq.2.1)
   ·exact ih x hx
 exact all r x hx
def SC{kvs:List (List Key×V)}(ok:HOk P w H h)(e:H a=some (.dT kvs)):kvs.length<=sizeLine/\(a==sysModules)=false/\
  ∃xs,KT H kvs xs/\h.DictOfH (tupleKind (XO P w)) a xs:=TK ok (.inl e)
end
def DGet(H:Hp)(a:Addr)(y:V)(r:Option V):Prop:=
 (∃kvs k,Rd H a (.dK kvs)/\y=kV k/\r=valV kvs k)\/∃kvs k b,Rd H a (.dT kvs)/\y=.ref b/\H b=some (.tup (k.map kV))/\r=valV kvs k
def DPut(H:Hp)(a:Addr)(y v:V)(H':Hp):Prop:=
 (∃kvs k,H a=some (.dK kvs)/\y=kV k/\kvs.length<sizeLine/\H'=upd H a (.dK (putK kvs k v)))\/
 ∃kvs k b,H a=some (.dT kvs)/\y=.ref b/\H b=some (.tup (k.map kV))/\kvs.length<sizeLine/\H'=upd H a (.dT (putK kvs k v))
def DGet.k {H:Hp}{a:Addr}{kvs:List (Key×V)}{k:Key} (e:H a=some (.dK kvs)):DGet H a (kV k) (valV kvs k):=.inl ⟨kvs,k,.inl e,rfl,rfl⟩
def DGet.t {H:Hp}{a b:Addr}{kvs:List (List Key×V)}{k:List Key} (e:H a=some (.dT kvs)) (eb:H b=some (.tup (k.map kV))):DGet H a (.ref b) (valV kvs k):=.inr ⟨kvs,k,b,.inl e,rfl,eb,rfl⟩
def DPut.k {H:Hp}{a:Addr}{kvs:List (Key×V)}{k:Key}{v:V} (e:H a=some (.dK kvs)) (hl:kvs.length<sizeLine):DPut H a (kV k) v (upd H a (.dK (putK kvs k v))):=.inl ⟨kvs,k,e,rfl,hl,rfl⟩
def DPut.t {H:Hp}{a b:Addr}{kvs:List (List Key×V)}{k:List Key}{v:V} (e:H a=some (.dT kvs)) (eb:H b=some (.tup (k.map kV))) (hl:kvs.length<sizeLine) :
  DPut H a (.ref b) v (upd H a (.dT (putK kvs k v))):=.inr ⟨kvs,k,b,e,rfl,eb,hl,rfl⟩
section
variable {X:Cx}{pins:List (Addr×Obj)}{σ:St}{H:Hp}{s:Shared}{a:Addr}{y v:V}{u r:Value}{o:Option V}{A:Around}{E:Value->Shared->Prop}
def Inv.big (I:Inv X pins σ H s):sysModules<s.heap.objs.size:=by
 have h:mainGlobals<s.heap.objs.size:=(I.mod.glob.keeps I.bk).lt;exact Q6 (by decide) h
def Zcu{Q:Value->Shared->Prop}(hu:A.units+1<cLine)(I:Inv X pins σ H s)(g:DGet H a y (some v))(ry:RelV y u)(h:∀w' s',Inv X pins σ H s'->RelV v w'->Q w' s') :
  wpAny (model X.prog X.w) A (getItem (.ref a) u) Q E s:=by
 rcases g with⟨kvs,k,e,ey,l⟩|⟨kvs,k,b,e,ey,eb,l⟩
 ·subst ey;obtain⟨z,hd,vs,rel,dd⟩:=TY I.hok e;obtain⟨w',hw,rw'⟩:=RelO.some_of (v:=v) (o:=valueAt vs k) (by rw[l];exact rel.val k);exact wpAny_getItem_of (N8 ry) dd.mapOf hw (h w' _ (I.tok _) rw')
 ·subst ey;cases (show u=Value.ref b from ry)
  obtain⟨z,hd,xs,rel,dd⟩:=TK I.hok e;obtain⟨w',hw,rw'⟩:=RelO.some_of (v:=v) (o:=(atKey xs k).map (·.2)) (by rw[l];exact rel.val k);obtain⟨p,hp,hp2⟩:=Option.map_eq_some_iff.mp hw;refine wpAny_getItem_heap (QG hu) (PR I.hok eb) dd hp ?_;rw[hp2];exact h w' _ (I.tok _) rw'
def d_in{Q:Value->Shared->Prop}(hu:A.units+1<cLine)(I:Inv X pins σ H s)(g:DGet H a y o)(ry:RelV y u)(h:∀s',Inv X pins σ H s'->Q (.bool o.isSome) s') :
  wpAny (model X.prog X.w) A (compareOp .In u (.ref a)) Q E s:=by
 rcases g with⟨kvs,k,e,ey,l⟩|⟨kvs,k,b,e,ey,eb,l⟩
 ·subst ey;obtain⟨z,hd,vs,rel,dd⟩:=TY I.hok e;refine wpAny_in_of (N8 ry) hd dd.mapOf ?_;rw[←(rel.val k).isSome_eq,←l];exact h _ (I.tok _)
 ·subst ey;cases (show u=Value.ref b from ry)
  obtain⟨z,hd,xs,rel,dd⟩:=TK I.hok e;refine wpAny_in_heap (QG hu) (PR I.hok eb) hd dd ?_;have q:=(rel.val k).isSome_eq;rw[V7]at q;rw[←q,←l];exact h _ (I.tok _)
def Zgi{Q:Value->Shared->Prop}(hu:A.units+1<cLine)(I:Inv X pins σ H s)(g:DGet H a y o)(ry:RelV y u)(h:∀s',Inv X pins σ H s'->Q (.bool (!o.isSome)) s') :
  wpAny (model X.prog X.w) A (compareOp .NotIn u (.ref a)) Q E s:=by
 rcases g with⟨kvs,k,e,ey,l⟩|⟨kvs,k,b,e,ey,eb,l⟩
 ·subst ey;obtain⟨z,hd,vs,rel,dd⟩:=TY I.hok e;refine wpAny_notIn_of (N8 ry) hd dd.mapOf ?_;rw[←(rel.val k).isSome_eq,←l];exact h _ (I.tok _)
 ·subst ey;cases (show u=Value.ref b from ry)
  obtain⟨z,hd,xs,rel,dd⟩:=TK I.hok e;refine wpAny_notIn_heap (QG hu) (PR I.hok eb) hd dd ?_;have q:=(rel.val k).isSome_eq;rw[V7]at q;rw[←q,←l];exact h _ (I.tok _)
def FX{h':Heap}{t':Nat}{ob:HO}(I:Inv X pins σ H s)(mu:Mut (H a))(hs:Heap.SameBut a s.heap h')(he:∃q,h'.get? a=some q)(new:ObjOk X.prog X.w (upd H a ob) h' a ob) :
  Inv X pins σ (upd H a ob) {s with heap:=h',toks:=t'}:=
 I.write (x:=a) (e:=a) mu (.inl rfl) (fun b q hb z=>(hs.2 b hb).trans z) he new
def ML{P:Program}{w:World}{H':Hp}{h':Heap}{kvs:List (Key×V)}{vs:List (Key×Value)}(z:kvs.length<=sizeLine)(hd:(a==sysModules)=false)(rel:KV kvs vs)(dd:h'.DictOf (XO P w) a vs) :
  ObjOk P w H' h' a (.dK kvs):=⟨z,hd,vs,rel,dd⟩
def Rw{H':Hp}{Q:Unit->Shared->Prop}(hu:A.units+1<cLine)(I:Inv X pins σ H s)(g:DPut H a y v H')(ry:RelV y u)(rv:RelV v r)(h:∀s',Inv X pins σ H' s'->Q () s') :
  wpAny (model X.prog X.w) A (setItem (.ref a) u r) Q E s:=by
 rcases g with⟨kvs,k,e,ey,l,eH⟩|⟨kvs,k,b,e,ey,eb,l,eH⟩
 ·subst ey eH;obtain⟨z,hd,vs,rel,dd⟩:=RS I.hok e;have hz:vs.length<=sizeLine:=by rw[←rel.length];exact z
  have hl:(putK kvs k v).length<=sizeLine:=by have:=Nj kvs k v;omega
  refine wpAny_setItem_pairs (hsz:=hz) (N8 ry) dd fun h' dd' hs=>h _ ?_;have he:∃q,h'.get? a=some q:=let ⟨q,_,_,hq,_⟩:=dd';⟨q,hq⟩;exact FX I (by rw[e];exact True.intro) hs he (ML hl hd (rel.put k rv) dd')
 ·subst ey eH;cases (show u=Value.ref b from ry)
  obtain⟨z,hd,xs,rel,dd⟩:=SC I.hok e;have hz:xs.length<=sizeLine:=by rw[←Paired.length rel];exact z
  have hl:(putK kvs k v).length<=sizeLine:=by have:=Nj kvs k v;omega
  refine wpAny_setItem_heap (hsz:=hz) (QG hu) (PR I.hok eb) dd fun h' dd' hs=>h _ ?_;obtain⟨q,es,ep,hq,h2,h3,h4,_,h5⟩:=dd';refine FX I (by rw[e];exact True.intro) hs ⟨q,hq⟩ ⟨hl,hd,_,(rel.put k eb rv).keeps fun c ys ec=>?_,q,es,ep,hq,h2,h3,h4,h5⟩;rw[Uv (Gu ec e (fun z=>nomatch z))];exact ec
end
def NoSl(i:Expr):Prop:=∀ov iv,subscripted i false ov iv=operate [ov,iv] (getItem ov iv)
def Zft{prog:Program}{w:World}{A:Around}{E:Value->Shared->Prop}{s:Shared}{env:Env}{value slice:Expr}{pos:Pos}{T id:String}{Q:Value->Shared->Prop}(hl:typeLookup (.type T) "__getitem__"=pure (some (.builtin id)))(hs:NoSl slice)(h:wpAny (model prog w) A (eval value env) (fun o s₁=>wpAny (model prog w) A (eval slice env) (fun i s₂=>s₂.TypeIs o T/\wpAny (model prog w) A (getItem o i) Q E s₂) E s₁) E s) :
  wpAny (model prog w) A (eval (.Subscript value slice pos) env) Q E s:=by
 refine Subscript_ (Wx h (fun o s₁ h₁=>Wx h₁ (fun i s₂ h₂=>?_) fun _ _ x=>x) fun _ _ x=>x);obtain⟨hT,h₂⟩:=h₂;unfold subscriptTail;refine Yv ?_;rw[getitemInPython_of_ne hT.not_modules];refine Yv (wpAny_specialOf hT hl ?_)
 have fin:wpAny (model prog w) A (subscripted slice false o i) (fun r s₃=>wpAny (model prog w) A (letTemporaryGo value o r >>= fun _=>pure r) Q E s₃) E s₂:=by
  rw[hs o i];exact wpAny_operating (Wx h₂ (fun r s₃ h₃=>Yv (wpAny_letTemporaryGo (Y2 h₃))) fun _ _ x=>x)
 first
  |exact Y2 (Yv fin)
  |exact Yv (Y2 (Yv fin))
  |exact Yv fin
def Zc6{X:Cx}{pins:List (Addr×Obj)}{σ:St}{H:Hp}{s:Shared}{a:Addr}{y:V}{o:Option V}(I:Inv X pins σ H s)(g:DGet H a y o):s.TypeIs (.ref a) "dict":=by
 rcases g with⟨kvs,k,e,_,_⟩|⟨kvs,k,b,e,_,_,_⟩
 ·obtain⟨_,_,vs,_,dd⟩:=TY I.hok e;exact dd.typeIs
 ·obtain⟨_,_,xs,_,dd⟩:=TK I.hok e;exact dd.typeIs
def DB(td ty:TE):TE:=fun σ H Q=>td σ H fun x H1=>ty σ H1 fun y H2=>∃a v,x=.ref a/\DGet H2 a y (some v)/\Q v H2
def tDIn(ty td:TE):TE:=fun σ H Q=>ty σ H fun y H1=>td σ H1 fun x H2=>∃a o,x=.ref a/\DGet H2 a y o/\Q (.bl o.isSome) H2
def Dk(ty td:TE):TE:=fun σ H Q=>ty σ H fun y H1=>td σ H1 fun x H2=>∃a o,x=.ref a/\DGet H2 a y o/\Q (.bl (!o.isSome)) H2
def E8(td ty tv:TE):TS:=fun D σ H=>tv σ H fun v H1=>td σ H1 fun x H2=>ty σ H2 fun y H3=>∃a H4,x=.ref a/\DPut H3 a y v H4/\D.nx σ H4
section
variable {X:Cx}{o i e value:Expr}{pos pos' tpos:Pos}{td ty tv:TE}
def N6(hu:X.A.units+1<cLine)(ho:PE X o td)(hi:PE X i ty)(hs:NoSl i):PE X (.Subscript o i pos) (DB td ty):=by
 intro pins s σ H Q I h;refine Zft PySem.F.slot_dict_getitem.lookup hs (thn (ho pins s σ H _ I h) fun u s1 ⟨x,H1,I1,rx,q1⟩=>thn (hi pins s1 σ H1 _ I1 q1) fun iv s2 ⟨y,H2,I2,ry,a,v,ex,g,q2⟩=>?_);subst ex;obtain rfl:u=Value.ref a:=rx;exact⟨Zc6 I2 g,Zcu hu I2 g ry fun w' s3 I3 rw'=>⟨v,H2,I3,rw',q2⟩⟩
def OJ(hu:X.A.units+1<cLine)(hi:PE X i ty)(ho:PE X o td):PC X .In i o (tDIn ty td):=by
 intro pins s σ H Q I h;refine thn (hi pins s σ H _ I h) fun iv s1 ⟨y,H1,I1,ry,q1⟩=>thn (ho pins s1 σ H1 _ I1 q1) fun u s2 ⟨x,H2,I2,rx,a,ov,ex,g,q2⟩=>?_;subst ex;obtain rfl:u=Value.ref a:=rx;exact d_in hu I2 g ry fun s3 I3=>⟨.bl ov.isSome,H2,I3,rfl,q2⟩
def MU(hu:X.A.units+1<cLine)(hi:PE X i ty)(ho:PE X o td):PC X .NotIn i o (Dk ty td):=by
 intro pins s σ H Q I h;refine thn (hi pins s σ H _ I h) fun iv s1 ⟨y,H1,I1,ry,q1⟩=>thn (ho pins s1 σ H1 _ I1 q1) fun u s2 ⟨x,H2,I2,rx,a,ov,ex,g,q2⟩=>?_;subst ex;obtain rfl:u=Value.ref a:=rx;exact Zgi hu I2 g ry fun s3 I3=>⟨.bl (!ov.isSome),H2,I3,rfl,q2⟩
def Su(hu:X.A.units+1<cLine)(ho:PE X o td)(hi:PE X i ty)(hv:PE X value tv)(hs:swapsWith value (some (.Subscript o i pos')) pos.line X.env=pure false) :
  PS X (.Assign [.Subscript o i pos'] value pos) (E8 td ty tv):=by
 intro pins s σ H D I h;refine wpAny_Assign_Subscript (thn (hv pins s σ H _ I h) fun r s1 ⟨v,H1,I1,rv,q1⟩=>thn (ho pins s1 σ H1 _ I1 q1) fun u s2 ⟨x,H2,I2,rx,q2⟩=>thn (hi pins s2 σ H2 _ I2 q2) fun iv s3 ⟨y,H3,I3,ry,a,H4,ex,g,q3⟩=>?_) hs;subst ex;obtain rfl:u=Value.ref a:=rx;exact Rw hu I3 g ry rv fun s4 I4=>⟨σ,H4,I4,q3⟩
end
def Zg0{P:Program}{w:World}{H:Hp}(h:Heap)(hb:sysModules<h.objs.size):ObjOk P w H (h.push {cls:=.type "dict",data:=.dict #[]}) h.objs.size (.dK []):=
 ⟨WA _,WJ.mpr (Ne.symm (YT hb)),[],.nil,Heap.DictOf.new h⟩
def Ef{P:Program}{w:World}{H:Hp}(h:Heap)(hb:sysModules<h.objs.size):ObjOk P w H (h.push {cls:=.type "dict",data:=.dict #[]}) h.objs.size (.dT []):=
 ⟨WA _,WJ.mpr (Ne.symm (YT hb)),[],.nil,_,#[],0,YE _ rfl,⟨rfl,rfl,rfl⟩,rfl,rfl,Qq⟩
def Cn:TE:=fun _ H Q=>∀p,H p=none->Q (.ref p) (upd H p (.dK []))
def ET:TE:=fun _ H Q=>∀p,H p=none->Q (.ref p) (upd H p (.dT []))
section
variable {X:Cx}{pos:Pos}
def Zf4:PE X (.Dict [] [] pos) Cn:=fun pins s σ H Q I h=>
 wpAny_Dict_empty ⟨.ref s.heap.objs.size,_,I.laid (a:=s.heap.objs.size) (o:=.dK []) (t':=s.toks) (fun _ _ q=>Y1 _ q) (Y3 _) (Zg0 s.heap I.big),rfl,h _ (I.hok.fresh (Y3 _))⟩
def Gc:PE X (.Dict [] [] pos) ET:=fun pins s σ H Q I h=>
 wpAny_Dict_empty ⟨.ref s.heap.objs.size,_,I.laid (a:=s.heap.objs.size) (o:=.dT []) (t':=s.toks) (fun _ _ q=>Y1 _ q) (Y3 _) (Ef s.heap I.big),rfl,h _ (I.hok.fresh (Y3 _))⟩
end
def Gb:List (TE×TE)->St->Hp->(List (V×V)->Hp->Prop)->Prop
 |[],_,H,Q=>Q [] H
 |(tk,tv)::r,σ,H,Q=>tk σ H fun x H1=>tv σ H1 fun y H2=>Gb r σ H2 fun ps H3=>Q ((x,y)::ps) H3
abbrev VV:List (V×V)->List (Value×Value)->Prop:=Paired fun p q=>RelV p.1 q.1/\RelV p.2 q.2
def PPs(X:Cx)(pos:Pos)(keys:List (Option Expr))(values:List Expr)(trs:List (TE×TE)):Prop:=
 ∀(pins:List (Addr×Obj)) (s:Shared) (σ:St) (H:Hp) (Q:List (V×V)->Hp->Prop),Inv X pins σ H s->Gb trs σ H Q->
  wpAny (model X.prog X.w) X.A (evalPairs (pairTrees keys values X.env pos)) (fun vs s'=>∃ps H',Inv X pins σ H' s'/\VV ps vs/\Q ps H') X.xe s
def RZ{X:Cx}{pos:Pos}:PPs X pos [] [] []:=fun pins s σ H Q I h=>pairTrees_nil_walk ⟨[],H,I,.nil,h⟩
def Mw{X:Cx}{pos:Pos}{k v:Expr}{ks:List (Option Expr)}{vs:List Expr}{tk tv:TE}{trs:List (TE×TE)}(hk:PE X k tk)(hv:PE X v tv)(hr:PPs X pos ks vs trs) :
  PPs X pos (some k::ks) (v::vs) ((tk,tv)::trs):=fun pins s σ H Q I h=>
 pairTrees_cons_walk (thn (hk pins s σ H _ I h) fun u s1 ⟨x,H1,I1,rx,q1⟩=>thn (hv pins s1 σ H1 _ I1 q1) fun w2 s2 ⟨y,H2,I2,ry,q2⟩=>
  thn (hr pins s2 σ H2 _ I2 q2) fun ws s3 ⟨ps,H3,I3,rel,q3⟩=>⟨(x,y)::ps,H3,I3,.cons ⟨rx,ry⟩ rel,q3⟩)
end L2
set_option genInjectivity false
set_option genSizeOfSpec false
namespace Own
open PySem PySem.Spec PyProof.Rows L2
structure Def (K:Za) (mg:Str->Option Value) (x:Str) (st:Stmt) (ps:List Str):Prop where
 ex:∃f fd,Fun K x x st f fd/\mg x=some (.ref f)/\Binds K fd ps []
structure Callee (P:Program) (w:World) (K:Za) (mg:Str->Option Value) (base:Heap) (CX:CXT) (k:Nat) (x:Str) (ps:List Str) (sp:Sp):Prop where
 ex:∃f fd,FnOk P w K mg base CX k f fd ps sp/\mg x=some (.ref f)/\PySem.W.keepIn K (.ref f)=true/\(∃o:Obj,K.lookup f=some o/\o.data=.func fd)/\Binds K fd ps []
section
variable {P:Program}{w:World}{K:Za}{mg:Str->Option Value}{base:Heap}
def Callee.at {CX:CXT}{x:Str}{st:Stmt}{f:Addr}{fd:FuncData}{k:Nat}{ps:List Str}{sp:Sp} (C:Callee P w K mg base CX k x ps sp) (hm:mg x=some (.ref f)) (F:Fun K x x st f fd) (_:Def K mg x st ps):FnOk P w K mg base CX k f fd ps sp:=by
 obtain⟨f',fd',Fo,hm',_,hl,_⟩:=C.ex;rw[hm]at hm';cases hm'
 obtain⟨oc,od,kV,doc,pm,an,cdv,ct,osl,_,lk,_⟩:=F.ex;obtain⟨o',lk',hd'⟩:=hl;rw[lk]at lk';cases lk'
 cases hd'
 exact Fo
def Def.ok {x:Str}{st:Stmt}{N ps:List Str}{k:Nat}{sp:Sp} (D:Def K mg x st ps) (S:FnScope N ps (JV st)) (len:∀vs H Q E,sp vs H Q E->vs.length=ps.length)
  (hbody:∀(f:Addr) (cdv:Value) (A:Around) (outer:List Env) (s:Shared) (H:Hp) (vs:List V) (Q:VK) (E:XK),Room k (A.deeper (envOfC x (JV st) s.heap.objs.size f cdv))->sp vs H Q E->
   ∃t,PSs (cxOf CX0 P w K mg base N x (JV st) f cdv A outer s H E).nox (Xl st) t/\t {nx:=fun _ H'=>Q .non H',rt:=Q} (start N vs) H):Callee P w K mg base CX0 (k+1) x ps sp:=by
 obtain⟨f,fd,F,hm,hb⟩:=D.ex;refine⟨f,fd,F.ok S len fun cdv A outer s H vs Q E hr h=>hbody f cdv A outer s H vs Q E hr h,hm,F.kp,?_,hb⟩;obtain⟨oc,od,kV,doc,pm,an,cdv,ct,osl,_,lk,_⟩:=F.ex;exact⟨_,lk,rfl⟩
end
section
variable {X:Cx}{CX:CXT}{k:Nat}{ps:List Str}{sp:Sp}{E:XK}{x:Str}{p pos:Pos}{e:Expr}{es:List Expr}{t:TA}
def Xk(C:Callee X.prog X.w X.K X.mg X.base CX k x ps sp)(hr:Room k X.A)(hx:Kc CX X E)(ha:PA X (e::es) t)(hg:Gl X x:=by rfl)(hdb:(x==("__debug__" : Str))=false:=by decide)(he:starEach (e::es) X.env=(false,eval e X.env)::starEach es X.env:=by rfl)(hpl:(backTo pos (starEach es X.env)).any (·.1)=false:=by rfl) :
  PE X (.Call (.Name x p) (e::es) [] pos) (Ph sp [] E t):=by
 obtain⟨f,fd,F,hm,hk,_,hb⟩:=C.ex;exact MS F hr hg hm hk hb .nil hx ha hdb he hpl
def MH:Xd X (.builtin "isinstance") (fun xs H Q=>∃x n t b,xs=[x,.ty n]/\TyOf X.K H x t/\PySem.W.kitOne X.K t (.type n)=some b/\Q (.bl b) H):=by
 intro pins s σ H xs us Q I rv h;obtain⟨x,n,t,b,rfl,ty,e,q⟩:=h;cases rv with
 |cons r rr=>
  cases rr with
  |cons r' rr'=>
   cases rr'
   obtain rfl:_=Value.type n:=r';exact Zgq I r ty e fun tk=>⟨.bl b,H,I.tok tk,rfl,q⟩
def O6:IxR X (fun x y H Q=>rIxL X.K x y H Q\/rIxT X.K x y H Q):=ix_list.or Lb
end
def Gv(t u:TS):TS:=fun D σ H=>∃J:L2.St->Hp->Prop,t {D with nx:=J} σ H/\∀σ' H',J σ' H'->u D σ' H'
def Nx{X:Cx}{st:Stmt}{rest:List Stmt}{t u:TS}(h1:PS X st t)(h2:PSs X rest u):PSs X (st::rest) (Gv t u):=by
 intro pins s σ H D I h;obtain⟨J,h,k⟩:=h;refine wpAny_execs_cons (thn (h1 pins s σ H {D with nx:=J} I h) fun f s1 q=>?_)
 cases f with
 |next=>
  obtain⟨σ',H',I',q⟩:=q;exact h2 pins s1 σ' H' D I' (k σ' H' q)
 |ret v=>exact q
 |brk=>exact q
 |cont=>exact q
def Zel(K:Za)(n:String):PySem.W.kitOne K (.type n) (.type n)=some true:=by
 unfold PySem.W.kitOne;rw[Yz (by simp)]
def K6{α β:Type}{f:α->β}{xs:List α}{i:Int}{v:α}(h:atI xs i=some v):atI (xs.map f) i=some (f v):=by
 unfold atI at h ⊢;rw[Yu];cases e:ixN xs.length i with
 |none=>rw[e]at h;cases h
 |some j=>
  rw[e]at h;have h':xs[j]?=some v:=h;show(xs.map f)[j]?=some (f v);rw[Y6,h'];rfl
def TR{α:Type}{xs:List α}{i:Int}{v:α}(h0:0<=i)(h:xs[i.toNat]?=some v):atI xs i=some v:=by
 have e:((i.toNat:Nat):Int)=i:=by omega
 have:=T6 h
 rwa[e]at this
def Xe{H:Hp}{a:Addr}{o:HO}(h:H a=none):Same H (upd H a o):=fun b u e=>by rw[Uv (Kb e h)];exact e
def Same.upd {H H':Hp}{a:Addr}{o:HO} (S:Same H H') (h:H a=none):Same H (upd H' a o):=fun b u e=>by rw[Uv (Kb e h)];exact S b u e
def Same.new {H H':Hp}{a:Addr}{o:HO} (S:Same H H') (h:H' a=none):Same H (L2.upd H' a o):=Own.Same.upd S (S.free h)
def Os{env:Env}(names:List (Str×NameKind))(hall:∀x∈names,x.2=.free->∃c,env.cells.lookup x.1=some c):∀cs0:List (Str×Addr),(∀x c,cs0.lookup x=some c->env.cells.lookup x=some c)->
  ∃cl:List (Str×Addr),(forIn names cs0 (fun(x:Str×NameKind) (cs:List (Str×Addr))=>if (x.2 == .free)=true then(do let c ←cellOf env x.1;pure (ForInStep.yield ((x.1,c)::cs)))else pure (ForInStep.yield cs)):Sem (List (Str×Addr)))=pure cl/\
   (∀x c,cl.lookup x=some c->env.cells.lookup x=some c)/\(∀x,(∃c,cs0.lookup x=some c)->∃c,cl.lookup x=some c)/\∀x∈names,x.2=.free->∃c,cl.lookup x.1=some c:=by
 induction names with
 |nil=>
  intro cs0 h0;exact⟨cs0,rfl,h0,fun _ h=>h,fun x hx=>by cases hx⟩
 |cons y r ih=>
  intro cs0 h0;have ih':=ih fun x hx=>hall x (YJ _ hx);obtain⟨n,k⟩:=y;by_cases hk:k=.free
  ·subst hk;obtain⟨c,hc⟩:=hall (n,.free) YO rfl
   have h1:∀x d,List.lookup x ((n,c)::cs0)=some d->env.cells.lookup x=some d:=fun x d e=>by
    rw[W2]at e;by_cases hx:x=n
    ·subst hx;simp at e;subst e;exact hc
    ·have:(x==n)=false:=by simpa using hx
     rw[this]at e;exact h0 x d e
   obtain⟨cl,e,p1,p2,p3⟩:=ih' ((n,c)::cs0) h1;refine⟨cl,?_,p1,fun x hx=>p2 x ?_,fun x hx hf=>?_⟩
   ·rw[Vo];show((if (NameKind.free==NameKind.free)=true then(do let c ←cellOf env n;pure (ForInStep.yield ((n,c)::cs0)))else pure (ForInStep.yield cs0)) >>= _)=_
    rw[Yz (show(NameKind.free==NameKind.free)=true by decide)];have ec:cellOf env n=pure c:=by unfold cellOf;rw[hc]
    rw[ec];exact e
   ·rw[W2];cases (x==n)
    ·exact hx
    ·exact⟨c,rfl⟩
   ·rcases YA.mp hx with rfl|hx
    ·exact p2 n ⟨c,by simp[W2]⟩
    ·exact p3 x hx hf
  ·obtain⟨cl,e,p1,p2,p3⟩:=ih' cs0 h0;refine⟨cl,?_,p1,p2,fun x hx hf=>?_⟩
   ·rw[Vo];have hb:(k==NameKind.free)=false:=by simpa using hk
    show((if (k==NameKind.free)=true then(do let c ←cellOf env n;pure (ForInStep.yield ((n,c)::cs0)))else pure (ForInStep.yield cs0)) >>= _)=_
    rw[Yx (by rw[hb];decide)];exact e
   ·rcases YA.mp hx with rfl|hx
    ·exact absurd hf hk
    ·exact p3 x hx hf
def Zd6{env:Env}{sc:Scope}(hall:∀x∈sc.names,x.2=.free->∃c,env.cells.lookup x.1=some c) :
  ∃cl:List (Str×Addr),closureFor sc env=pure cl/\(∀x c,cl.lookup x=some c->env.cells.lookup x=some c)/\∀x∈sc.names,x.2=.free->∃c,cl.lookup x.1=some c:=by
 obtain⟨cl,e,p1,_,p3⟩:=Os sc.names hall [] (fun x c h=>by cases h);refine⟨cl,?_,p1,p3⟩;unfold closureFor;show((forIn sc.names ([]:List (Str×Addr)) (fun(x:Str×NameKind) (cs:List (Str×Addr))=>if (x.2 == .free)=true then(do let c ←cellOf env x.1;pure (ForInStep.yield ((x.1,c)::cs)))else pure (ForInStep.yield cs)):Sem (List (Str×Addr))) >>= fun cs=>pure cs)=pure cl
 rw[e];rfl
def Xo(X:Cx)(N':List Str)(sc:Scope)(cl:List (Str×Addr))(C:Addr)(s₃:Shared)(H₃:Hp)(ex:List Addr):Cx:=
 {X with N:=N',s₀:=s₃,H₀:=H₃,env:=compEnvC sc cl C X.env,outer:=X.stack,ex:=ex,fn:=fun _=>false,pn:=[],xe:=fun _ _=>False}
structure CompOk (X:Cx) (N':List Str) (φ:List (Option Nat)) (sc:Scope):Prop where
 kind:sc.kind=.function
 okind:X.env.scope.kind=.function
 nocell:∀y∈sc.names,y.2≠.cell
 names:∀y∈sc.names,y.2=.local->sc.names.lookup y.1=some .local
 frees:∀y∈sc.names,y.2=.free->X.env.scope.names.lookup y.1=some .cell
 len:φ.length=N'.length
 pick:∀(i:Nat) (x:Str) (j:Nat),N'[i]?=some x->φ[i]?=some (some j)->X.N[j]?=some x/\sc.names.lookup x=some .free
def atStart(φ:List (Option Nat))(σ:L2.St):L2.St:=φ.map fun o=>o.bind fun j=>(σ[j]?).join
def Sub(σ σ':L2.St):Prop:=σ'.length=σ.length/\∀(i:Nat) (v:V),σ[i]?=some (some v)->σ'[i]?=some (some v)
def Sub.refl {σ:L2.St}:Sub σ σ:=⟨rfl,fun _ _ h=>h⟩
def Sub.skip {σ σ':L2.St}{x:Option V} (h:Sub σ σ'):Sub (none::σ) (x::σ'):=by
 refine⟨by simp[h.1],fun i v e=>?_⟩;cases i with
 |zero=>simp at e
 |succ i=>simp at e ⊢;exact h.2 i v e
def G8{env:Env}(hk:env.scope.kind=.function):∀{names:List (Str×NameKind)}{x:Str},names.lookup x=some .free->env.scope.names.lookup x=some .cell->
  (names.map fun(n,k)=>if (k==NameKind.free&&env.scope.kind == .function&&env.kindOf n==some .cell)then(n,NameKind.cell)else(n,k)).lookup x=some .cell
 |[],_,h,_=>by simp at h
 |(n,k)::r,x,h,hc=>by
  have ih:=@G8 env hk r x;show List.lookup x ((if (k==NameKind.free&&env.scope.kind == .function&&env.kindOf n==some .cell)=true then(n,NameKind.cell)else(n,k))::_)=_;cases hx:x==n with
  |true=>
   simp only[W2,hx]at h;cases h
   have e:x=n:=by simpa using hx
   subst e;have hkk:env.kindOf x=some .cell:=hc;rw[hk,hkk];simp[W2]
  |false=>
   simp only[W2,hx]at h;by_cases hcc:(k==NameKind.free&&env.scope.kind == .function&&env.kindOf n==some .cell)=true
   ·rw[Yz hcc];simp only[W2,hx];exact ih h hc
   ·rw[Yx hcc];simp only[W2,hx];exact ih h hc
def SQ{env:Env}:∀{names:List (Str×NameKind)}{x:Str}{q:NameKind},
  (names.map fun(n,k)=>if (k==NameKind.free&&env.scope.kind == .function&&env.kindOf n==some .cell)then(n,NameKind.cell)else(n,k)).lookup x=some q->∃k,(x,k)∈names/\(q=k\/k=.free)
 |[],_,_,h=>by simp at h
 |(n,k)::r,x,q,h=>by
  have ih:=@SQ env r x q;have h':List.lookup x ((if (k==NameKind.free&&env.scope.kind == .function&&env.kindOf n==some .cell)=true then(n,NameKind.cell)else(n,k))::(r.map fun(n,k)=>if (k==NameKind.free&&env.scope.kind == .function&&env.kindOf n==some .cell)then(n,NameKind.cell)else(n,k)))=some q:=h;cases hx:x==n with
  |true=>
   have e:x=n:=by simpa using hx
   subst e;by_cases hcc:(k==NameKind.free&&env.scope.kind == .function&&env.kindOf x==some .cell)=true
   ·refine⟨k,YO,.inr ?_⟩
    have:=(Wf _ _▸(Wf _ _▸hcc).1).1
    simpa using this
   ·rw[Yx hcc]at h';simp[W2]at h';exact⟨k,YO,.inl h'.symm⟩
  |false=>
   have h2:List.lookup x (r.map fun(n,k)=>if (k==NameKind.free&&env.scope.kind == .function&&env.kindOf n==some .cell)then(n,NameKind.cell)else(n,k))=some q:=by
    by_cases hcc:(k==NameKind.free&&env.scope.kind == .function&&env.kindOf n==some .cell)=true
    ·rw[Yz hcc]at h';simp only[W2,hx]at h';exact h'
    ·rw[Yx hcc]at h';simp only[W2,hx]at h';exact h'
   obtain⟨k',hm,hq⟩:=ih h2;exact⟨k',YJ _ hm,hq⟩
def M1{prog:Program}{w:World}{A:Around}{R:Result->Shared->Prop}{s:Shared}{elt target iter:Expr}{ifs:List Expr}{scope:Scope}{pos:Pos}{it acc:Value}{env:Env}(I:Nat->Shared->Prop)
  (turn:∀n s,I n s->wpAny (model prog w) A (pyNext it) (fun r s₁=>match r with
   |none=>R (.ok .next) s₁
   |some v=>wpAny (model prog w) A (letOwnedTupleGo target it v) (fun _ s₁'=>wpAny (model prog w) A (assign target env v) (fun _ s₂=>
     wpAny (model prog w) A (forIn ifs true fun c r=>if r=true then do let ok ←isTrue c env (eval c env);pure (ForInStep.yield ok)else pure (ForInStep.yield r)) (fun ok s₃=>
      if ok=true then wpAny (model prog w) A (eval elt env) (fun x s₄=>
       wpAny (model prog w) A (call (.builtin "list.append") [acc,x]) (fun _ s₅=>∃m,m<n/\I m s₅) (fun _ _=>False) s₄) (fun _ _=>False) s₃
      else ∃m,m<n/\I m s₃) (fun _ _=>False) s₂) (fun _ _=>False) s₁') (fun _ _=>False) s₁) (fun _ _=>False) s)
  (n:Nat) (h:I n s) :
  codeAny (model prog w) A (.compLoop (.ListComp elt [⟨target,iter,ifs,0⟩] scope pos) 0 it acc env) R s:=by
 refine codeAny_loop rfl I (fun n s hI=>?_) n h;show wpAny _ A ((compTurn (.ListComp elt [⟨target,iter,ifs,0⟩] scope pos) 0 it acc env).onRaise (fun x=>do noteFrame x env;theTreesLotGoes x)) _ _ s
 refine wpAny_noted ?_;rw[compTurn_list];refine Yv (wpAny_standAt (Yv (Wx (turn n s hI) (fun r s₁ h₁=>?_) fun _ _ h'=>h'.elim)));cases r with
 |none=>exact Y2 h₁
 |some v=>
  refine Yv (Wx h₁ (fun _ s₁' h₁'=>?_) fun _ _ h'=>h'.elim);refine Yv (Wx h₁' (fun _ s₂ h₂=>Yv (Wx h₂ (fun ok s₃ h₃=>?_) fun _ _ h'=>h'.elim)) fun _ _ h'=>h'.elim);cases ok with
  |false=>exact Y2 ⟨rfl,h₃⟩
  |true=>
   exact Yv (Yv (Wx h₃ (fun x s₄ h₄=>Yv (Wx h₄ (fun _ s₅ h₅=>Y2 (Y2 ⟨rfl,h₅⟩)) fun _ _ h'=>h'.elim)) fun _ _ h'=>h'.elim))
def PIfs(X:Cx)(ifs:List Expr)(t:TT):Prop:=
 ∀(pins:List (Addr×Obj)) (s:Shared) (σ:L2.St) (H:Hp) (Q:Bool->Hp->Prop),Inv X pins σ H s->t σ H Q->
  wpAny (model X.prog X.w) X.A (forIn ifs true fun c r=>if r=true then do let ok ←isTrue c X.env (eval c X.env);pure (ForInStep.yield ok)else pure (ForInStep.yield r)) (TP X pins σ Q) X.xe s
def HA:TT:=fun _ H Q=>Q true H
def X9{X:Cx}:PIfs X [] HA:=fun _ _ _ H _ I h=>Y2 ⟨H,I,h⟩
def XS{X:Cx}{c:Expr}{t:TT}(hc:PT X c t):PIfs X [c] t:=by
 intro pins s σ H Q I h;rw[Vo];refine Yv ?_;rw[Yz rfl];exact Yv (thn (hc pins s σ H Q I h) fun b s1 q=>Y2 (Y2 q))
def NJ(φ:List (Option Nat))(wi:TI)(g:TG)(tc:TT)(te:TE):TE:=fun σ H Q=>wi σ H fun J H1=>∀D,H1 D=none->∃W:Nat->Nat->List V->Hp->Prop,(∃m,W 0 m [] (upd H1 D (.lst [])))/\
 ∀i m ys H2,W i m ys H2->(J.stop i H2/\Q (.ref D) H2)\/(J.go i H2/\∀x H3,J.yld i H2 x H3->g x (atStart φ σ) H3 fun σ2 H4=>Sub (atStart φ σ) σ2/\tc σ2 H4 fun b H5=>
  if b=true then te σ2 H5 fun y H6=>H6 D=some (.lst ys)/\ys.length<sizeLine/\∃m',m'<m/\W (i+1) m' (ys++[y]) (upd H6 D (.lst (ys++[y])))else ∃m',m'<m/\W (i+1) m' ys H5)
def Inv.weak {X:Cx}{pins:List (Addr×Obj)}{σ σ':L2.St}{H:Hp}{s:Shared} (I:Inv X pins σ' H s) (S:Sub σ σ'):Inv X pins σ H s:=
 ⟨I.ok,I.os,I.bare,I.base,let ⟨m,hn,hl⟩:=I.loc;⟨m,hn,fun i x v h1 h2 h3=>hl i x v h1 (S.2 i v h2) h3⟩,I.cell,I.free,I.freeC,I.pin,I.hok,by rw[←S.1];exact I.len⟩
def Iu{φ:List (Option Nat)}{σ:L2.St}{i:Nat}{v:V}(h:(atStart φ σ)[i]?=some (some v)):∃j,φ[i]?=some (some j)/\σ[j]?=some (some v):=by
 unfold atStart at h;rw[Y6]at h;cases e:φ[i]? with
 |none=>rw[e]at h;cases h
 |some o=>
  rw[e]at h;cases o with
  |none=>simp at h
  |some j=>
   refine⟨j,rfl,?_⟩;simp at h;cases e2:σ[j]? with
   |none=>rw[e2]at h;simp at h
   |some w=>rw[e2]at h;simp at h;rw[h]
def CompEnd(X:Cx)(pins:List (Addr×Obj))(σ:L2.St)(Q:VK)(use:Option (Value->Sem Unit))(QQ:Value->Shared->Prop):Prop:=
 ∀(D C:Addr) (H5:Hp) (s6:Shared),Q (.ref D) H5->Inv X pins σ H5 s6->(∃m,s6.heap.Ns C m)->H5 C=none->C≠X.env.locals->X.s₀.heap.objs.size<=C->(∀x c,X.env.cells.lookup x=some c->c≠C)->(∀p∈X.pn++pins,p.1≠C)->C∉X.fs->
  compPost (model X.prog X.w) X.A X.xe use QQ (.ref D) C (.ok .next) s6
def Iq{X:Cx}{N':List Str}{φ:List (Option Nat)}{sc:Scope}{elt iter tg:Expr}{ifs:List Expr}{pos pos':Pos}{wi:TI}{g:TG}{tc:TT}{te:TE}{use:Option (Value->Sem Unit)}{QQ:Value->Shared->Prop}(hcalm:X.calm=true)(S:CompOk X N' φ sc)(hi:PI X tg iter wi)(hin:∀cl C s₃ H₃ ex,PG (Xo X N' sc cl C s₃ H₃ ex) tg g/\PIfs (Xo X N' sc cl C s₃ H₃ ex) ifs tc/\PE (Xo X N' sc cl C s₃ H₃ ex) elt te)(hs:∀x,foldedSetIterable iter X.env x=pure x){pins:List (Addr×Obj)}{s:Shared}{σ:L2.St}{H:Hp}{Q:VK}(I:Inv X pins σ H s)(h:NJ φ wi g tc te σ H Q)(fin:CompEnd X pins σ Q use QQ) :
  wpAny (model X.prog X.w) X.A (comprehension (.ListComp elt [⟨tg,iter,ifs,0⟩] sc pos) sc X.env pos' (newList []) false (eval iter X.env) use) QQ X.xe s:=by
 obtain⟨cl,hcl,p1,p3⟩:=Zd6 (env:=X.env) (sc:=sc) fun x hx hf=>I.ok.has x.1 (.inl (S.frees x hx hf));refine wpAny_comprehension_free (use:=use) rfl hs hcl S.kind S.names ?_;refine thn (hi pins s σ H _ I h) fun v s1 h1=>thn h1 fun itv s2 h2=>?_;obtain⟨it,fp,tn,J,H2,e,I2,T,st2,f2,hR⟩:=h2;subst e;refine Wt ?_;have hf:H2 s2.heap.objs.size=none:=I2.hok.fresh (Y3 _);obtain⟨W,⟨m0,w0⟩,turn⟩:=hR s2.heap.objs.size hf;generalize eD:s2.heap.objs.size=D at *
 have I3:Inv X pins σ (upd H2 D (.lst [])) {s2 with heap:=s2.heap.push {cls:=.type "list",dict:=none,data:=.seq ([]:List Value).toArray}}:=
  I2.laid (t':=s2.toks) (fun b u e=>Y1 _ e) (WQ eD) ⟨WA _,[],0,.nil,by rw[←eD];exact YE _ rfl⟩
 have st3:tn 0 (s2.heap.push {cls:=.type "list",dict:=none,data:=.seq ([]:List Value).toArray}):=T.keep _ _ _ st2 fun b _ o e=>Y1 _ e
 have hfpD:∀b∈fp,b≠D:=fun b hb z=>by
  obtain⟨o,ho,_⟩:=T.obj _ _ st2 b hb
  have:=YB ho
  rw[z,←eD]at this;exact WD _ this
 have f3:∀b∈fp,FpOk X pins (upd H2 D (.lst [])) b:=fun b hb=>⟨by rw[Uv (hfpD b hb)];exact(f2 b hb).1,(f2 b hb).2⟩;generalize es3:({s2 with heap:=s2.heap.push {cls:=.type "list",dict:=none,data:=.seq ([]:List Value).toArray}}:Shared)=s3 at *
 have st3':tn 0 s3.heap:=by rw[←es3];exact st3
 generalize eH3:upd H2 D (.lst [])=H3 at *;refine wpAny_newFunctionEnv S.nocell (by intro y hy;simp at hy) (fun h₁ hns₁ hsb₁=>?_) S.kind;have hh3:s3.heap=s2.heap.push {cls:=.type "list",dict:=none,data:=.seq ([]:List Value).toArray}:=by rw[←es3]
 rw[hh3]at hns₁ hsb₁;rw[←hh3]at hns₁ hsb₁;have old:∀b o,s3.heap.get? b=some o->h₁.get? b=some o:=fun b o e=>hsb₁.extBut b o (YT (YB e)) (Y1 _ e)
 have hC0:s3.heap.get? s3.heap.objs.size=none:=by
  cases e:s3.heap.get? s3.heap.objs.size with
  |none=>rfl
  |some o=>exact absurd (YB e) (WD _)
 generalize eC:s3.heap.objs.size=C at *;have hH3C:H3 C=none:=I3.hok.fresh (WQ eC)
 have OK:(Xo X N' sc cl C s3 H3 fp).Ok:=by
  refine⟨I.ok.mod,?_,I.ok.glob,I.ok.blt,WQ eC,fun x y c h1 h2=>I.ok.inj x y c (p1 x c h1) (p1 y c h2),?_,(fun x c hx=>by cases hx),I.ok.hd,I.ok.frames,.inl rfl,?_,I3.bs,Y8 I.ok.bsz I3.sz,?_,?_,I3.stack,I3.stkFree⟩
  ·exact S.kind
  ·intro x hx;have hx':(∃k,(x,k)∈sc.names/\(NameKind.cell=k\/k=.free))\/∃k,(x,k)∈sc.names/\(NameKind.free=k\/k=.free):=hx.imp SQ SQ
   have hfr:(x,NameKind.free)∈sc.names:=by
    rcases hx' with⟨k,hm,rfl|rfl⟩|⟨k,hm,rfl|rfl⟩
    ·exact absurd rfl (S.nocell _ hm)
    ·exact hm
    ·exact hm
    ·exact hm
   exact p3 _ hfr rfl
  ·intro b hb;refine⟨fun z=>?_,fun x c hx=>(f3 b hb).2.2.2.2.1 x c (p1 x c hx)⟩;obtain⟨o,ho,_⟩:=T.obj _ _ st3' b hb;have z':b=C:=z;rw[z',hC0]at ho;cases ho
  ·intro b o hb hx;obtain⟨_,_,_,q,_,_⟩:=f3 b hx;rcases q with q|q
   ·exact I.ok.noex b o hb q
   ·have:=Wg (YB hb) (Y8 I.ok.bsz q)
    exact WD _ this
  ·intro b hb hz;rcases YA.mp (I.stkSub b hz)with q|q
   ·exact(f3 b hb).2.1 q
   ·exact(f3 b hb).2.2.1 q
 have hlen0:(atStart φ σ).length=N'.length:=by unfold atStart;rw[Yu];exact S.len
 have I4:Inv (Xo X N' sc cl C s3 H3 fp) [] (atStart φ σ) H3 {s3 with heap:=h₁,toks:=s3.toks+([]:List (Str×Value)).length}:=by
  refine⟨OK,rfl,I3.bare,Un.kept old,⟨_,hns₁,fun i x v h1 h2 h3=>?_⟩,fun x c hx=>?_,hH3C,fun x c hx=>I3.freeC x c (p1 x c hx),fun p hp=>?_,I3.hok.kept old,hlen0⟩
  ·obtain⟨j,hj,hv⟩:=Iu h2;obtain⟨hN,hfr⟩:=S.pick i x j h1 hj;obtain⟨m,_,hl⟩:=I3.loc;have hm:(x,NameKind.free)∈sc.names:=WZ hfr;have hcell:=S.frees _ hm rfl;obtain⟨u,ru,lk⟩:=hl j x v hN hv (.inr (.inl hcell));refine⟨u,ru,.inr ⟨.inl (G8 S.okind hfr hcell),?_⟩⟩;obtain⟨c,hc⟩:=p3 _ hm rfl;rcases lk with⟨hk,_⟩|⟨_,c',hc',hcl'⟩
   ·have hk':X.env.scope.names.lookup x=some .local:=hk;rw[hcell]at hk';cases hk'
   ·have e:=p1 _ _ hc;rw[hc']at e;cases e
    obtain⟨o,ho,hd⟩:=hcl';exact⟨_,hc,o,old _ o ho,hd⟩
  ·obtain⟨v,hv⟩:=I3.cell x c (p1 x c hx);obtain⟨o,ho,hd⟩:=hv;exact⟨v,o,old _ o ho,hd⟩
  ·exact absurd hp (by simp[Xo])
 have st4:tn 0 h₁:=T.keep _ _ _ st3' fun b _ o e=>old b o e
 have stat:∀{H':Hp},(∀b∈fp,H' b=none)->∀b∈fp,FpOk (Xo X N' sc cl C s3 H3 fp) [] H' b:=fun hn b hb=>
  ⟨hn b hb,(OK.exf b hb).1,OK.exfs b hb,.inl hb,(OK.exf b hb).2,fun p hp=>absurd hp (by simp[Xo])⟩
 obtain⟨hPG,hPI,hPE⟩:=hin cl C s3 H3 fp
 have loop:codeAny (model X.prog X.w) X.A (.compLoop (.ListComp elt [⟨tg,iter,ifs,0⟩] sc pos) 0 (.ref it) (.ref D) (compEnvC sc cl C X.env)) (compPost (model X.prog X.w) X.A X.xe use QQ (.ref D) C) {s3 with heap:=h₁,toks:=s3.toks+([]:List (Str×Value)).length}:=by
  refine M1 (fun n s'=>∃i ys σ' H',Inv (Xo X N' sc cl C s3 H3 fp) [] σ' H' s'/\Sub (atStart φ σ) σ'/\tn i s'.heap/\(∀b∈fp,H' b=none)/\W i n ys H') ?_ m0 ⟨0,[],_,_,I4,Sub.refl,st4,fun b hb=>(f3 b hb).1,w0⟩;rintro n s5 ⟨i,ys,σ5,H5,I5,sub5,st5,fr5,w5⟩;have I5':=Own.Inv.weak I5 sub5;rcases turn i n ys H5 w5 with⟨stop,qn⟩|⟨go,step⟩
  ·refine thn (T.done (Xo X N' sc cl C s3 H3 fp) rfl rfl rfl hcalm i [] s5 _ H5 _ I5' (stat fr5) st5 stop) fun r s6 ⟨hr,I6⟩=>?_;subst hr;obtain⟨m,hn,_⟩:=I6.loc;obtain⟨hh,gg,dd,tt,oo⟩:=s6;obtain rfl:oo=s3.os:=I6.os;have R:Inv X pins σ H5 {s3 with heap:=hh,gens:=gg,drawn:=dd,toks:=tt}:=I3.call (ch:=fp) (h':=hh) (g':=gg) (d':=dd) (t':=tt) I6.base I6.hok I6.bare fun b hb=>⟨(f3 b hb).2.2.2.1,(f3 b hb).2.1,(f3 b hb).2.2.2.2.1,(f3 b hb).2.2.2.2.2⟩
   have hC3:s3.heap.objs.size<=C:=WQ eC;obtain⟨q0,q1,q2,q3,q4,q5⟩:=I3.fpOk (b:=C) (H':=H3) hC3 hH3C;refine fin D C H5 _ qn R ⟨m,hn⟩ I6.free q1 (Y8 I3.sz hC3) q4 q5 q2
  ·refine thn (T.item (Xo X N' sc cl C s3 H3 fp) rfl rfl rfl hcalm i [] s5 _ H5 _ I5' (stat fr5) st5 go) fun r s6 ⟨u,hr,h6⟩=>?_;subst hr;refine thn h6 fun _ s7 ⟨x,H7,I7,r7,y7,st7,fr7⟩=>?_;have I7':=I7.pinned (stat fr7) (T.obj _ _ st7);refine thn (hPG _ s7 _ H7 x u _ I7' r7 (step x H7 y7)) fun _ s8 ⟨σ8,H8,I8,sub8,q8⟩=>?_;refine thn (hPI _ s8 σ8 H8 _ I8 q8) fun ok s9 ⟨H9,I9,q9⟩=>?_
   have again:∀{s10:Shared} {H10:Hp} {ys':List V} {m':Nat},Inv (Xo X N' sc cl C s3 H3 fp) ([]++Ny fp s7.heap) σ8 H10 s10->W (i+1) m' ys' H10->∃i ys σ' H',Inv (Xo X N' sc cl C s3 H3 fp) [] σ' H' s10/\Sub (atStart φ σ) σ'/\tn i s10.heap/\(∀b∈fp,H' b=none)/\W i m' ys H':=fun {s10 H10 ys' m'} J10 w10=>by
    refine⟨i+1,ys',σ8,H10,J10.unpinned,sub8,T.keep _ _ _ st7 fun b hb o e=>(J10.pin (b,o) (Wa _ (Wa _ (Sb hb e)))).1,fun b hb=>?_,w10⟩;obtain⟨o,e,d⟩:=T.obj _ _ st7 b hb;exact(J10.pin (b,o) (Wa _ (Wa _ (Sb hb e)))).2.1
   cases ok with
   |false=>
    obtain⟨m',hm,w'⟩:=q9;exact⟨m',hm,again I9 w'⟩
   |true=>
    refine thn (hPE _ s9 σ8 H9 _ I9 q9) fun xv s10 ⟨y,H10,I10,r10,hD,hl,m',hm,w'⟩=>?_;refine thn (Kz _ s10 σ8 H10 (.ref D) [y] (.ref D) [xv] (fun _ H11=>H11=upd H10 D (.lst (ys++[y]))) I10 rfl (.cons r10 .nil) ⟨D,ys,y,rfl,rfl,hD,hl,rfl⟩) fun _ s11 ⟨_,H11,I11,_,e11⟩=>?_;subst e11;exact⟨m',hm,again I11 w'⟩
 refine codeAny_compStart_list loop (T.self _ 0 _ _ _ st4 loop)
def Xg{X:Cx}{N':List Str}{φ:List (Option Nat)}{sc:Scope}{elt iter tg:Expr}{ifs:List Expr}{pos:Pos}{wi:TI}{g:TG}{tc:TT}{te:TE}(hcalm:X.calm=true)(S:CompOk X N' φ sc)(hi:PI X tg iter wi)(hin:∀cl C s₃ H₃ ex,PG (Xo X N' sc cl C s₃ H₃ ex) tg g/\PIfs (Xo X N' sc cl C s₃ H₃ ex) ifs tc/\PE (Xo X N' sc cl C s₃ H₃ ex) elt te)(hs:∀x,foldedSetIterable iter X.env x=pure x:=by intro _;rfl):PE X (.ListComp elt [⟨tg,iter,ifs,0⟩] sc pos) (NJ φ wi g tc te):=by
 intro pins s σ H Q I h;rw[eval_ListComp];refine Iq (use:=none) hcalm S hi hin hs I h fun D C H5 s6 q R hm c0 c1 c2 c3 c4 c5=>?_;obtain⟨m,hn⟩:=hm;exact⟨m,hn,fun h' sb=>⟨.ref D,H5,R.turned (it:=C) (t':=s6.toks) (fun b o hb e=>sb.extBut b o hb e) c0 c1 (.inr c2) c3 c4,rfl,q⟩⟩
def KY{X:Cx}{N':List Str}{φ:List (Option Nat)}{sc:Scope}{elt iter tg:Expr}{ifs:List Expr}{pos spos py:Pos}{wi:TI}{g:TG}{tc:TT}{te:TE}{i:Nat}{y:Str}(hN:X.N.Nodup)(hy:X.N[i]?=some y)(hl:X.env.scope.names.lookup y=some .local)(hcalm:X.calm=true)(S:CompOk X N' φ sc)(hi:PI X tg iter wi)(hin:∀cl C s₃ H₃ ex,PG (Xo X N' sc cl C s₃ H₃ ex) tg g/\PIfs (Xo X N' sc cl C s₃ H₃ ex) ifs tc/\PE (Xo X N' sc cl C s₃ H₃ ex) elt te)(hs:∀x,foldedSetIterable iter X.env x=pure x:=by intro _;rfl)(hsw:swapsWith (.ListComp elt [⟨tg,iter,ifs,0⟩] sc pos) (some (.Name y py)) spos.line X.env=pure true:=by rfl) :
  PS X (.Assign [.Name y py] (.ListComp elt [⟨tg,iter,ifs,0⟩] sc pos) spos) (tAsg (NJ φ wi g tc te) (PN i)):=by
 intro pins s σ H D0 I h;rw[exec_Assign_Name_used _ _ _ _ hsw];refine Yv (wpAny_standAt (Yv ?_));show wpAny _ X.A (do let _ ←comprehension (.ListComp elt [⟨tg,iter,ifs,0⟩] sc pos) sc X.env _ (newList []) false (eval iter X.env) (some (assign (.Name y py) X.env))) _ _ s
 refine Yv (Wx (Iq (use:=some (assign (.Name y py) X.env)) (QQ:=fun _ s'=>SP X pins D0 .next s') hcalm S hi hin hs I h fun D C H5 s6 q R hm c0 c1 c2 c3 c4 c5=>?_) (fun _ s' z=>Y2 (Y2 z)) fun _ _ e=>e);obtain⟨m,oC,es,ep,hoC,hdC,rC⟩:=hm
 have R2:Inv X (pins++[(C,oC)]) σ H5 s6:=R.pins_of fun p hp=>(YR.mp hp).elim (fun z=>R.pin p (Wa _ z)) fun z=>by
  rw[Y5.mp z];exact⟨hoC,c0,c1,c5,fun v e=>by rw[hdC]at e;cases e⟩
 show wpAny _ X.A (assign (.Name y py) X.env (.ref D)) _ _ _;refine wpAny_assign_Name (S7 R2 hN hy (.inl hl) (v:=.ref D) (u:=.ref D) rfl (fun s7 I7=>?_) (.inr hl));have hC7:=(I7.pin (C,oC) (Wa _ (Wa _ (Y5.mpr rfl)))).1;refine⟨m,⟨oC,es,ep,hC7,hdC,rC⟩,fun h' sb=>?_⟩;have I8:Inv X pins (σ.set i (some (.ref D))) H5 s7:=I7.unpinned;exact⟨_,H5,I8.turned (it:=C) (t':=s7.toks) (fun b o hb e=>sb.extBut b o hb e) c0 c1 (.inr c2) c3 c4,q⟩
def Ip(sc osc:Scope)(N N':List Str)(φ:List (Option Nat)):Bool:=
 sc.kind == .function&&osc.kind == .function&&(sc.names.all fun y=>y.2 != .cell&&(y.2 != .local || sc.names.lookup y.1==some .local)&&(y.2 != .free || osc.names.lookup y.1==some .cell)) &&
  φ.length==N'.length&&((N'.zip φ).all fun p=>match p.2 with|none=>true|some j=>N[j]? == some p.1&&sc.names.lookup p.1==some .free)
def CompOk.of {X:Cx}{N':List Str}{φ:List (Option Nat)}{sc:Scope} (h:Ip sc X.env.scope X.N N' φ=true):CompOk X N' φ sc:=by
 unfold Ip at h;simp only[Wf,beq_iff_eq,Qs,Bool.or_eq_true,bne_iff_ne,ne_eq]at h;obtain⟨⟨⟨⟨h1,h2⟩,h3⟩,h4⟩,h5⟩:=h;refine⟨h1,h2,fun y hy=>(h3 y hy).1.1,fun y hy hl=>?_,fun y hy hf=>?_,h4,fun i x j hi hj=>?_⟩
 ·rcases(h3 y hy).1.2 with z|z
  ·exact absurd hl z
  ·exact z
 ·rcases(h3 y hy).2 with z|z
  ·exact absurd hf z
  ·exact z
 ·have hz:(N'.zip φ)[i]?=some (x,some j):=by rw[List.getElem?_zip_eq_some];exact⟨hi,hj⟩
  have:=h5 _ (YM hz)
  simpa using this
end Own
namespace SetR
open PySem PySem.Spec PyProof.Rows L2
def Ris(xs:Array Nat):Prop:=∀i j,i<j->j<xs.size->xs.getD i 0<xs.getD j 0
def CJ{xs:Array Nat}{i a b:Nat}(h:i<xs.size):xs.getD i a=xs.getD i b:=by simp[Array.getD,h]
def Zb1{xs:Array Nat}(R:Ris xs)(j:Nat):∀(fuel lo hi:Nat),hi-lo<=fuel->lo<=hi->hi<=xs.size->(∀k,k<lo->xs.getD k 0<j)->(∀k,hi<=k->k<xs.size->j<=xs.getD k 0)->
  let r:=SetTable.below.go xs j fuel lo hi
  r<=xs.size/\(∀k,k<r->xs.getD k 0<j)/\∀k,r<=k->k<xs.size->j<=xs.getD k 0:=by
 intro fuel
 induction fuel with
 |zero=>
  intro lo hi h1 h2 h3 h4 h5;have e:lo=hi:=by omega
  subst e;exact⟨h3,h4,h5⟩
 |succ fuel ih=>
  intro lo hi h1 h2 h3 h4 h5;show(let r:=(if lo<hi then(if xs.getD ((lo+hi) / 2) j<j then SetTable.below.go xs j fuel ((lo+hi) / 2+1) hi else SetTable.below.go xs j fuel lo ((lo+hi) / 2))else lo);r<=xs.size/\(∀k,k<r->xs.getD k 0<j)/\∀k,r<=k->k<xs.size->j<=xs.getD k 0);by_cases hl:lo<hi
  ·rw[Yz hl];have hm:(lo+hi) / 2<xs.size:=by omega
   by_cases hc:xs.getD ((lo+hi) / 2) j<j
   ·rw[Yz hc];refine ih _ _ (by omega) (by omega) h3 (fun k hk=>?_) h5;rw[CJ (b:=0) hm]at hc;by_cases e:k=(lo+hi) / 2
    ·rw[e];exact hc
    ·exact Q6 (R k _ (by omega) hm) hc
   ·rw[Yx hc];refine ih _ _ (by omega) (by omega) (by omega) h4 (fun k hk hk2=>?_);rw[CJ (b:=0) hm]at hc;by_cases e:k=(lo+hi) / 2
    ·rw[e];omega
    ·have:=R _ k (show(lo+hi) / 2<k by omega) hk2
     omega
  ·rw[Yx hl];have e:lo=hi:=by omega
   subst e;exact⟨h3,h4,h5⟩
def Ep{xs:Array Nat}(R:Ris xs)(j:Nat):SetTable.below xs j<=xs.size/\(∀k,k<SetTable.below xs j->xs.getD k 0<j)/\∀k,SetTable.below xs j<=k->k<xs.size->j<=xs.getD k 0:=
 Zb1 R j xs.size 0 xs.size (by omega) (by omega) (by omega) (fun k hk=>by omega) (fun k h1 h2=>by omega)
def Mh{xs:Array Nat}(R:Ris xs){i:Nat}(hi:i<=xs.size){slot:Nat}(h1:∀k,k<i->xs.getD k 0<slot)(h2:∀k,i<=k->k<xs.size->slot<=xs.getD k 0):SetTable.below xs slot=i:=by
 obtain⟨a,b,c⟩:=Ep R slot;rcases Nat.lt_trichotomy (SetTable.below xs slot) i with h|h|h
 ·have:=c _ (Y3 _) (by omega)
  have:=h1 _ h
  omega
 ·exact h
 ·have:=b i h
  have:=h2 i (Y3 _) (by omega)
  omega
def Rise(xs:Array Nat):Prop:=xs.toList.Pairwise (· < ·)
def Rise.ris {xs:Array Nat} (h:Rise xs):Ris xs:=by
 intro i j hij hj;have hi:i<xs.size:=by omega
 have:=(Ql.mp h) i j (by simpa using hi) (by simpa using hj) hij
 simpa [Array.getD,hi,hj]using this
def Zer{xs:Array Nat}{j:Nat}(h:Rise xs)(hn:xs[SetTable.below xs j]?≠some j):Rise (SetTable.insertAt xs (SetTable.below xs j) j):=by
 obtain⟨a,b,c⟩:=Ep h.ris j;generalize SetTable.below xs j=p at *;unfold Rise;rw[SetTable.toList_insertAt];refine WE.mpr ⟨h.sublist (QN _ _),Wh.mpr ⟨fun y hy=>?_,h.sublist (List.drop_sublist _ _)⟩,fun x hx y hy=>?_⟩
 ·obtain⟨k,hk,e⟩:=List.mem_drop_iff_getElem.mp hy
  have hk':p+k<xs.size:=by
   simp only[Wi]at hk;omega
  have h1:=c (p+k) (by omega) hk';have e':xs.getD (p+k) 0=y:=by simpa [Array.getD,hk']using e
  rw[e']at h1;rcases Nat.lt_or_ge j y with h2|h2
  ·exact h2
  ·have ey:y=j:=by omega
   exfalso;rcases Nat.eq_zero_or_pos k with rfl|hk0
   ·apply hn;rw[WB (by omega)]
    have:xs[p]=y:=by simpa using e
    rw[this,ey]
   ·have h3:=h.ris p (p+k) (by omega) hk';have h4:=c p (Y3 _) (by omega);omega
 ·have hx':x<j:=by
   obtain⟨k,hk,e⟩:=List.mem_take_iff_getElem.mp hx;have hk1:k<p:=by omega
   have hk2:k<xs.size:=by omega
   have:=b k hk1
   have e':xs.getD k 0=x:=by simpa [Array.getD,hk2]using e
   omega
  rcases YA.mp hy with rfl|hy
  ·exact hx'
  ·obtain⟨k,hk,e⟩:=List.mem_drop_iff_getElem.mp hy
   have hk':p+k<xs.size:=by
    simp only[Wi]at hk;omega
   have h1:=c (p+k) (by omega) hk';have e':xs.getD (p+k) 0=y:=by simpa [Array.getD,hk']using e
   omega
structure Tb (b:Bool) (t:SetTable):Prop where
 led:t.led=b
 dum:t.dummies=#[]
 ris:Rise t.place
def HD(j:Nat):SetTable.has #[] j=false:=by
 unfold SetTable.has;simp
def Tb.fresh (b:Bool):Tb b (.fresh 0 0 b):=⟨rfl,rfl,List.Pairwise.nil⟩
def Zb6(n:Nat):Rise (Array.range n):=by
 unfold Rise;rw[Array.toList_range];exact List.pairwise_lt_range
def Tb.stand {b:Bool}{t:SetTable} (h:Tb b t) (n:Nat):Tb b (t.standIn n):=⟨h.led,rfl,Zb6 n⟩
def Tb.orStand {b:Bool}{t:SetTable} (h:Tb b t) (n:Nat):Tb b (t.orStandIn n):=by
 unfold SetTable.orStandIn;split
 ·exact h
 ·exact h.stand n
def Tb.plainOff {b:Bool}{t:SetTable} (h:Tb b t):Tb b {t with plain:=false}:=⟨h.led,h.dum,h.ris⟩
def Tb.put {b:Bool}{t:SetTable} (h:Tb b t) {j:Nat} (hn:t.place[SetTable.below t.place j]?≠some j):Tb b (t.put j).1:=by
 refine⟨h.led,?_,Zer h.ris hn⟩;show(if SetTable.has t.dummies j=true then _ else t.dummies)=#[];rw[h.dum,HD];rfl
def Zdm{b:Bool}{t:SetTable}(h:Tb b t)(f:Nat->Int)(z:Int):∀(fuel:Nat) (p:SetTable.Probe) (j:Nat) (d:Option Nat),p.dummy=none->SetTable.probe.go t f z fuel p=some (.empty j d)->d=none/\t.place[SetTable.below t.place j]?≠some j:=by
 intro fuel
 induction fuel with
 |zero=>intro p j d _ e;cases e
 |succ fuel ih=>
  intro p j d hp e;unfold SetTable.probe.go at e
  have hadv:∀q:SetTable.Probe,q.dummy=none->(t.advance q).dummy=none:=fun q hq=>by
   unfold SetTable.advance;split
   ·exact hq
   ·exact hq
  cases es:t.slot p.j with
  |empty=>
   rw[es]at e;have e':=Y7 e;injection e' with e1 e2;subst e1;refine⟨e2.symm.trans hp,fun hz=>?_⟩;unfold SetTable.slot at es
   dsimp only at es
   rw[hz]at es;simp at es
  |dummy=>
   exfalso;unfold SetTable.slot at es
   dsimp only at es
   split at es
   ·cases es
   ·rw[h.dum,HD]at es;simp at es
  |live i=>
   rw[es]at e
   dsimp only at e
   split at e
   ·cases e
   ·exact ih _ j d (hadv p hp) e
def Tb.layNew {b:Bool}{t:SetTable} (h:Tb b t) (es:Array (Int×Value)) (z:Int) (x:Value):Tb b (PySem.layNew t es z x).2.1:=by
 unfold PySem.layNew;split
 ·rename_i slot wasDummy e
  have hn:t.place[SetTable.below t.place slot]?≠some slot:=by
   unfold SetTable.freeSlot SetTable.probe at e;split at e
   ·rename_i j dummy e';obtain⟨h1,h2⟩:=Zdm h _ _ _ _ _ _ rfl e';subst h1
    have:=Y7 e
    have hj:j=slot:=Wj Prod.fst this;rw[←hj];exact h2
   ·cases e
  exact(h.put hn).orStand _
 ·exact h.stand _
def RA(n:Nat)(f:Nat->Option Nat):((List.range n).filterMap fun j=>(f j).map (j,·)).Pairwise (fun a b=>a.1<b.1):=by
 refine List.Pairwise.filterMap _ ?_ List.pairwise_lt_range;intro a a' haa b hb b' hb';cases e:f a with
 |none=>rw[e]at hb;cases hb
 |some v=>
  cases e':f a' with
  |none=>rw[e']at hb';cases hb'
  |some v'=>
   rw[e]at hb;rw[e']at hb';cases hb
   cases hb'
   exact haa
def Tb.relayAll {b:Bool}{t:SetTable} (h:Tb b t) (es:Array (Int×Value)) (n:Nat):Tb b (PySem.relayAll t es n).2.1:=by
 unfold PySem.relayAll;split
 ·rename_i t' order e
  dsimp only
  split
  ·unfold SetTable.relaid SetTable.laid at e;cases e2:SetTable.layClean (SetTable.sizeAbove n-1) (es.map (·.1))with
   |none=>rw[e2]at e;cases e
   |some owner=>
    rw[e2]at e;have e':=Wj Prod.fst (Y7 e);subst e';refine⟨h.led,rfl,?_⟩;show(List.map (fun x:Nat×Nat=>x.fst) ((List.range (SetTable.sizeAbove n-1+1)).filterMap fun j=>(owner.getD j none).map (j,·))).toArray.toList.Pairwise (· < ·);rw[List.toList_toArray,Q1];exact RA _ _
  ·exact h.stand _
 ·exact h.stand _
def keyOf(e:Int×Value):Int:=match e.2 with
 | .int k _=>k
 |_=>0
def Ent(e:Int×Value):Prop:=∃(k:Int) (t:Tok),e=(hashInt k,.int k t)
section
variable (prog:Program) (w:World)
def XZ(w:World):Bool:=w.params.followText "set-order"
structure SetAt (h:Heap) (a:Addr) (js:List Int) (es:Array (Int×Value)) (ep:Nat) (t:SetTable):Prop where
 obj:∃o,h.get? a=some o/\o.ExactSet/\o.data=.set es ep t
 ent:∀e∈es.toList,Ent e
 per:(es.toList.map keyOf).Perm js
 nod:js.Nodup
 few:es.size<scanBound
 fit:t.fits es.size=true
 tab:Tb (!XZ w) t
def SetB(h:Heap)(a:Addr)(js:List Int):Prop:=∃es ep t,SetAt w h a js es ep t
end
section
variable {prog:Program}{w:World}{A:Around}{E:Value->Shared->Prop}{s:Shared}
def Ent.elems {l:List (Int×Value)} (h:∀e∈l,Ent e):ElemsOf (intKind prog w) l:=fun e he=>by
 obtain⟨k,t,rfl⟩:=h e he;exact⟨⟨k,intKind_is _ _ _ _,rfl⟩,rfl⟩
def HW{e:Int×Value}(h:Ent e)(k:Int):(intKind prog w).is k e.2=decide (k=keyOf e):=by
 obtain⟨k',t,rfl⟩:=h;show Value.isInt k (.int k' t)=decide (k=k');by_cases e:k=k'
 ·subst e;simp[Value.isInt]
 ·rw[YH e];simp[Value.isInt];exact fun z=>e z.symm
def SetB.len {h:Heap}{a:Addr}{js:List Int}{es:Array (Int×Value)}{ep:Nat}{t:SetTable} (S:SetAt w h a js es ep t):es.size=js.length:=by
 have:=S.per.length_eq
 simpa using this
def SetB.at {h h':Heap}{a:Addr}{js:List Int} (S:SetB w h a js) (k:∀o,h.get? a=some o->h'.get? a=some o):SetB w h' a js:=by
 obtain⟨es,ep,t,⟨o,ho,r⟩,b,c,d,e,f,g⟩:=S;exact⟨es,ep,t,⟨o,k o ho,r⟩,b,c,d,e,f,g⟩
def SetAt.store {h:Heap}{a:Addr}{js js':List Int}{es es':Array (Int×Value)}{ep:Nat}{t t':SetTable} (S:SetAt w h a js es ep t) (h1:∀e∈es'.toList,Ent e) (h2:(es'.toList.map keyOf).Perm js') (h3:js'.Nodup) (h4:es'.size<scanBound)
  (h5:t'.fits es'.size=true) (h6:Tb (!XZ w) t'):SetAt w (h.update a (Obj.putSet es' t')) a js' es' (ep+1) t':=by
 obtain⟨o,ho,hx,hd⟩:=S.obj;refine⟨⟨{o with data:=.set es' (ep+1) t'},?_,hx,rfl⟩,h1,h2,h3,h4,h5,h6⟩
 have q:=Wq (Obj.putSet es' t') ho (by rw[putSet_of es' t' hd];rfl);rwa[putSet_of es' t' hd]at q
def GU{g:Bool->Sem Unit}(hg:∀(b:Bool) (s':Shared) (R':Unit->Shared->Prop),R' () s'->wpAny (model prog w) A (g b) R' E s'){a:Addr}{js js':List Int}{es es':Array (Int×Value)}{ep:Nat}{t t':SetTable}(S:SetAt w s.heap a js es ep t)(h1:∀e∈es'.toList,Ent e)(h2:(es'.toList.map keyOf).Perm js')(h3:js'.Nodup)(h4:es'.size<scanBound)(h5:t'.fits es'.size=true)(h6:Tb (!XZ w) t'){d:Bool}{R:Option Bool->Shared->Prop}(fin:∀h',Heap.SameBut a s.heap h'->SetB w h' a js'->R (some true) {s with heap:=h'}) :
  wpAny (model prog w) A (do
    storeSet a es' t'
    if (!d&&t'.tooFull)=true then do
      g (relayAll t' es' (SetTable.grown es'.size)).2.2
      storeSet a (relayAll t' es' (SetTable.grown es'.size)).1 (relayAll t' es' (SetTable.grown es'.size)).2.1
      pure (some true)
     else pure (some true)) R E s:=by
 obtain⟨o,ho,hx,hd⟩:=S.obj;have S1:=S.store h1 h2 h3 h4 h5 h6;obtain⟨o1,ho1,hx1,hd1⟩:=S1.obj;have B1:=W3 s.heap a (Obj.putSet es' t');refine Yv (wpAny_storeSet_of ho hd ?_ (QO h4));split
 ·have pp:=relayAll_perm t' es' (SetTable.grown es'.size);have ff:=relayAll_fits t' es' (SetTable.grown es'.size);have tt:=h6.relayAll es' (SetTable.grown es'.size);generalize relayAll t' es' (SetTable.grown es'.size)=y at pp ff tt ⊢;obtain⟨es2,t2,g2⟩:=y
  dsimp only at pp ff tt ⊢
  have z:es2.size=es'.size:=by rw[←Wi,pp.length_eq,Wi]
  refine Yv (hg _ _ _ (Yv (wpAny_storeSet_of ho1 hd1 ?_ (QO (by rw[z];exact h4)))));exact Y2 (fin _ (B1.trans (W3 _ a _)) ⟨_,_,_,S1.store (fun e he=>h1 e (pp.mem_iff.mp he)) ((pp.map keyOf).trans h2) h3 (by rw[z];exact h4) ff tt⟩)
 ·exact Y2 (fin _ B1 ⟨_,_,_,S1⟩)
def addJ(js:List Int)(k:Int):List Int:=if k∈js then js else js++[k]
def L8{a:Addr}{js:List Int}{k:Int}{tk:Tok}{R:Bool->Shared->Prop}(S:SetB w s.heap a js)(room:js.length+1<scanBound)(fin:∀(r:Bool) h',Heap.SameBut a s.heap h'->SetB w h' a (addJ js k)->R r {s with heap:=h'}) :
  wpAny (model prog w) A (setAddHashed a (.int k tk) (hashInt k)) R E s:=by
 obtain⟨es,ep,t,S⟩:=S;obtain⟨o,ho,hx,hd⟩:=S.obj;have el:=Ent.elems (prog:=prog) (w:=w) S.ent;have hz:es.size=js.length:=SetB.len S;unfold setAddHashed setAddHashedIn;refine WV (Yv (Qi ho hd S.fit ?_))
 dsimp only
 rw[byScan_of (x:=.int k tk) rfl S.few el];simp only[↓reduceIte];unfold setAddByScan;refine Yv (Yv (wpAny_rule (Yv (wpAny_setScan_of (knd:=intKind prog w) (k:=k) (intKind_is _ _ _ _) ho hd S.fit el ?_))));have mem:∀z:Int,z∈js↔∃e∈es.toList,keyOf e=z:=fun z=>by rw[←S.per.mem_iff,YX]
 cases q:List.findIdx? (fun e=>(intKind prog w).is k e.2) es.toList with
 |some j=>
  dsimp only
  obtain⟨hj,pj,_⟩:=List.findIdx?_eq_some_iff_getElem.mp q
  have hk:k∈js:=by
   rw[HW (S.ent _ (YK hj))]at pj;exact(mem k).mpr ⟨_,YK hj,(Y0 pj).symm⟩
  refine Y2 (Y2 ?_);have f:=fin false s.heap (Heap.SameBut.refl a s.heap);unfold addJ at f;rw[Yz hk]at f;exact f ⟨_,_,_,S⟩
 |none=>
  dsimp only
  have hk:¬k∈js:=fun hz=>by
   obtain⟨e,he,hke⟩:=(mem k).mp hz
   have:=List.findIdx?_eq_none_iff.mp q e he
   rw[HW (S.ent e he),Yy hke.symm]at this;cases this
  have P:=layNew_perm t es (hashInt k) (.int k tk);have F:=layNew_fits t es (hashInt k) (.int k tk);have T:=S.tab.layNew es (hashInt k) (.int k tk);change wpAny (model prog w) A (match layNew t es (hashInt k) (.int k tk)with|(es,t,wasDummy,gave)=>_) _ _ _
  generalize layNew t es (hashInt k) (.int k tk)=y at P F T ⊢;obtain⟨es1,t1,d1,g1⟩:=y
  dsimp only at P F T ⊢
  rw[Array.toList_push]at P
  have e1:∀e∈es1.toList,Ent e:=fun e he=>by
   rcases YR.mp (P.mem_iff.mp he)with he|he
   ·exact S.ent e he
   ·rw[Y5.mp he];exact⟨k,tk,rfl⟩
  have e2:(es1.toList.map keyOf).Perm (js++[k]):=by
   refine(P.map keyOf).trans ?_;rw[Y9];exact S.per.append_right _
  have e3:(js++[k]).Nodup:=W4.mpr ⟨S.nod,by simp,fun x hx y hy=>by rw[Y5.mp hy];rintro rfl;exact hk hx⟩
  have e4:es1.size<scanBound:=by
   rw[←Wi,P.length_eq,Y4,Wi,hz];exact room
  have fin':∀h',Heap.SameBut a s.heap h'->SetB w h' a (js++[k])->R true {s with heap:=h'}:=fun h' sb q'=>by
   have f:=fin true h' sb;unfold addJ at f;rw[Yx hk]at f;exact f q'
  have gw:∀(b:Bool) {s':Shared} {R':Unit->Shared->Prop},R' () s'->wpAny (model prog w) A (match b with|true=>rule "set.scan.the-table-gave-way" |false=>pure ()) R' E s':=fun b s' R' r'=>by cases b<;>first|exact Y2 r'|exact wpAny_rule r'
  refine Yv (gw _ ?_);split
  ·refine Yv ?_;rw[hashByValue_scannable 8 (x:=.int k tk) rfl];refine Y2 (GU (fun b s' R' r'=>gw b r') S e1 e2 e3 e4 ?_ ?_ fun h' sb q'=>Y2 (fin' h' sb q'))
   ·split
    ·exact F
    ·exact SetTable.fits_plain_off F
   ·split
    ·exact T
    ·exact T.plainOff
  ·refine Yv (Y2 ?_);simp only[↓reduceIte];exact GU (fun b s' R' r'=>gw b r') S e1 e2 e3 e4 F T fun h' sb q'=>Y2 (fin' h' sb q')
def Zbv{R:Result->Shared->Prop}{I:Addr}{fp wr:List Addr}{P:Nat->Value->Prop}{St:Nat->Heap->Prop}{ns:List Int}(W:Walks prog w A.in1 I fp wr ns.length P St)(S:Addr)(hS:S∉fp)(hv:∀i v,P i v->∃t,v=.int (ns.getD i 0) t)(room:ns.length+1<scanBound):∀(k i:Nat) (s:Shared) (js:List Int),ns.length-i=k->i<=ns.length->St i s.heap->SetB w s.heap S js->js.length<=i->
   (∀h' tk,(∀b o,b∉S::wr->s.heap.get? b=some o->h'.get? b=some o)->SetB w h' S ((ns.drop i).foldl addJ js)->R (.ok (.ret .none)) {s with heap:=h',toks:=tk})->
   codeAny (model prog w) A (.builtin "set.update.loop" ⟨[.ref S,.ref I],[]⟩) R s:=by
 have hSw:S∉wr:=fun z=>hS (W.sub _ z);intro k
 induction k with
 |zero=>
  intro i s js hk hi st B hj fin;have ei:i=ns.length:=by omega
  refine Qy QH ?_;rw[Qm Qc _];show wpAny _ A.in1 (pyNext (.ref I) >>= _) _ _ s;refine Yv (W.done s _ _ (ei▸st) fun h' tk keep=>?_);show wpAny _ A.in1 (ret Value.none) _ _ _;refine Y2 (fin h' tk (fun b o hb e=>keep b o (fun z=>hb (YJ _ z)) e) ?_);rw[ei,Va];exact B.at fun o e=>keep S o hSw e
 |succ k ih=>
  intro i s js hk hi st B hj fin;have hlt:i<ns.length:=by omega
  refine Qy QH ?_;rw[Qm Qc _];show wpAny _ A.in1 (pyNext (.ref I) >>= _) _ _ s;refine Yv (W.item i s _ _ hlt st fun v h1 tk1 pv st1 keep1=>?_);obtain⟨t,rfl⟩:=hv i v pv;have B1:SetB w h1 S js:=B.at fun o e=>keep1 S o hSw e;show wpAny _ A.in1 (holding [Value.int (ns.getD i 0) t] (setAdd S (.int (ns.getD i 0) t)) >>= _) _ _ _;unfold setAdd;refine Yv (WV (WV (Yv ((intKind prog w).pyHash (k:=ns.getD i 0) (intKind_is _ _ _ _) ?_))));refine L8 (k:=ns.getD i 0) B1 (by omega) fun r h2 sb B2=>?_
  have el:(addJ js (ns.getD i 0)).length<=i+1:=by
   unfold addJ;split
   ·omega
   ·simp;omega
  refine Y2 ⟨QX Qc _,ih (i+1) _ _ (by omega) hlt (W.frame _ h1 _ st1 fun b hb o e=>?_) B2 el fun h' tk keep B'=>?_⟩
  ·rw[sb.2 b (fun z:b=S=>hS (by rw[←z];exact hb))];exact e
  ·refine fin h' tk (fun b o hb e=>keep b o hb ?_) ?_
   ·rw[sb.2 b (fun z:b=S=>hb (by rw[z];exact YO))];exact keep1 b o (fun z=>hb (YJ _ z)) e
   ·have e1:ns.drop i=ns.getD i 0::ns.drop (i+1):=by
     rw[Wk hlt,Yw,Yt hlt];rfl
    rw[e1];exact B'
def O0(a:Value){Q:Value->Shared->Prop}(fin:Q (.ref s.heap.objs.size) {s with heap:=s.heap.push {cls:=.type "set",dict:=none,data:=.set #[] 0 (.fresh 0 0 (!XZ w))}}) :
  codeAny (model prog w) A (.call (.builtin "set.__new__") ⟨[.type "set",a],[]⟩) (wants Q E) s:=by
 refine codeAny_of_tree (show wpAny _ A.in1 (do checkBuiltinCall "set.__new__" ⟨[.type "set",a],[]⟩;again (.builtin "set.__new__" ⟨[.type "set",a],[]⟩)) _ _ s from ?_)
 refine Yv (wpAny_of_eq (F.newCall_set_1 a) (Y2 ⟨QX F.plain_set_new _,Qy F.entry_set_new ?_⟩));have und:=Qm (A:=A) F.plain_set_new ⟨[.type "set",a],[]⟩;rw[und];unfold Builtin.«set.__new__» Builtin.Frozenset.newClass;have q1:=sub_set_self;obtain⟨hh,gg,dd,tt,oo⟩:=s
 dsimp only
 wp_walk
 refine wpAny_askSetting (Y2 (show wpAny _ _ _ _ _ _ from ?_))
 dsimp only
 simp only[newObj];exact Yv (wpAny_alloc (Y2 (Y2 fin)))
set_option maxHeartbeats 4000000 in
def Zd4{l:Addr}{its:Array Value}{ns:List Int}{Q:Value->Shared->Prop}(hh:A.handled=none)(hl:s.heap.IsList l its)(hi:IntsAre its.toList ns)(room:ns.length+1<scanBound)(fin:∀(h':Heap) (tk:Nat),SetB w h' s.heap.objs.size (ns.foldl addJ [])->(∀b o,b<s.heap.objs.size->s.heap.get? b=some o->h'.get? b=some o)->Q (.ref s.heap.objs.size) {s with heap:=h',toks:=tk}) :
  wpAny (model prog w) A (call (.type "set") [.ref l]) Q E s:=by
 have hn:its.size=ns.length:=by have:=IntsAre.length hi;simpa using this
 obtain⟨mroC,mroT,mro⟩:=F.called_set.mro;have made:=F.called_set.made;have subs:=F.called_set.sub;refine wpAny_call (codeAny_of_tree (show wpAny _ _ (callAny (.type "set") _) _ _ _ from ?_))
 refine Y2 ⟨Code.quiet_builtin _ (by decide +kernel),Qy F.entry_type_call ?_⟩;have wt:=Around.under_plain (A:=A) (weight_type_call_type "set" [.ref l] []) rfl;rw[wt];have nt:=F.called_set.notType;have cc:=F.called_set.canCreate;have tc:=F.typeCall_set_1 (.ref l)
 repeat (any_goals (first|assumption|wp_step))
 refine Q5 (O0 (.ref l) (E:=E) (Q:=fun obj s1=>obj=.ref s.heap.objs.size/\s1={s with heap:=s.heap.push {cls:=.type "set",dict:=none,data:=.set #[] 0 (.fresh 0 0 (!XZ w))}}) ⟨rfl,rfl⟩) fun r s1 hr=>?_
 cases r with
 |error e=>exact hr
 |ok fl=>
  cases fl with
  |next=>exact hr.elim
  |brk=>exact hr.elim
  |cont=>exact hr.elim
  |ret obj=>
   obtain⟨rfl,rfl⟩:=hr;generalize eH:s.heap.push {cls:=.type "set",dict:=none,data:=.set #[] 0 (.fresh 0 0 (!XZ w))}=H1;have g1:H1.get? s.heap.objs.size=some {cls:=.type "set",dict:=none,data:=.set #[] 0 (.fresh 0 0 (!XZ w))}:=by rw[←eH];exact YE _ rfl
   have hT:Shared.TypeIs {s with heap:=H1} (.ref s.heap.objs.size) "set":=⟨_,g1,rfl⟩
   have ini:=F.called_set.init.lookup;have inb:=F.called_set.init.bind (.ref s.heap.objs.size)
   repeat (any_goals (first|assumption|wp_step))
   refine Q5 (codeAny_call_builtin (R:=wants (fun r s2=>r=.none/\∃h' tk,s2={s with heap:=h',toks:=tk}/\SetB w h' s.heap.objs.size (ns.foldl addJ [])/\(∀b o,b<s.heap.objs.size->s.heap.get? b=some o->h'.get? b=some o)) E)
    F.called_set.init.plain F.entry_set_init (check_set_init_1 hT ?_)) fun r2 s2 hr2=>?_
   ·obtain⟨ob,hob,hcl,nl,hdl⟩:=hl;obtain⟨c1,d1,dt1,sl1⟩:=ob;simp only at hcl hdl;subst hcl;subst hdl;have hob1:H1.get? l=some {cls:=.type "list",dict:=d1,data:=.seq its nl,slots:=sl1}:=by rw[←eH];exact Y1 _ hob
    have sz1:H1.objs.size=s.heap.objs.size+1:=by rw[←eH,Qp]
    have no1:=F.sub_list_set;have no2:=F.sub_list_frozenset;have no3:(Value.type "list" == Value.type "dict")=false:=by decide
    have L1:H1.IsList l its:=⟨_,hob1,rfl,nl,rfl⟩;unfold Builtin.«set.__init__» noKeywords Builtin.Frozenset.updateFrom;generalize eP:pyIter=PI
    wp_walk
    subst eP;refine wpAny_pyIter_list L1 (Yv (wpAny_runValue ?_));have lt1:l<s.heap.objs.size:=YB hob;have hd3:A.in1.in1.in1.handled=none:=by simp[hh]
    have ne1:l≠H1.objs.size:=by rw[sz1];exact YT (Qj lt1)
    have no4:s.heap.objs.size∉[H1.objs.size,l]:=by
     rw[sz1];simp only[YA,Vb,or_false,not_or];exact⟨YT (Qr _),VC lt1⟩
    have W0:=Walks.list (prog:=prog) (w:=w) hd3 H1.objs.size l ne1 its;rw[hn]at W0;refine Zbv (ns:=ns) W0 s.heap.objs.size no4 (fun i v hv=>IntsAre.int_at hi i v (by rw[Ww];exact hv)) room (ns.length-0) 0 _ [] rfl (WA _) ⟨⟨_,YE _ rfl,rfl,rfl⟩,L1.push _⟩ ?_ (WA _) fun h' tk keep B=>?_
    ·exact⟨#[],0,_,⟨_,Y1 _ g1,⟨rfl,rfl,rfl⟩,rfl⟩,fun e he=>by simp at he,by simp,Qq,by show(0:Nat)<4096;decide,rfl,Tb.fresh _⟩
    ·show wpAny _ _ _ _ _ _;refine Y2 (show wpAny _ _ (ret Value.none) _ _ _ from Y2 ⟨rfl,h',tk,rfl,B,fun b o hb e=>?_⟩)
     refine keep b o ?_ (Y1 _ (by rw[←eH];exact Y1 _ e));rw[sz1];simp only[YA,Vb,or_false,not_or];exact⟨YT hb,YT (Qj hb)⟩
   ·cases r2 with
    |error e=>exact hr2
    |ok f2=>
     cases f2 with
     |next=>exact hr2.elim
     |brk=>exact hr2.elim
     |cont=>exact hr2.elim
     |ret r=>
      obtain⟨rfl,h',tk,rfl,B,keep⟩:=hr2
      repeat (any_goals (first|assumption|wp_step))
      exact fin _ _ B keep
end
def si_slot:Slot "set_iterator" "__next__" "set_iterator.__next__":=
 Slot.of (owner:="set_iterator") (n:="__next__") (by rw[typeLookup_type,builtinLookup_eq_fast];kernel_rfl) (by decide +kernel) (by decide +kernel) (by decide +kernel)
  (by first|exact Or.inl (by decide +kernel)|exact Or.inr (by decide +kernel)) (by rw[isSubtype_type];kernel_rfl)
def Zg5:entryFor table "set_iterator.__next__"=some Builtin.«set_iterator.__next__»:=entryFor_of_tree (by kernel_rfl)
def Zez(a:Value):argsOk "set_iterator.__next__" ⟨[a],[]⟩:=by unfold argsOk;kernel_rfl
def Zd8:entryFor table "set.__iter__"=some Builtin.«frozenset.__iter__»:=entryFor_alias (id':="frozenset.__iter__") (by kernel_rfl) rfl (by decide +kernel) (by kernel_rfl)
def He:Slot "set_iterator" "__iter__" "set_iterator.__iter__":=
 Slot.of (owner:="set_iterator") (n:="__iter__") (by rw[typeLookup_type,builtinLookup_eq_fast];kernel_rfl) (by decide +kernel) (by decide +kernel) (by decide +kernel)
  (by first|exact Or.inl (by decide +kernel)|exact Or.inr (by decide +kernel)) (by rw[isSubtype_type];kernel_rfl)
def Zb9:entryFor table "set_iterator.__iter__"=some Builtin.«dict_keyiterator.__iter__»:=entryFor_alias (id':="dict_keyiterator.__iter__") (by kernel_rfl) rfl (by decide +kernel) (by kernel_rfl)
def Ri(a:Value):argsOk "set_iterator.__iter__" ⟨[a],[]⟩:=by unfold argsOk;kernel_rfl
def SI(h:Heap)(I a:Addr)(first:Value)(i n ep:Nat):Prop:=∃o,h.get? I=some o/\o.cls=.type "set_iterator"/\o.data=.fields #[first,.int i 0,.ref a,.int n 0,.int ep 0]
section
variable {prog:Program}{w:World}{A:Around}{E:Value->Shared->Prop}{s:Shared}{I a:Addr}{first:Value}{i n ep:Nat}{js:List Int}{es:Array (Int×Value)}{t:SetTable}
def SI.typ (h:SI s.heap I a first i n ep):s.TypeIs (.ref I) "set_iterator":=let ⟨o,ho,hc,_⟩:=h;⟨o,ho,hc⟩
def SI.at {h h':Heap} (x:SI h I a first i n ep) (k:∀o,h.get? I=some o->h'.get? I=some o):SI h' I a first i n ep:=let ⟨o,ho,r⟩:=x;⟨o,k o ho,r⟩
def T5(first:Value)(a I:Addr)(i ep:Int):Sem PySem.Fin:=
 match first with
 |Value.int slot _=>do
  match ←setNext a slot.toNat i.toNat ep.toNat with
  |some (x,next)=>
   setField (.ref I) 0 (rawInt next)
   setField (.ref I) 1 (rawInt (i+1))
   ret x
  |none=>
   setField (.ref I) 2 .none
   raiseNew (←newExc (.type "StopIteration") [])
 |_=>do
  let some places ←seqItems? first|unsupported "internal:set_iterator"
  match places[i.toNat]? with
  |some (.int place _)=>
   let x ←setNextDrawn a place.toNat ep.toNat
   setField (.ref I) 1 (rawInt (i+1))
   ret x
  |some _=>unsupported "internal:set_iterator"
  |none=>
   setField (.ref I) 0 (rawInt 0)
   setField (.ref I) 2 .none
   raiseNew (←newExc (.type "StopIteration") [])
def NS{Q:Option Value->Shared->Prop}(hit:SI s.heap I a first i es.size ep)(S:SetAt w s.heap a js es ep t)
  (body:wpAny (model prog w) A.in1 (T5 first a I i ep) (fun fin s'=>∃v,fin=.done (.ret v)/\Q (some v) s')
   (fun e s'=>wpAny (model prog w) A (isInstance e (.type "StopIteration")) (fun b s''=>b=true/\Q none s'') E s') s) :
  wpAny (model prog w) A (pyNext (.ref I)) Q E s:=by
 obtain⟨o,ho,hc,hd⟩:=id hit;obtain⟨ob,hob,hx,hdd⟩:=S.obj;unfold pyNext;refine Yv (wpAny_attempt (QM (name:=Str.ofString "__next__") hit.typ si_slot (Qa si_slot hit.typ Zg5 ?_ (Zez _))));unfold Builtin.«set_iterator.__next__»;refine Yv (Y2 (Yv (wpAny_fieldsOf ho hd ?_)));show wpAny _ _ (setEntries a >>= fun x=>if ((x.size:Int) != (es.size:Int))=true then _ else T5 first a I i ep) _ _ s
 refine Yv (wpAny_setEntries_of hob hdd S.fit ?_);rw[Yx (by simp)];refine Wx body (fun fin s' h=>?_) fun e s' h=>?_
 ·obtain⟨v,e,q⟩:=h;exact⟨v,e,Y2 q⟩
 ·refine Yv (Wx h (fun b s'' h2=>?_) fun _ _ z=>z);obtain⟨rfl,q⟩:=h2;exact Y2 q
def HI{Q:Option Value->Shared->Prop}{o:Obj}{vs:Array Value}(hh:A.handled=none)(ho:s.heap.get? I=some o)(hd:o.data=.fields vs)(h2:2<vs.size)(fin:∀h',Heap.ExtBut I s.heap h'->Q none {s with heap:=h'}){R:PySem.Fin->Shared->Prop} :
  wpAny (model prog w) A.in1 (do setField (.ref I) 2 .none;raiseNew (←newExc (.type "StopIteration") [])) R (fun e s'=>wpAny (model prog w) A (isInstance e (.type "StopIteration")) (fun b s''=>b=true/\Q none s'') E s') s:=by
 refine Yv (WL ho hd h2 (Yv ?_));simp only[newExc,newTuple];refine Yv (Wt ?_ (by size_fits));refine Yv (m:=firstArgMember _ _) (wpAny_of_eq (a:=Value.none) (by first|rfl|(simp only[firstArgMember];rfl)) (Wt ?_ (by size_fits)))
 simp only[raiseNew];refine Yv (wpAny_handled ?_);have e1:A.in1.handled=none:=hh;rw[e1];refine Yv (Y2 (wpAny_throw ?_));refine wpAny_isInstance (T:="StopIteration") (b:=true) ⟨_,YE _ rfl,rfl⟩ isSubtype_stop ?_;exact⟨rfl,fin _ (((W3 ..).extBut.push _).push _)⟩
def SI.step1 {o:Obj}{x:Value} (ho:s.heap.get? I=some o) (hc:o.cls=.type "set_iterator") (hd:o.data=.fields #[first,.int i 0,.ref a,.int n 0,.int ep 0]) :
  SI (s.heap.update I (Obj.mapFields (·.setIfInBounds 1 (rawInt ((i:Int)+1))))) I a first (i+1) n ep:=
 ⟨_,Wq _ ho (WM (Wz hd _)),(QP ..).trans hc,by rw[Wz hd];simp[rawInt]⟩
def NV{Q:Bool->Shared->Prop}(h:Q (XZ w) s):wpAny (model prog w) A setsByText Q E s:=by
 unfold setsByText;exact Yv (wpAny_askSetting (Y2 h))
def OA{Q:Option (Value×Nat)->Shared->Prop}{slot:Nat}(S:SetAt w s.heap a js es ep t)(hb:XZ w=true)(h:Q (((pickOrder (w.params.setOrder a ep) es)[i]?).map fun e=>(e.2,slot)) s) :
  wpAny (model prog w) A (setNext a slot i ep) Q E s:=by
 obtain⟨ob,hob,hx,hdd⟩:=S.obj;unfold setNext;refine Yv (Qi hob hdd S.fit (Yv (NV ?_)));rw[hb,Yz rfl]
 dsimp only
 rw[Yx (by simp)];refine Yv ?_;unfold setWalk;refine Yv (Qi hob hdd S.fit (Yv (NV ?_)));rw[hb,Yz rfl];exact Yv (wpAny_askSetting (Y2 (Y2 h)))
def Ld{Q:Option (Value×Nat)->Shared->Prop}{slot:Nat}(S:SetAt w s.heap a js es ep t)(hb:XZ w=false)(hp:(!t.plain&&decide (es.size>1))=false)(h:Q (match es[SetTable.below t.place slot]?,t.place[SetTable.below t.place slot]? with|some (_,x),some j=>some (x,j+1)|_,_=>none) s):wpAny (model prog w) A (setNext a slot i ep) Q E s:=by
 obtain⟨ob,hob,hx,hdd⟩:=S.obj;unfold setNext;refine Yv (Qi hob hdd S.fit (Yv (NV ?_)));rw[hb,Yx (by decide)]
 dsimp only
 show wpAny _ _ (if (!t.plain&&decide (es.size>1))=true then _ else _) _ _ _;rw[hp,Yx (by decide)];refine Yv (?_:wpAny _ _ (if (!t.led && !es.isEmpty)=true then unsupported "set:maker-not-led" else pure ()) _ _ _);have hl:t.led=true:=by rw[S.tab.led,hb];rfl
 rw[hl,Yx (by simp)];exact Y2 (Y2 h)
def Zbc{Q:Value->Shared->Prop}{p:Nat}{e:Int×Value}(S:SetAt w s.heap a js es ep t)(he:es[p]?=some e)(h:Q e.2 s):wpAny (model prog w) A (setNextDrawn a p ep) Q E s:=by
 obtain⟨ob,hob,hx,hdd⟩:=S.obj;unfold setNextDrawn;refine Yv (Qi hob hdd S.fit ?_)
 dsimp only
 rw[Yx (by simp),he];exact Y2 h
def O4{Q:Nat->Shared->Prop}{src:Source}{m:Nat}(hm:m≠0)(h:∀k d,k<m->Q k {s with drawn:=d}):wpAny (model prog w) A (choose src m) Q E s:=by
 intro Γ p hΓ;unfold choose;rw[Sem.wp_choose];exact⟨hm,h _ _ (Nat.mod_lt _ (Nat.pos_of_ne_zero hm))⟩
def SO{α:Type}:∀(xs:List α) (k:Nat) (h:k<xs.length),(xs[k]::xs.eraseIdx k).Perm xs
 |x::r,0,_=>List.Perm.refl _
 |x::r,k+1,h=>by
  have hk:k<r.length:=by simpa using h
  have ih:=SO r k hk;show(r[k]::x::r.eraseIdx k).Perm (x::r);exact(List.Perm.swap _ _ _).trans (List.Perm.cons _ ih)
def Zaz{α:Type}:∀(m:Nat) (xs:List α) (s:Shared) {Q:List α->Shared->Prop},xs.length=m->(∀ys d,ys.Perm xs->Q ys {s with drawn:=d})->wpAny (model prog w) A (drawOrder m xs) Q E s:=by
 intro m
 induction m with
 |zero=>
  intro xs s Q hl h;have e:xs=[]:=WG.mp hl;subst e;exact Y2 (h [] s.drawn (List.Perm.refl _))
 |succ m ih=>
  intro xs s Q hl h;cases xs with
  |nil=>simp at hl
  |cons x r=>
   unfold drawOrder;refine Yv (O4 (by simp) fun k d hk=>?_);rw[Yt hk];refine Yv (ih _ _ (by rw[List.length_eraseIdx_of_lt hk];simpa using hl) fun ys d2 hp=>Y2 ?_);exact h _ d2 ((List.Perm.cons _ hp).trans (SO _ _ hk))
def SetAt.keep {h h':Heap} (S:SetAt w h a js es ep t) (k:∀o,h.get? a=some o->h'.get? a=some o):SetAt w h' a js es ep t:=by
 obtain⟨⟨o,ho,r⟩,b,c,d,e,f,g⟩:=S;exact⟨⟨o,k o ho,r⟩,b,c,d,e,f,g⟩
def Cb{Q:Value->Shared->Prop}(hit:SI s.heap I a first i n ep)(h:Q (.ref I) s):wpAny (model prog w) A (pyIter (.ref I)) Q E s:=by
 refine wpAny_pyIter_slot hit.typ He (Qa He hit.typ Zb9 ?_ (Ri _));show wpAny _ _ (ret (.ref I)) _ _ s;exact Y2 ⟨_,rfl, "set_iterator",_,hit.typ,si_slot.lookup,h⟩
def Cw(hh:A.handled=none)(I a:Addr)(hne:a≠I)(vs:List Value)(hl:vs.length=es.size)(sl:Nat->Nat)(nx:∀(A:Around) (E:Value->Shared->Prop) (s:Shared) (i:Nat) (Q:Option (Value×Nat)->Shared->Prop),i<=es.size->SetAt w s.heap a js es ep t->Q ((vs[i]?).map fun v=>(v,sl (i+1))) s->wpAny (model prog w) A (setNext a (sl i) i ep) Q E s) :
  Walks prog w A I [I,a] [I] es.size (fun i v=>vs[i]?=some v) (fun i h=>SI h I a (.int (sl i) 0) i es.size ep/\SetAt w h a js es ep t) where
 sub:=fun b hb=>by simp at hb;simp[hb]
 frame:=fun _ _ _ st k=>⟨st.1.at fun o e=>k I (by simp) o e,st.2.keep fun o e=>k a (by simp) o e⟩
 item:=fun i s Q E hi st fin=>by
  obtain⟨o,ho,hc,hd⟩:=id st.1;refine NS st.1 st.2 ?_;unfold T5
  dsimp only
  rw[Wb,Wb,Wb];refine Yv (nx _ _ s i _ (QD hi) st.2 ?_);have hi2:i<vs.length:=by omega
  rw[Yt hi2];show wpAny _ _ (do setField (.ref I) 0 (rawInt (sl (i+1)));setField (.ref I) 1 (rawInt ((i:Int)+1));ret vs[i]) _ _ s
  refine Yv (WL ho hd (by simp) ?_);have g1:=Wq (Obj.mapFields (·.setIfInBounds 0 (rawInt (sl (i+1):Int)))) ho (WM (Wz hd _));have d1:(Obj.mapFields (·.setIfInBounds 0 (rawInt (sl (i+1):Int))) o).data=.fields #[.int (sl (i+1)) 0,.int i 0,.ref a,.int es.size 0,.int ep 0]:=by rw[Wz hd];simp[rawInt]
  refine Yv (WL g1 d1 (by simp) ?_);have sb:=(W3 s.heap I (Obj.mapFields (·.setIfInBounds 0 (rawInt (sl (i+1):Int))))).trans (W3 _ I (Obj.mapFields (·.setIfInBounds 1 (rawInt ((i:Int)+1)))));refine Y2 ⟨_,rfl,fin vs[i] _ s.toks (Yt hi2) ⟨?_,st.2.keep fun o e=>sb.extBut a o hne e⟩ fun b o hb e=>sb.extBut b o (fun z=>hb (by simp[z])) e⟩;exact SI.step1 (s:={s with heap:=_}) (x:=.none) g1 ((QP ..).trans hc) d1
 done:=fun s Q E st fin=>by
  obtain⟨o,ho,hc,hd⟩:=id st.1;refine NS st.1 st.2 ?_;unfold T5
  dsimp only
  rw[Wb,Wb,Wb];refine Yv (nx _ _ s es.size _ (Y3 _) st.2 ?_);rw[Qf (by omega)];exact HI hh ho hd (by simp) fun h' eb=>fin h' s.toks fun b o hb e=>eb b o (fun z=>hb (by simp[z])) e
 self:=fun _ _ _ _ st fin=>Cb st.1 fin
def Zal(hh:A.handled=none)(I a T:Addr)(hne:a≠I)(hT:T≠I)(ps:List Nat)(hl:ps.length=es.size)(hps:∀p∈ps,p<es.size)(vs:List Value)(hvs:vs=ps.map fun p=>((es[p]?).map (·.2)).getD .none) :
  Walks prog w A I [I,a,T] [I] es.size (fun i v=>vs[i]?=some v) (fun i h=>SI h I a (.ref T) i es.size ep/\SetAt w h a js es ep t/\∃o,h.get? T=some o/\∃c,o.data=.seq (ps.map fun(p:Nat)=>rawInt p).toArray c) where
 sub:=fun b hb=>by simp at hb;simp[hb]
 frame:=fun _ _ _ st k=>⟨st.1.at fun o e=>k I (by simp) o e,st.2.1.keep fun o e=>k a (by simp) o e,let ⟨o,ho,c⟩:=st.2.2;⟨o,k T (by simp) o ho,c⟩⟩
 item:=fun i s Q E hi st fin=>by
  obtain⟨o,ho,hc,hd⟩:=id st.1;obtain⟨oT,hoT,c,hdT⟩:=st.2.2;refine NS st.1 st.2.1 ?_;unfold T5
  dsimp only
  refine Yv (wpAny_seqItems hoT hdT ?_);have hi2:i<ps.length:=by omega
  have e1:(ps.map fun(p:Nat)=>rawInt p).toArray[(i:Int).toNat]?=some (.int ps[i] 0):=by
   rw[Wb,List.getElem?_toArray,Y6,Yt hi2];rfl
  have hp:=hps _ (YK hi2)
  dsimp only
  rw[e1]
  dsimp only
  have e2:es[ps[i]]?=some es[ps[i]]:=WB hp;have e3:vs[i]?=some (es[ps[i]]).2:=by rw[hvs,Y6,Yt hi2];simp[hp]
  rw[Wb,Wb];refine Yv (Zbc st.2.1 e2 (Yv (WL ho hd (by simp) ?_)));have sb:=W3 s.heap I (Obj.mapFields (·.setIfInBounds 1 (rawInt ((i:Int)+1))));exact Y2 ⟨_,rfl,fin _ _ s.toks e3 ⟨SI.step1 (x:=.none) ho hc hd,st.2.1.keep fun o e=>sb.extBut a o hne e,oT,sb.extBut T oT hT hoT,c,hdT⟩ fun b o hb e=>sb.extBut b o (fun z=>hb (by simp[z])) e⟩
 done:=fun s Q E st fin=>by
  obtain⟨o,ho,hc,hd⟩:=id st.1;obtain⟨oT,hoT,c,hdT⟩:=st.2.2;refine NS st.1 st.2.1 ?_;unfold T5
  dsimp only
  refine Yv (wpAny_seqItems hoT hdT ?_)
  have e1:(ps.map fun(p:Nat)=>rawInt p).toArray[(es.size:Int).toNat]?=none:=by
   rw[Wb,List.getElem?_toArray,Y6,Qf (by omega)];rfl
  dsimp only
  rw[e1]
  dsimp only
  refine Yv (WL ho hd (by simp) ?_);have g1:=Wq (Obj.mapFields (·.setIfInBounds 0 (rawInt 0))) ho (WM (Wz hd _));have sb:=W3 s.heap I (Obj.mapFields (·.setIfInBounds 0 (rawInt 0)));refine HI (s:={s with heap:=_}) hh g1 (Wz hd _) (by simp) fun h' eb=>fin h' s.toks fun b o hb e=>eb b o (fun z=>hb (by simp[z])) (sb.extBut b o (fun z=>hb (by simp[z])) e)
 self:=fun _ _ _ _ st fin=>Cb st.1 fin
def Ln{α:Type}(nx:Nat->Nat):∀(m k:Nat) (left:List α) (out:Array α),left.length=m->(pickOrder.go nx m k left out).toList.Perm (out.toList++left):=by
 intro m
 induction m with
 |zero=>
  intro k left out hl;have e:left=[]:=WG.mp hl;subst e;show out.toList.Perm (out.toList++[]);rw[Wl]
 |succ m ih=>
  intro k left out hl;have hlt:nx k % left.length<left.length:=Nat.mod_lt _ (by omega);unfold pickOrder.go;rw[Yt hlt]
  dsimp only
  refine(ih _ _ _ (by rw[List.length_eraseIdx_of_lt hlt];omega)).trans ?_;rw[Array.toList_push,QR];exact(SO left _ hlt).append_left _
def G5{α:Type}(nx:Nat->Nat)(xs:Array α):(pickOrder nx xs).toList.Perm xs.toList:=by
 have:=Ln nx xs.size 0 xs.toList #[] (by simp)
 simpa [pickOrder]using this
def slotAt(t:SetTable)(i:Nat):Nat:=if i=0 then 0 else t.place.getD (i-1) 0+1
def Eb{m:Nat}(h:t.fits m=true):t.place.size=m:=by
 simp only[SetTable.fits,Wf,beq_iff_eq]at h;exact h.1
def Za7(S:SetAt w s.heap a js es ep t){i:Nat}(hi:i<=es.size):SetTable.below t.place (slotAt t i)=i:=by
 have hz:=Eb S.fit;have R:=S.tab.ris.ris;refine Mh R (by omega) (fun k hk=>?_) fun k h1 h2=>?_
 ·unfold slotAt;rw[Yx (by omega)];by_cases e:k=i-1
  ·rw[e];omega
  ·have:=R k (i-1) (by omega) (by omega)
   omega
 ·unfold slotAt;by_cases h0:i=0
  ·rw[Yz h0];omega
  ·rw[Yx h0]
   have:=R (i-1) k (by omega) h2
   omega
def Zg8{Q:Value->Shared->Prop}{A':Around}(hh:A'.handled=none)(S:SetAt w s.heap a js es ep t)
  (fin:∀(I:Addr) (fp:List Addr) (vs:List Value) (St:Nat->Heap->Prop) (h1:Heap) (d1:Drawn),Walks prog w A' I fp [I] es.size (fun i v=>vs[i]?=some v) St->St 0 h1->(∀b∈fp,b=a\/s.heap.get? b=none)->vs.length=es.size->vs.Perm (es.toList.map (·.2))->
   s.heap.get? I=none->(∀b o,s.heap.get? b=some o->h1.get? b=some o)->Q (.ref I) {s with heap:=h1,drawn:=d1}) :
  wpAny (model prog w) A (pyIter (.ref a)) Q E s:=by
 obtain⟨ob,hob,hx,hdd⟩:=S.obj;have hT:s.TypeIs (.ref a) "set":=⟨ob,hob,hx.1⟩;have ha:a<s.heap.objs.size:=YB hob
 have new:∀b,s.heap.objs.size<=b->s.heap.get? b=none:=fun b hb=>by
  cases e:s.heap.get? b with
  |none=>rfl
  |some o=>exact absurd (YB e) (Vp.mpr hb)
 refine wpAny_pyIter_slot hT F.slot_set_iter (Qa F.slot_set_iter hT Zd8 ?_ (F.args_set_iter_1 _));unfold Builtin.«frozenset.__iter__»;show wpAny _ _ (Builtin.Frozenset.sizeOf a >>= _) _ _ s;unfold Builtin.Frozenset.sizeOf;refine Yv (Yv (wpAny_setEntries_of hob hdd S.fit (Y2 ?_)));refine Yv ?_;unfold setDrawn;refine Yv (Qi hob hdd S.fit (Yv (NV (Y2 ?_))))
 dsimp only
 change wpAny _ _ (if (!XZ w&&(!t.plain&&decide (es.size>1)))=true then _ else _) _ _ _;cases hd:(!XZ w&&(!t.plain&&decide (es.size>1)))with
 |false=>
  rw[Yx (by decide)];refine Yv (Y2 (Yv (wpAny_setEpoch_of hob hdd S.fit (Yv (Wt (Y2 ⟨_,rfl, "set_iterator",_,⟨_,YE _ rfl,rfl⟩,si_slot.lookup,?_⟩))))));have hne:a≠s.heap.objs.size:=YT ha;have S1:SetAt w (s.heap.push {cls:=.type "set_iterator",data:=.fields [rawInt 0,rawInt 0,.ref a,rawInt es.size,rawInt ep].toArray}) a js es ep t:=S.keep fun o e=>Y1 _ e
  have lt:∀b∈[s.heap.objs.size,a],b=a\/s.heap.get? b=none:=fun b hb=>by
   rcases YA.mp hb with rfl|hb
   ·exact .inr (new _ (Y3 _))
   ·exact .inl (Y5.mp hb)
  cases hb:XZ w with
  |true=>
   have hl:((pickOrder (w.params.setOrder a ep) es).toList.map (·.2)).length=es.size:=by
    rw[Yu,(G5 _ _).length_eq];simp
   refine fin _ _ _ _ _ s.drawn (Cw (t:=t) (js:=js) (ep:=ep) hh s.heap.objs.size a hne ((pickOrder (w.params.setOrder a ep) es).toList.map (·.2)) hl (fun _=>0) fun A E s i Q hi S' q=>OA S' hb ?_) ⟨⟨_,YE _ rfl,rfl,rfl⟩,S1⟩ lt hl ((G5 _ _).map _) (new _ (Y3 _)) fun b o e=>Y1 _ e;rw[Y6]at q;rw[←Ww];cases e:(pickOrder (w.params.setOrder a ep) es).toList[i]? with
   |none=>rw[e]at q;exact q
   |some x=>rw[e]at q;exact q
  |false=>
   have hp:(!t.plain&&decide (es.size>1))=false:=by rw[hb]at hd;simpa using hd
   refine fin _ _ _ _ _ s.drawn (Cw (t:=t) (js:=js) (ep:=ep) hh s.heap.objs.size a hne (es.toList.map (·.2)) (by simp) (slotAt t) fun A E s i Q hi S' q=>Ld S' hb hp ?_) ⟨⟨_,YE _ rfl,rfl,rfl⟩,S1⟩ lt (by simp) (List.Perm.refl _) (new _ (Y3 _)) fun b o e=>Y1 _ e;rw[Za7 S' hi];have hz:=Eb S'.fit;rw[Y6]at q;by_cases hlt:i<es.size
   ·have e1:es[i]?=some es[i]:=WB hlt;have e2:t.place[i]?=some t.place[i]:=WB (by omega);have e3:es.toList[i]?=some es[i]:=by rw[Ww];exact e1
    rw[e3]at q;rw[e1,e2]
    have e4:slotAt t (i+1)=t.place[i]+1:=by
     unfold slotAt;rw[Yx (by omega)]
     have:i<t.place.size:=by omega
     simp[Array.getD,this]
    have q':Q (some (es[i].2,slotAt t (i+1))) s:=q;rw[e4]at q';exact q'
   ·have e1:es[i]?=none:=QU (by omega);have e3:es.toList[i]?=none:=by rw[Ww];exact e1
    rw[e3]at q;rw[e1];exact q
 |true=>
  rw[Yz rfl];refine Yv (Zaz _ _ s (by simp) fun ps d hp=>?_);have hl:ps.length=es.size:=by rw[hp.length_eq];simp
  have hps:∀p∈ps,p<es.size:=fun p hm=>Q4.mp (hp.mem_iff.mp hm);refine Yv (Wt ?_ (by show(ps.map fun(i:Nat)=>rawInt i).toArray.size<=sizeLine;rw[YD,Yu,hl];exact QO S.few));have hob1:=Y1 {cls:=.type "tuple",data:=.seq (ps.map fun(i:Nat)=>rawInt i).toArray} hob;refine Yv (wpAny_setEpoch_of hob1 hdd S.fit (Yv (Wt (Y2 ⟨_,rfl, "set_iterator",_,⟨_,YE _ rfl,rfl⟩,si_slot.lookup,?_⟩))));have zT:(s.heap.push {cls:=.type "tuple",data:=.seq (ps.map fun(i:Nat)=>rawInt i).toArray}).objs.size=s.heap.objs.size+1:=Qp ..
  have eq1:(List.range es.size).map (fun p=>((es[p]?).map (·.2)).getD Value.none)=es.toList.map (·.2):=by
   apply V8;intro k;by_cases hk:k<es.size
   ·simp[hk]
   ·have:es.size<=k:=by omega
    simp[this]
  refine fin _ _ _ _ _ d (Zal (t:=t) (js:=js) (ep:=ep) hh _ a s.heap.objs.size ?_ ?_ ps hl hps _ rfl) ⟨⟨_,YE _ rfl,rfl,rfl⟩,S.keep fun o e=>Y1 _ (Y1 _ e),_,Y1 _ (YE _ rfl),0,rfl⟩ (fun b hb=>?_) (by rw[Yu];exact hl) ?_ (new _ ?_) fun b o e=>Y1 _ (Y1 _ e)
  ·show a≠_;rw[zT];exact YT (Qj ha)
  ·show s.heap.objs.size≠_;rw[zT];exact YT (Qr _)
  ·rcases YA.mp hb with rfl|hb
   ·refine .inr (new _ ?_);show s.heap.objs.size<=_;rw[zT];exact QC _
   ·rcases YA.mp hb with rfl|hb
    ·exact .inl rfl
    ·rw[Y5.mp hb];exact .inr (new _ (Y3 _))
  ·rw[←eq1];exact hp.map _
  ·show s.heap.objs.size<=_;rw[zT];exact QC _
def IS{Q:Bool->Shared->Prop}(hT:s.TypeIs (.ref a) "set")(h:Q false s):wpAny (model prog w) A (Builtin.List.listLengthHint (.ref a)) Q E s:=by
 unfold Builtin.List.listLengthHint;refine Yv (wpAny_specialOf hT F.slot_set_len.lookup ?_);generalize eid:("set.__len__" : String)=z
 wp_delta
 have sp:splitId z=some ("set","__len__"):=by subst eid;decide +kernel
 rw[sp];subst eid;refine Yv (wpAny_isInstance (T:="set") (b:=true) hT (by rw[isSubtype_type];kernel_rfl) (wpAny_ite_split (fun z=>absurd z (by decide)) fun _=>?_));exact wpAny_ite_split (fun _=>Yv (wpAny_typeOf hT (Y2 h))) fun z=>absurd (by decide +kernel) z
def Oj{R:Result->Shared->Prop}(hh:A.handled=none)(S:SetAt w s.heap a js es ep t)(D:Addr)(c:Nat)(res:Value)(hD:s.heap.get? D=some {cls:=.type "list",data:=.seq #[] c})(hne:D≠a)(fin:∀(h':Heap) (tk:Nat) (d:Drawn) (vs:List Value) (c':Nat),vs.Perm (es.toList.map (·.2))->h'.get? D=some {cls:=.type "list",dict:=none,data:=.seq vs.toArray c',slots:=#[]}->(∀b o,b≠D->s.heap.get? b=some o->h'.get? b=some o)->R (.ok (.ret res)) {s with heap:=h',toks:=tk,drawn:=d}) :
  wpAny (model prog w) A.in1 (Builtin.List.listExtendWith (.ref D) (.ref a) res) (fun f s'=>match f with | .done f=>R (.ok f) s' | .again c'=>c'.quiet=true/\codeAny (model prog w) A c' R s') (fun e s'=>R (.error e) s') s:=by
 obtain⟨ob,hob,hx,hdd⟩:=S.obj;have hT:s.TypeIs (.ref a) "set":=⟨ob,hob,hx.1⟩;unfold Builtin.List.listExtendWith;refine Yv (wpAny_typeOf (T:="set") hT ?_);have n1:Builtin.List.listSameRef (.ref D) (.ref a)=false:=by simp[Builtin.List.listSameRef,hne]
 have n2:(Value.type "set" == Value.type "list")=false:=by decide
 have n3:(Value.type "set" == Value.type "tuple")=false:=by decide
 simp only[n1,n2,n3,Bool.or_false,QI,QZ];refine Yv (Zg8 (A':=A.in1) hh S fun I fp vs St h1 d1 W st0 flt hl hp hI keep=>?_);have hDI:D≠I:=fun z=>by rw[←z,hD]at hI;cases hI
 have loop:∀(h:Heap) (tk c1:Nat),St 0 h->(∀b o,b≠D->s.heap.get? b=some o->h.get? b=some o)->h.get? D=some {cls:=.type "list",data:=.seq #[] c1}->D∉fp->
   codeAny (model prog w) A (.builtin "list.extend.loop" ⟨[.ref D,.ref I,res],[]⟩) R {s with heap:=h,toks:=tk,drawn:=d1}:=fun h tk c1 st hk hD1 hDf=>by
  refine codeAny_extend_loopS W.toS (QO S.few) D hDf res es.size 0 _ #[] c1 rfl (WA _) st hD1 (ItemsOf.nil _) fun s' acc c' hm hD' hacc=>?_
  have ev:acc.toList=vs:=by
   apply V8;intro k;by_cases hk2:k<acc.size
   ·have e1:acc[k]?=some acc[k]:=WB hk2;rw[Ww,e1];exact(hacc.2 k _ e1).symm
   ·rw[Ww,QU (by omega),Qf (by have:=hacc.1;omega)]
  have e2:acc=vs.toArray:=by rw[←ev]
  rw[e2]at hD';rw[Moved.eq_with hm];refine fin s'.heap s'.toks d1 vs c' hp hD' fun b o hb e=>hm.heap b o (fun hmem=>?_) (hk b o hb e);rcases YA.mp hmem with z|z
  ·exact hb z
  ·rw[Y5.mp z,hI]at e;cases e
 have hDf:D∉fp:=fun hm=>by
  rcases flt D hm with z|z
  ·exact hne z
  ·rw[hD]at z;cases z
 have hT1:Shared.TypeIs {s with heap:=h1,drawn:=d1} (.ref a) "set":=⟨ob,keep _ _ hob,hx.1⟩
 refine Yv (WV (IS hT1 ?_));have hD1:=keep _ _ hD;refine wpAny_ite_split (fun _=>?_) fun _=>Y2 ⟨QX F.plain_extend_loop _,loop _ _ c st0 (fun b o _ e=>keep b o e) hD1 hDf⟩;refine Yv (wpAny_rule (Yv (?_:wpAny _ _ (updateSeq D (·.push .none) >>= fun _=>updateSeq D (·.pop)) _ _ _)));refine Yv (wpAny_updateSeq hD1 rfl ?_);have hD2:=Wq (Obj.mapSeq (·.push Value.none)) hD1 rfl;refine wpAny_updateSeq (hz:=by seq_fits) hD2 rfl ?_;have hD3:=Wq (Obj.mapSeq (·.pop)) hD2 rfl
 have oth:∀b o,b≠D->h1.get? b=some o->((h1.update D (Obj.mapSeq (·.push Value.none))).update D (Obj.mapSeq (·.pop))).get? b=some o:=fun b o hb e=>
  (Wv _ _ (Ne.symm hb)).trans ((Wv _ _ (Ne.symm hb)).trans e)
 exact Y2 ⟨QX F.plain_extend_loop _,loop _ _ _ (W.frame 0 _ _ st0 fun b hb o e=>oth b o (fun z=>hDf (z▸hb)) e) (fun b o hb e=>oth b o hb (keep b o e)) hD3 hDf⟩
def Zdg{R:List Value->Shared->Prop}(hh:A.handled=none)(S:SetAt w s.heap a js es ep t)(fin:∀(h':Heap) (tk:Nat) (d:Drawn) (vs:List Value),vs.Perm (es.toList.map (·.2))->(∀b o,s.heap.get? b=some o->h'.get? b=some o)->s.heap.objs.size<h'.objs.size->R vs {s with heap:=h',toks:=tk,drawn:=d}) :
  wpAny (model prog w) A (collect (.ref a)) R E s:=by
 obtain⟨ob,hob,hx,hdd⟩:=S.obj;have hne:s.heap.objs.size≠a:=VC (YB hob);unfold collect;refine Yv (wpAny_runValue (Qy entry_proto_collect' ?_));have u1:=Qm (A:=A) PySem.F.plain_proto_collect ⟨[.ref a],[]⟩;rw[u1];refine(show wpAny _ A.in1 (newList [] >>= fun l=>again (.builtin "list.__iadd__" ⟨[l,.ref a],[]⟩)) _ _ s from Yv (Wt (Y2 ⟨QX PySem.F.plain_list_iadd _,Qy entry_list_iadd' ?_⟩)))
 have u2:=Qm (A:=A) PySem.F.plain_list_iadd ⟨[.ref s.heap.objs.size,.ref a],[]⟩;rw[u2];have g1:(s.heap.push {cls:=.type "list",data:=.seq ([]:List Value).toArray}).get? s.heap.objs.size=some {cls:=.type "list",data:=.seq #[]}:=YE _ rfl;show wpAny _ A.in1 (Builtin.List.listExtendWith (.ref s.heap.objs.size) (.ref a) (.ref s.heap.objs.size)) _ _ _
 have key:=Oj (prog:=prog) (A:=A) (s:={s with heap:=s.heap.push {cls:=.type "list",data:=.seq ([]:List Value).toArray}})
  (R:=fun q s'=>∃h' tk d vs c',q=.ok (.ret (.ref s.heap.objs.size))/\s'={s with heap:=h',toks:=tk,drawn:=d}/\vs.Perm (es.toList.map (·.2))/\(∀b o,s.heap.get? b=some o->h'.get? b=some o)/\
   h'.get? s.heap.objs.size=some {cls:=.type "list",dict:=none,data:=.seq vs.toArray c',slots:=#[]}) hh (S.keep fun o e=>Y1 _ e) s.heap.objs.size 0 (.ref s.heap.objs.size) g1 hne
  fun h' tk d vs c' hp hD hk=>⟨h',tk,d,vs,c',rfl,rfl,hp,fun b o e=>hk b o (YT (YB e)) (Y1 _ e),hD⟩
 refine Wx key (fun f s' x=>?_) fun e s' x=>?_
 ·cases f with
  |done f=>
   obtain⟨h',tk,d,vs,c',e,rfl,hp,hk,hD⟩:=x;cases e
   refine(show wpAny _ A (load s.heap.objs.size >>= _) _ _ _ from Yv (wpAny_load hD (Y2 ?_)))
   exact fin h' tk d vs hp hk (YB hD)
  |again c1=>
   refine⟨x.1,Q5 x.2 fun q s2 y=>?_⟩;obtain⟨h',tk,d,vs,c',rfl,rfl,hp,hk,hD⟩:=y;refine(show wpAny _ A (load s.heap.objs.size >>= _) _ _ _ from Yv (wpAny_load hD (Y2 ?_)))
   exact fin h' tk d vs hp hk (YB hD)
 ·obtain⟨_,_,_,_,_,e',_⟩:=x;cases e'
def Iv:∀{l:List (Int×Value)},(∀e∈l,Ent e)->IntsAre (l.map (·.2)) (l.map keyOf)
 |[],_=>.nil
 |e::r,h=>by
  obtain⟨k,t,rfl⟩:=h e YO;exact .cons k t (Iv fun x hx=>h x (YJ _ hx))
def Mu{vs us:List Value}(p:vs.Perm us):∀{ns:List Int},IntsAre us ns->∃ms,IntsAre vs ms/\ms.Perm ns:=by
 induction p with
 |nil=>intro ns h;cases h;exact⟨[],.nil,List.Perm.refl _⟩
 |cons x _ ih=>
  intro ns h;cases h with
  |cons n t r=>
   obtain⟨ms,h1,h2⟩:=ih r;exact⟨n::ms,.cons n t h1,List.Perm.cons _ h2⟩
 |swap x y l=>
  intro ns h;cases h with
  |cons n t r=>
   cases r with
   |cons n' t' r'=>exact⟨n'::n::_,.cons n' t' (.cons n t r'),List.Perm.swap _ _ _⟩
 |trans _ _ ih1 ih2=>
  intro ns h;obtain⟨ms,h1,h2⟩:=ih2 h;obtain⟨ks,h3,h4⟩:=ih1 h1;exact⟨ks,h3,h4.trans h2⟩
def Zgc{Q:Value->Shared->Prop}(hh:A.handled=none)(B:SetB w s.heap a js)(h64:js.length<64)
  (fin:∀(l:Addr) (h':Heap) (tk:Nat) (d:Drawn) (out:List Value) (ns:List Int) (e:Nat),IntsAre out ns->ns.Perm js->ns.Pairwise (·<=·)->s.heap.get? l=none->s.heap.objs.size<=l->h'.get? l=some {cls:=.type "list",data:=.seq out.toArray e}->
   (∀b o,s.heap.get? b=some o->h'.get? b=some o)->Q (.ref l) {s with heap:=h',toks:=tk,drawn:=d}) :
  wpAny (model prog w) A (call (.builtin "sorted") [.ref a]) Q E s:=by
 obtain⟨es,ep,t,S⟩:=B;refine Calls.call_function_entry kind_sorted plain_sorted entry_sorted (args_sorted1 _) ?_;unfold Builtin.«sorted»;refine Yv (m:=checkCount "sorted" 1 1 _) (Y2 (Yv (Zdg (A:=A.in1) hh S fun h1 tk d vs hp keep big=>?_)));obtain⟨ms,hI,hms⟩:=Mu hp (Iv S.ent);have hms2:ms.Perm js:=hms.trans S.per;have hl:vs.length<64:=by rw[IntsAre.length hI,hms2.length_eq];exact h64
 refine Yv (wpAny_newList ?_ (by have:(64:Nat)<=sizeLine:=(by decide);omega));have g1:(h1.push (seqObj "list" vs.toArray 0)).get? h1.objs.size=some (seqObj "list" vs.toArray 0):=YE _ rfl;refine Yv (WV (Qa slot_list_sort ⟨_,g1,rfl⟩ entry_list_sort (list_sort_tree g1 hI hl fun out ns a1 a2 a3=>⟨_,rfl,?_⟩) (args_list_sort _)));obtain⟨e,he⟩:=sortedHeap_at (out:=out) g1;have hsz:s.heap.objs.size<=h1.objs.size:=QD big;refine Y2 ⟨_,rfl,fin h1.objs.size _ tk d out.toList ns e a1 (a2.trans hms2) a3 ?_ hsz (by simpa [seqObj]using he) fun b o q=>?_⟩
 ·cases q:s.heap.get? h1.objs.size with
  |none=>rfl
  |some o=>exact absurd (YB (keep _ _ q)) (WD _)
 ·have hlt:=YB (keep b o q);rw[sortedHeap_old (YT hlt) (by rw[size_push'];exact Qj hlt)];exact Y1 _ (keep b o q)
end
end SetR
namespace Own
open PySem PySem.Spec PyProof.Rows L2
def SetH(w:World)(l:Addr)(js:List Int):HO:=.ext fun h=>SetR.SetB w h l js
section
variable {X:Cx}
def LN{P:Program}{w:World}{H:Hp}{h:Heap}{l:Addr}{js:List Int}(B:SetR.SetB w h l js):ObjOk P w H h l (SetH w l js):=by
 refine⟨B,?_,fun h1 h2 B1 k=>B1.at k⟩;obtain⟨es,ep,t,S⟩:=B;obtain⟨o,ho,_⟩:=S.obj;exact⟨o,ho⟩
def OZ(hc:X.calm=true):Xd X (.type "set") (fun xs H Q=>∃(p:Addr) (ns:List Int),xs=[.ref p]/\SqL X.K H p (ns.map V.int)/\ns.length+1<4096/\∀l,H l=none->Q (.ref l) (upd H l (SetH X.w l (ns.foldl SetR.addJ [])))):=by
 intro pins s σ H xs us Q I rv h;obtain⟨p,ns,rfl,hS,hz,q⟩:=h;obtain⟨u,rfl,ru⟩:=rv.one;obtain rfl:u=Value.ref p:=ru;obtain⟨its,r,pl,_⟩:=I.list hS;refine SetR.Zd4 (I.ok.hd hc) pl.isList (by simpa using NU r) hz fun h' tk B keep=>?_;have hf:H s.heap.objs.size=none:=I.hok.fresh (Y3 _);exact⟨.ref s.heap.objs.size,upd H s.heap.objs.size (SetH X.w s.heap.objs.size _),I.laid (t':=tk) (fun b o e=>keep b o (YB e) e) (Y3 _) (LN B),rfl,q _ hf⟩
def EM(hc:X.calm=true):Xd X (.builtin "sorted") (fun xs H Q=>∃(p:Addr) (js:List Int),xs=[.ref p]/\js.length<64/\(SqL X.K H p (js.map V.int)\/H p=some (SetH X.w p js))/\
  ∀(l:Addr) (ns:List Int),H l=none->ns.Perm js->ns.Pairwise (·<=·)->Q (.ref l) (upd H l (.lst (ns.map V.int)))):=by
 intro pins s σ H xs us Q I rv h;obtain⟨p,js,rfl,hz,hS,q⟩:=h;obtain⟨u,rfl,ru⟩:=rv.one;obtain rfl:u=Value.ref p:=ru
 have big:∀{ns:List Int},ns.Perm js->(ns.map V.int).length<=sizeLine:=fun hp=>by
  rw[Yu,hp.length_eq]
  have:(64:Nat)<=sizeLine:=by decide
  omega
 rcases hS with hS|hS
 ·obtain⟨its,r,pl,_⟩:=I.list hS;have hI:IntsAre its js:=by simpa using NU r
  refine sorted_ints pl.isList hI (by rw[IntsAre.length hI];exact hz) fun out ns a1 a2 a3=>?_;obtain⟨e,he⟩:=sortedAll_at s.heap its out;have hf:H (s.heap.objs.size+1)=none:=I.hok.fresh (QC _);refine⟨.ref (s.heap.objs.size+1),upd H (s.heap.objs.size+1) (.lst (ns.map V.int)),I.laid (t':=s.toks) (fun b o e=>sortedAll_old e) (QC _) ⟨big a2,out.toList,e,Sq a1,?_⟩,rfl,q _ ns hf a2 a3⟩;simpa [seqObj]using he
 ·have B:SetR.SetB X.w s.heap p js:=(show ObjOk X.prog X.w H s.heap p (SetH X.w p js)from I.hok p _ hS).1
  refine SetR.Zgc (I.ok.hd hc) B hz fun l h' tk d out ns e a1 a2 a3 nl hl he keep=>?_;have hf:H l=none:=I.hok.fresh hl;refine⟨.ref l,upd H l (.lst (ns.map V.int)),?_,rfl,q l ns hf a2 a3⟩;have ok:HOk X.prog X.w (upd H l (.lst (ns.map V.int))) h':=I.hok.laid keep hl ⟨big a2,out,e,Sq a1,he⟩;exact I.call (ch:=[]) (h':=h') (g':=s.gens) (d':=d) (t':=tk) (Un.laid keep hl hf) ok I.bare (fun b z=>absurd z (by simp))
end
section
variable {X:Cx}{K:Za}
def Ei(hK:X.K=K:=by rfl):IxR X (fun x y H Q=>rIxL K x y H Q\/rIxT K x y H Q):=by subst hK;exact O6
def Zfz(hK:X.K=K:=by rfl):Xd X (.builtin "len") (fun xs H Q=>∃x n,xs=[x]/\LenV K x H n/\Q (.int n) H):=by subst hK;exact M0
def LQ(hK:X.K=K:=by rfl):OpR X (compareOp .In) (rIn K false):=by subst hK;exact Zdr
def Zg3(hK:X.K=K:=by rfl):OpR X (compareOp .NotIn) (rIn K true):=by subst hK;exact Zca
def P0{pos:Pos}{es:List Expr}{k:Nat}{t:TGs}{n:Nat}(hc:X.calm=true)(h:PGs X es t)(hK:X.K=K:=by rfl)(hn:(assignEach es X.env).length=n:=by rfl)(hst:(assignEach es X.env).findIdx? (·.1)=none:=by rfl):PG X (.Tuple es k pos) (gTup K n t):=by subst hK;exact Zgb hc h hn hst
end
section
variable {α:Type}{R:Hp->V->α->Prop}{φ:List (Option Nat)}{g:TG}{tc:TT}{te:TE}{σ:L2.St}{H1:Hp}{F:Hp->Prop}{D:Addr}
def Zah{K:Za}{a:Addr}{xs:List V}{ds:List α}(f:α->Option V)(hS:SqL K H1 a xs)(hd:xs.length=ds.length)(hD:H1 D=none)(hz:ds.length<=sizeLine)(turn:∀(i:Nat) (x:V) (d:α) (H2:Hp),xs[i]?=some x->ds[i]?=some d->Same H1 H2->∀k:Option V->Hp->Prop,k (f d) H2->g x (atStart φ σ) H2 fun σ2 H4=>Sub (atStart φ σ) σ2/\tc σ2 H4 fun b H5=>if b=true then te σ2 H5 fun y H6=>k (some y) H6 else k none H5)(done:F (upd H1 D (.lst (ds.filterMap f)))) :
  ∃W:Nat->Nat->List V->Hp->Prop,(∃m,W 0 m [] (upd H1 D (.lst [])))/\
   ∀i m ys H2,W i m ys H2->((Itl K a).stop i H2/\F H2)\/((Itl K a).go i H2/\∀x H3,(Itl K a).yld i H2 x H3->g x (atStart φ σ) H3 fun σ2 H4=>Sub (atStart φ σ) σ2/\tc σ2 H4 fun b H5=>
    if b=true then te σ2 H5 fun y H6=>H6 D=some (.lst ys)/\ys.length<sizeLine/\∃m',m'<m/\W (i+1) m' (ys++[y]) (upd H6 D (.lst (ys++[y])))else ∃m',m'<m/\W (i+1) m' ys H5):=by
 refine⟨fun i m ys H2=>m=ds.length-i/\i<=ds.length/\ys=(ds.take i).filterMap f/\H2=upd H1 D (.lst ys),⟨ds.length,by simp,WA _,by simp,rfl⟩,?_⟩;rintro i m ys H2 ⟨rfl,hi,rfl,rfl⟩;have S2:Same H1 (upd H1 D (.lst ((ds.take i).filterMap f))):=Xe hD;by_cases hlt:i<ds.length
 ·refine .inr ⟨⟨xs,xs[i]'(by omega),S2.seq hS,by simp[hd,hlt]⟩,fun x H3 y=>?_⟩;obtain⟨e,y⟩:=y;subst e;have hx:=y xs (S2.seq hS);have ed:ds[i]?=some ds[i]:=Yt hlt
  refine turn i x ds[i] _ hx ed S2 (fun o H'=>match o with
   |some y=>H' D=some (.lst ((ds.take i).filterMap f))/\((ds.take i).filterMap f).length<sizeLine/\∃m',m'<ds.length-i/\(m'=ds.length-(i+1)/\i+1<=ds.length/\(ds.take i).filterMap f++[y]=(ds.take (i+1)).filterMap f/\upd H' D (.lst ((ds.take i).filterMap f++[y]))=upd H1 D (.lst ((ds.take i).filterMap f++[y])))
   |none=>∃m',m'<ds.length-i/\(m'=ds.length-(i+1)/\i+1<=ds.length/\(ds.take i).filterMap f=(ds.take (i+1)).filterMap f/\H'=upd H1 D (.lst ((ds.take i).filterMap f)))) ?_
  have et:ds.take (i+1)=ds.take i++[ds[i]]:=YL hlt;cases ef:f ds[i]with
  |some y=>
   refine⟨UJ,?_,ds.length-(i+1),by omega,rfl,hlt,?_,MG⟩
   ·have h1:=List.length_filterMap_le f (ds.take i);rw[We]at h1;omega
   ·rw[et,Q7];simp[ef]
  |none=>
   refine⟨ds.length-(i+1),by omega,rfl,hlt,?_,rfl⟩;rw[et,Q7];simp[ef]
 ·have e:i=ds.length:=by omega
  subst e;refine .inl ⟨⟨xs,S2.seq hS,by omega⟩,?_⟩;rw[Wr];exact done
end
def eqL(xs ys:List V):Bool:=decide (xs.length=ys.length)&&(List.range xs.length).all fun j=>eqV (xs.getD j .non) (ys.getD j .non)
def rEqL(K:Za)(neg:Bool):R2:=fun x y H Q=>∃(p q:Addr) (xs ys:List V),x=.ref p/\y=.ref q/\SqL K H p xs/\SqL K H q ys/\xs.all XF=true/\ys.all XF=true/\Q (.bl (if neg then !eqL xs ys else eqL xs ys)) H
section
variable {X:Cx}
def FI{A:Around}{s:Shared}{xs ys:List V}{us ws:List Value}(r1:Vals xs us)(r2:Vals ys ws)(f1:xs.all XF=true)(f2:ys.all XF=true)(j:Nat)(h1:j<us.toArray.size)(h2:j<ws.toArray.size) :
  SeqAt.EqAt A s us.toArray[j] ws.toArray[j] (eqV (xs.getD j .non) (ys.getD j .non)):=by
 have l1:=r1.length;have l2:=r2.length;have g1:j<us.length:=by simpa using h1
 have g2:j<ws.length:=by simpa using h2
 have k1:xs[j]?=some (xs[j]'(by omega)):=Yt _;have k2:ys[j]?=some (ys[j]'(by omega)):=Yt _;obtain⟨u,eu,ru⟩:=r1.get k1;obtain⟨w,ew,rw'⟩:=r2.get k2
 have e1:us.toArray[j]=u:=by
  have:us[j]?=some us[j]:=Yt g1
  rw[this]at eu;simpa using Y7 eu
 have e2:ws.toArray[j]=w:=by
  have:ws[j]?=some ws[j]:=Yt g2
  rw[this]at ew;simpa using Y7 ew
 have d1:xs.getD j .non=xs[j]'(by omega):=by rw[Yw,k1];rfl
 have d2:ys.getD j .non=ys[j]'(by omega):=by rw[Yw,k2];rfl
 rw[e1,e2,d1,d2];exact Df ru rw' (Qs.mp f1 _ (YK _)) (Qs.mp f2 _ (YK _))
def Mn(hu:X.A.units<cLine):OpR X (compareOp .Eq) (rEqL X.K false):=by
 intro pins s σ H x y v u Q I rx ry h;obtain⟨p,q,xs,ys,rfl,rfl,hp,hq,f1,f2,k⟩:=h;obtain rfl:v=Value.ref p:=rx;obtain rfl:u=Value.ref q:=ry;obtain⟨us,r1,p1,_⟩:=I.list hp;obtain⟨ws,r2,p2,_⟩:=I.list hq;have l1:=r1.length;have l2:=r2.length;have k':Q (.bl (eqL xs ys)) H:=k;by_cases e:xs.length=ys.length
 ·refine SeqAt.eq_listAt p1.isList p2.isList (by simp;omega) hu (fun j h1 h2=>FI r1 r2 f1 f2 j h1 h2) ⟨.bl (eqL xs ys),H,I,?_,k'⟩;show _=Value.bool (eqL xs ys);unfold eqL;rw[Yy e,Qw,YD,←l1]
 ·refine SeqAt.eq_list_lengthsAt p1.isList p2.isList (by simp;omega) hu ⟨.bl (eqL xs ys),H,I,?_,k'⟩;show _=Value.bool (eqL xs ys);unfold eqL;rw[YH e];rfl
def Zhn(hu:X.A.units<cLine):OpR X (compareOp .NotEq) (rEqL X.K true):=by
 intro pins s σ H x y v u Q I rx ry h;obtain⟨p,q,xs,ys,rfl,rfl,hp,hq,f1,f2,k⟩:=h;obtain rfl:v=Value.ref p:=rx;obtain rfl:u=Value.ref q:=ry;obtain⟨us,r1,p1,_⟩:=I.list hp;obtain⟨ws,r2,p2,_⟩:=I.list hq;have l1:=r1.length;have l2:=r2.length;have k':Q (.bl (!eqL xs ys)) H:=k;by_cases e:xs.length=ys.length
 ·refine SeqAt.RcNeAt.lists p1.isList p2.isList (by simp;omega) hu (fun j h1 h2=>FI r1 r2 f1 f2 j h1 h2) _ _ _ _ ⟨.bl (!eqL xs ys),H,I,?_,k'⟩;show _=Value.bool (!eqL xs ys);unfold eqL;rw[Yy e,Qw,YD,←l1]
 ·refine SeqAt.RcNeAt.lists_lengths p1.isList p2.isList (by simp;omega) hu _ _ _ _ ⟨.bl (!eqL xs ys),H,I,?_,k'⟩;show _=Value.bool (!eqL xs ys);unfold eqL;rw[YH e];rfl
def Fs{xs:List Int}{us:List Value}(r:Vals (xs.map V.int) us)(z:Int):∀(j:Nat) (h1:j<us.length) (h2:j<xs.length),Value.isInt z us[j]=(xs[j]==z):=by
 intro j h1 h2;obtain⟨u,eu,t,rfl⟩:=r.get (x:=V.int xs[j]) (i:=j) (by rw[Y6,Yt h2];rfl);rw[Yt h1]at eu;rw[Y7 eu];simp[Value.isInt]
def Ov{xs:List Int}{us:List Value}(r:Vals (xs.map V.int) us)(z:Int)(t:Tok):∀y,y∈us.toArray->MeetsSeq.EqGives y (.int z t) (Value.isInt z y):=by
 intro y hy;obtain⟨j,hj,rfl⟩:=W1.mp (by simpa using hy:y∈us);have l1:=r.length;rw[Yu]at l1;rw[Fs r z j hj (by omega)];obtain⟨u,eu,t',rfl⟩:=r.get (x:=V.int (xs[j]'(by omega))) (i:=j) (by rw[Y6,Yt (show j<xs.length by omega)];rfl);rw[Yt hj]at eu;rw[Y7 eu];exact MeetsSeq.EqGives.int _ _ _ _
def F0(K:Za):V->List V->Hp->VK->Prop:=fun x vs H Q=>∃(l:Addr) (xs:List Int) (z:Int),x=.ref l/\vs=[.int z]/\SqL K H l (xs.map V.int)/\z∈xs/\Q (.int (xs.idxOf z:Nat)) H
def RV:MtM X "list.index" (F0 X.K):=by
 intro pins s σ H x vs v us Q I rx rv h;obtain⟨l,xs,z,rfl,rfl,hS,hz,q⟩:=h;cases rx
 obtain⟨u,rfl,t,rfl⟩:=rv.one;obtain⟨its,r,p1,hsz⟩:=I.list hS;obtain⟨o,n,ho,hc,hdn,hd⟩:=p1;obtain⟨c1,d1,dt1,sl1⟩:=o;simp only at hc hdn hd;subst hc hdn hd;have l1:=r.length;rw[Yu]at l1;have hj:xs.idxOf z<xs.length:=QJ.mpr hz;have hb:xs.length<=2 ^ 24:=by rw[Yu]at hsz;exact hsz
 refine call_meets W8 ⟨_,ho,rfl⟩ PySem.F.entry_list_index (PySem.F.args_list_index_2 _ _)
  (SeqAt.list_indexAt l its.toArray n none sl1 (.int z t) (Value.isInt z) (xs.idxOf z) (by simpa [←l1]using hj) (by omega) ?_ ?_) ⟨ho,fun y hy=>(Ov r z t y hy).at _ _,⟨.int (xs.idxOf z:Nat),H,I.tok _,⟨_,rfl⟩,q⟩⟩
 ·have e:=Fs r z (xs.idxOf z) (by omega) hj;show Value.isInt z its[xs.idxOf z]=true;rw[e];simpa using V2 hj
 ·intro m hm hlt;have hm':m<its.length:=by simpa using hm
  have e:=Fs r z m hm' (by omega);show Value.isInt z its[m]=false;rw[e]
  have:=List.not_of_lt_findIdx (p:=(· == z)) (xs:=xs) (i:=m) hlt
  simpa using this
end
section
variable {X:Cx}{K:Za}
def Tf(hK:X.K=K:=by rfl):MtM X "list.index" (F0 K):=by subst hK;exact RV
def PV{o e:Expr}{es:List Expr}{to:TE}{t:TA}{name:Str}{apos cpos:Pos}{T id:String}{r:V->List V->Hp->VK->Prop}(pa:PlainAttrs T)(slot:Slot T name id)(hty:typeOf (.builtin id)=pure (.type "method_descriptor"))(hm:MtM X id r)(ho:PE X o to)(ha:PA X (e::es) t)(hK:X.K=K:=by rfl)(hbase:attributeBase o name X.env (eval o X.env)=eval o X.env:=by rfl)
  (hfew:((backTo cpos (starEach (e::es) X.env)).all (fun x=>!x.1)&&(backToKw cpos (keywordEach [] X.env)).all (fun x=>x.1.isSome)
   && decide ((e::es).length+([]:List Keyword).length+(if ([]:List Keyword).isEmpty then 0 else 1)<30))=true:=by rfl)
  (hline:(apos.endLine==cpos.line)=true:=by rfl) (hs:starEach (e::es) X.env=(false,eval e X.env)::starEach es X.env:=by rfl) (hplain:(backTo cpos (starEach es X.env)).any (·.1)=false:=by rfl) :
  PE X (.Call (.Attribute o name apos) (e::es) [] cpos) (tBM K T r to t):=by
 subst hK;exact Kd pa slot hty hm ho ha hbase hfew hline hs hplain
end
def AL(xs ys:List Int):eqL (xs.map V.int) (ys.map V.int)=decide (xs=ys):=by
 unfold eqL;rw[Yu,Yu];by_cases e:xs=ys
 ·subst e;rw[Yy rfl,Yy rfl,Qw,Qs];intro j hj;have hj':j<xs.length:=by simpa using hj
  rw[Yw,Y6,Yt hj'];show(xs[j]==xs[j])=true;simp
 ·rw[YH e];by_cases hl:xs.length=ys.length
  ·rw[Yy hl,Qw,WU];intro hall;apply e;apply Vc hl;intro j h1 h2
   have:=Qs.mp hall j (by simpa using h1)
   rw[Yw,Y6,Yt h1,Yw,Y6,Yt h2]at this;have h3:(xs[j]==ys[j])=true:=this;simpa using h3
  ·rw[YH hl];rfl
def Pe(xs:List Int):(xs.map V.int).all XF=true:=by
 rw[List.all_map];exact Qs.mpr fun _ _=>rfl
end Own
namespace M
open PySem PySem.Spec PyProof.Rows L2 Own
def LV{α:Type}(R:Hp->V->α->Prop)(H:Hp)(vs:List V)(xs:List α):Prop:=
 vs.length=xs.length/\∀(i:Nat) (x:α),xs[i]?=some x->∃v,vs[i]?=some v/\R H v x
def LAt{α:Type}(R:Hp->V->α->Prop)(H:Hp)(l:Addr)(xs:List α):Prop:=∃vs,H l=some (.lst vs)/\LV R H vs xs
def XQ(H:Hp)(v:V)(q:Int×Int):Prop:=∃a,v=.ref a/\H a=some (.tup [.int q.1,.int q.2])
section
variable {α:Type}{R:Hp->V->α->Prop}{H H':Hp}{vs:List V}{xs:List α}{l:Addr}
def LV.get {i:Nat}{v:V} (h:LV R H vs xs) (e:vs[i]?=some v):∃x,xs[i]?=some x/\R H v x:=by
 have hi:i<xs.length:=by rw[←h.1];exact(YQ.mp e).1
 obtain⟨v',e',r⟩:=h.2 i xs[i] (by simp[hi]);rw[e]at e';cases e';exact⟨_,by simp[hi],r⟩
end
def Menu(m:List Int):Prop:=∃a b c d e:Int,m=[a,b,c,d,e]/\(1<=a/\a<=10)/\(1<=b/\b<=9/\(b=1\/b=3\/b=7\/b=9))/\(0<=c/\c<=9)/\(1<=d/\d<=1000)/\(1<=e/\e+d<=1001)
def Field(ps:List (Int×Int)):Prop:=∀q∈ps,1<=q.1/\q.1<=10/\1<=q.2/\q.2<=1000
def Zgp(js:List Int)(k z:Int):z∈SetR.addJ js k↔z∈js\/z=k:=by
 unfold SetR.addJ;split
 ·rename_i h;constructor
  ·exact fun x=>.inl x
  ·rintro(x|rfl)
   ·exact x
   ·exact h
 ·simp
def HU:∀(ns js:List Int) (z:Int),z∈ns.foldl SetR.addJ js↔z∈js\/z∈ns
 |[],js,z=>by simp
 |n::r,js,z=>by
  rw[List.foldl_cons,HU r,Zgp,YA];constructor
  ·rintro((h|h)|h)
   ·exact .inl h
   ·exact .inr (.inl h)
   ·exact .inr (.inr h)
  ·rintro(h|h|h)
   ·exact .inl (.inl h)
   ·exact .inl (.inr h)
   ·exact .inr h
def On{js:List Int}(k:Int)(h:js.Nodup):(SetR.addJ js k).Nodup:=by
 unfold SetR.addJ;split
 ·exact h
 ·rename_i hk;exact W4.mpr ⟨h,by simp,fun x hx y hy=>by rw[Y5.mp hy];rintro rfl;exact hk hx⟩
def GC:∀(ns:List Int) {js:List Int},js.Nodup->(ns.foldl SetR.addJ js).Nodup
 |[],_,h=>h
 |n::r,js,h=>GC r (On n h)
def Hg:∀(ns js:List Int),(ns.foldl SetR.addJ js).length<=js.length+ns.length
 |[],js=>by simp
 |n::r,js=>by
  have h1:=Hg r (SetR.addJ js n)
  have h2:(SetR.addJ js n).length<=js.length+1:=by
   unfold SetR.addJ;split
   ·omega
   ·simp
  rw[List.foldl_cons,YF];omega
def Cj{l:List Int}(h:l.Pairwise (·<=·))(n:l.Nodup):l.Pairwise (· < ·):=by
 have:=h.and n
 exact this.imp fun {a b} h=>by have:=h.1;have:=h.2;omega
def Hh{l₁ l₂:List Int}(h1:l₁.Pairwise (· < ·))(h2:l₂.Pairwise (· < ·))(h:∀z,z∈l₁↔z∈l₂):l₁=l₂:=by
 have n1:l₁.Nodup:=h1.imp fun {a b} h=>by omega
 have n2:l₂.Nodup:=h2.imp fun {a b} h=>by omega
 have p:l₁.Perm l₂:=(List.perm_ext_iff_of_nodup n1 n2).mpr h;exact p.eq_of_pairwise (le:=(· < ·)) (fun a b _ _ x y=>by omega) h1 h2
def tenL:List Int:=[1,2,3,4,5,6,7,8,9,10]
def Zgr{z:Int}:z∈tenL↔1<=z/\z<=10:=by
 unfold tenL;constructor
 ·intro h;simp only[YA,Vb,or_false]at h;omega
 ·rintro⟨h1,h2⟩;simp only[YA,Vb,or_false];omega
def Ul(ps:List (Int×Int)):List Int:=tenL.filter fun h=>decide (h∈ps.map (·.1))
def KQ(ps:List (Int×Int)):(Ul ps).Pairwise (· < ·):=List.Pairwise.filter _ (by unfold tenL;decide)
def B6{ps:List (Int×Int)}(hF:Field ps){z:Int}:z∈Ul ps↔z∈ps.map (·.1):=by
 unfold Ul;rw[YS,Q2,Zgr];constructor
 ·exact fun h=>h.2
 ·intro h;obtain⟨q,hq,rfl⟩:=YX.mp h
  have:=hF q hq
  exact⟨⟨this.1,this.2.1⟩,h⟩
def KJ(ps:List (Int×Int)):(Ul ps).length<=10:=by
 have:=Wd (fun h=>decide (h∈ps.map (·.1))) tenL
 exact this
def LC{ps:List (Int×Int)}{ns:List Int}(hF:Field ps)(p:ns.Perm ((ps.map (·.1)).foldl SetR.addJ []))(h:ns.Pairwise (·<=·)):ns=Ul ps:=by
 have nd:ns.Nodup:=p.symm.nodup (GC _ Qq);refine Hh (Cj h nd) (KQ ps) fun z=>?_;rw[p.mem_iff,HU,B6 hF];simp
def DM(z:Int)(xs:List Int):inV (.int z) (xs.map V.int)=decide (z∈xs):=by
 unfold inV;rw[List.any_map]
 induction xs with
 |nil=>simp
 |cons x r ih=>
  rw[Qv,ih];show((x==z) || _)=_;by_cases e:x=z
  ·subst e;simp
  ·have:(x==z)=false:=by simpa using e
   rw[this];simp only[Bool.false_or];by_cases h:z∈r
   ·rw[Yy h,Yy (YJ _ h)]
   ·rw[YH h,YH];intro hz;rcases YA.mp hz with hz|hz
    ·exact e hz.symm
    ·exact h hz
def RM:tenL=(List.range 10).map fun(i:Nat)=>(1:Int)+(i:Int):=by decide
def HK{ps:List (Int×Int)}{os ns:List Int}(hp:os.Perm (Ul ps))(h1:ns.Perm os)(h2:ns.Pairwise (·<=·)):ns=Ul ps:=by
 have nd:(Ul ps).Nodup:=(KQ ps).imp fun {a b} h=>by omega
 have p:=h1.trans hp;have nd2:ns.Nodup:=p.symm.nodup nd;exact Hh (Cj h2 nd2) (KQ ps) fun z=>p.mem_iff
section
variable (ps:List (Int×Int))
def tpM(y:Int):Nat->Int
 | 0=>0
 |j+1=>tpM y j+(if (ps.getD j (0,0)).1=y then(ps.getD j (0,0)).2 else 0)
def pcM(x y:Int):Nat->Int
 | 0=>0
 |k+1=>pcM x y k+(if x≠y/\(ps.getD k (0,0)).1=x then tpM ps y k*(ps.getD k (0,0)).2 else 0)
def ordM(n:Nat):List Int->Int
 |[]=>0
 |a::r=>(r.map fun b=>pcM ps a b n).sum+ordM n r
def aftM(n:Nat)(h:Int):List Int->Int
 |[]=>0
 |a::r=>if a=h then(r.map fun b=>tpM ps b n).sum else aftM n h r
def rsM(os:List Int)(h:Int):Nat->Int
 | 0=>0
 |j+1=>rsM os h j+(if os.idxOf h<os.idxOf (ps.getD j (0,0)).1 then(ps.getD j (0,0)).2 else 0)
def priM(os:List Int):Nat->Int
 | 0=>0
 |k+1=>priM os k+rsM ps os (ps.getD k (0,0)).1 k*(ps.getD k (0,0)).2
end
def Ff{a b:Int}{r:List Int}(h:a≠b):(a::r).idxOf b=r.idxOf b+1:=by
 rw[List.idxOf_cons]
 have:(a==b)=false:=by simpa using h
 rw[this];rfl
def HX(f g:Int->Int)(l:List Int):(l.map fun b=>f b+g b).sum=(l.map f).sum+(l.map g).sum:=by
 induction l with
 |nil=>rfl
 |cons b r ih=>
  simp only[YC,Qg];rw[ih];omega
def N9{f g:Int->Int}{l:List Int}(h:∀b∈l,f b=g b):(l.map f).sum=(l.map g).sum:=by
 rw[WK h]
def Dv(l:List Int):(l.map fun _=>(0:Int)).sum=0:=by
 induction l with
 |nil=>rfl
 |cons b r ih=>simp only[YC,Qg,ih];rfl
def Zfl(f:Int->Int)(w:Int)(l:List Int):(l.map fun b=>f b*w).sum=(l.map f).sum*w:=by
 induction l with
 |nil=>simp
 |cons b r ih=>
  simp only[YC,Qg];rw[ih,QV]
def Zhi{l:List Int}(h:Int)(w:Int)(nd:l.Nodup):(l.map fun b=>if h=b then w else 0).sum=if h∈l then w else 0:=by
 induction l with
 |nil=>simp
 |cons b r ih=>
  simp only[YC,Qg];have hb:=(YV.mp nd).1;rw[ih (YV.mp nd).2];by_cases e:h=b
  ·subst e;rw[Yz rfl,Yx hb,Yz YO];omega
  ·rw[Yx e];by_cases hm:h∈r
   ·rw[Yz hm,Yz (YJ _ hm)];omega
   ·rw[Yx hm,Yx]
    ·omega
    ·intro z;rcases YA.mp z with z|z
     ·exact e z
     ·exact hm z
section
variable {ps:List (Int×Int)}
def Hm{n:Nat}:∀{os:List Int},(ps.getD n (0,0)).1∉os->ordM ps (n+1) os=ordM ps n os
 |[],_=>rfl
 |a::r,h=>by
  have h1:(ps.getD n (0,0)).1≠a:=fun z=>h (by rw[z];exact YO);have h2:(ps.getD n (0,0)).1∉r:=fun z=>h (YJ _ z);simp only[ordM];rw[Hm h2];congr 1;apply N9;intro b _;simp only[pcM];rw[Yx (fun z=>h1 z.2)];omega
def Do{n:Nat}:∀{os:List Int},os.Nodup->(ps.getD n (0,0)).1∈os->ordM ps (n+1) os=ordM ps n os+aftM ps n (ps.getD n (0,0)).1 os*(ps.getD n (0,0)).2
 |[],_,h=>by cases h
 |a::r,nd,h=>by
  obtain⟨na,nr⟩:=YV.mp nd;simp only[ordM,aftM];by_cases e:a=(ps.getD n (0,0)).1
  ·rw[Yz e];have hr:(ps.getD n (0,0)).1∉r:=by rw[←e];exact na
   rw[Hm hr,←Zfl]
   have e2:(r.map fun b=>pcM ps a b (n+1)).sum=(r.map fun b=>pcM ps a b n+tpM ps b n*(ps.getD n (0,0)).2).sum:=by
    apply N9;intro b hb;simp only[pcM];rw[Yz ⟨fun z=>na (by rw[z];exact hb),e.symm⟩]
   rw[e2,HX];omega
  ·rw[Yx e]
   have hr:(ps.getD n (0,0)).1∈r:=by
    rcases YA.mp h with z|z
    ·exact absurd z.symm e
    ·exact z
   rw[Do nr hr]
   have e2:(r.map fun b=>pcM ps a b (n+1)).sum=(r.map fun b=>pcM ps a b n).sum:=by
    apply N9;intro b _;simp only[pcM];rw[Yx (fun z=>e z.2.symm)];omega
   rw[e2];omega
def Cf{n:Nat}{h:Int}:∀{os:List Int},(ps.getD n (0,0)).1∉os->aftM ps (n+1) h os=aftM ps n h os
 |[],_=>rfl
 |a::r,hn=>by
  have h2:(ps.getD n (0,0)).1∉r:=fun z=>hn (YJ _ z);simp only[aftM];rw[Cf h2]
  have e2:(r.map fun b=>tpM ps b (n+1)).sum=(r.map fun b=>tpM ps b n).sum:=by
   apply N9;intro b hb;simp only[tpM];rw[Yx (fun z=>h2 (by rw[z];exact hb))];omega
  rw[e2]
def EG{n:Nat}{h:Int}:∀{os:List Int},os.Nodup->h∈os->(ps.getD n (0,0)).1∈os->
  aftM ps (n+1) h os=aftM ps n h os+(if os.idxOf h<os.idxOf (ps.getD n (0,0)).1 then(ps.getD n (0,0)).2 else 0)
 |[],_,hh,_=>by cases hh
 |a::r,nd,hh,hm=>by
  obtain⟨na,nr⟩:=YV.mp nd;generalize eg:(ps.getD n (0,0)).1=g at hm ⊢;generalize ew:(ps.getD n (0,0)).2=w at ⊢;simp only[aftM];by_cases e:a=h
  ·subst e;rw[Yz rfl,Yz rfl]
   have e2:(r.map fun b=>tpM ps b (n+1)).sum=(r.map fun b=>tpM ps b n+(if g=b then w else 0)).sum:=by
    apply N9;intro b _;simp only[tpM];rw[eg,ew]
   rw[e2,HX,Zhi g w nr];have i0:(a::r).idxOf a=0:=by simp
   rw[i0];by_cases eq:g=a
   ·subst eq;rw[i0,Yx na,Yx (by omega)]
   ·have gr:g∈r:=by
     rcases YA.mp hm with z|z
     ·exact absurd z eq
     ·exact z
    have:(a::r).idxOf g=r.idxOf g+1:=Ff (Ne.symm eq)
    rw[this,Yz gr,Yz (by omega)]
  ·rw[Yx e,Yx e]
   have hr:h∈r:=by
    rcases YA.mp hh with z|z
    ·exact absurd z.symm e
    ·exact z
   have ih1:(a::r).idxOf h=r.idxOf h+1:=Ff e;by_cases eq:g=a
   ·subst eq;have i0:(g::r).idxOf g=0:=by simp
    rw[Cf (by rw[eg];exact na),i0,Yx (by omega)];omega
   ·have gr:g∈r:=by
     rcases YA.mp hm with z|z
     ·exact absurd z eq
     ·exact z
    have ih2:(a::r).idxOf g=r.idxOf g+1:=Ff (Ne.symm eq);rw[EG nr hr (by rw[eg];exact gr),eg,ew,ih1,ih2];congr 1;by_cases hlt:r.idxOf h<r.idxOf g
    ·rw[Yz hlt,Yz (by omega)]
    ·rw[Yx hlt,Yx (by omega)]
def Ib{os:List Int}{h:Int}(nd:os.Nodup)(hh:h∈os):∀(n:Nat),(∀j,j<n->(ps.getD j (0,0)).1∈os)->aftM ps n h os=rsM ps os h n
 | 0,_=>by
  have:∀l:List Int,aftM ps 0 h l=0:=by
   intro l
   induction l with
   |nil=>rfl
   |cons a r ih=>
    simp only[aftM,tpM];rw[Dv,ih];split<;>rfl
  rw[this];rfl
 |n+1,hm=>by
  rw[EG nd hh (hm n (by omega)),Ib nd hh n fun j hj=>hm j (by omega)];rfl
def E9{os:List Int}(nd:os.Nodup):∀(n:Nat),(∀j,j<n->(ps.getD j (0,0)).1∈os)->ordM ps n os=priM ps os n
 | 0,_=>by
  have:∀l:List Int,ordM ps 0 l=0:=by
   intro l
   induction l with
   |nil=>rfl
   |cons a r ih=>
    simp only[ordM,pcM];rw[Dv,ih];rfl
  rw[this];rfl
 |n+1,hm=>by
  rw[Do nd (hm n (by omega)),E9 nd n (fun j hj=>hm j (by omega)),Ib nd (hm n (by omega)) n fun j hj=>hm j (by omega)];rfl
end
end M
namespace ExcR
open PySem PySem.Spec PyProof.Rows L2
structure KeepX (fs ex:List Addr) (h h':Heap):Prop where
 keep:∀b o,h.get? b=some o->b∉fs->b∉ex->h'.get? b=some o
 slot:∀b o,h.get? b=some o->b∉ex->∃sl,h'.get? b=some {o with slots:=sl}
 size:h.objs.size<=h'.objs.size
def KeepX.trans {fs ex:List Addr}{h1 h2 h3:Heap} (a:KeepX fs ex h1 h2) (b:KeepX fs ex h2 h3):KeepX fs ex h1 h3:=
 ⟨fun c o e n m=>b.keep c o (a.keep c o e n m) n m,fun c o e m=>by
  obtain⟨s1,e1⟩:=a.slot c o e m;obtain⟨s2,e2⟩:=b.slot c _ e1 m;exact⟨s2,e2⟩,Y8 a.size b.size⟩
def KeepX.mono {fs fs' ex ex':List Addr}{h1 h2:Heap} (a:KeepX fs ex h1 h2) (hf:∀b∈fs,b∈fs') (hx:∀b∈ex,b∈ex'):KeepX fs' ex' h1 h2:=
 ⟨fun c o e n m=>a.keep c o e (fun z=>n (hf c z)) (fun z=>m (hx c z)),fun c o e m=>a.slot c o e fun z=>m (hx c z),a.size⟩
structure Trc (h:Heap) (e T:Addr) (cls fl:Value):Prop where
 ne:T≠e
 exc:∃oe vs,h.get? e=some oe/\oe.cls=cls/\oe.data=.fields vs/\vs[1]?=some (.ref T)
 ent:∃oT ts,h.get? T=some oT/\oT.data=.fields ts/\ts[3]?=some fl
section
variable {M:Model}{A:Around}{E:Value->Shared->Prop}{s:Shared}{base:Heap}{env:Env}{outer:List Env}{L e:Addr}
def CA{oe:Obj}{vs:Array Value}{head:Value}{hadNext:Bool}{Q:Unit->Shared->Prop}(hfr:A.frames=some (env::outer))(hl:s.heap.FunFrames base (env::outer))(hf:env.frame=some L)(he:s.heap.get? e=some oe)(hd:oe.data=.fields vs)(hsz:1<vs.size)(h:∀h' T,s.heap.objs.size<=T->Trc h' e T oe.cls (rawInt L)->KeepX (frs (env::outer)) [e] s.heap h'->Q () {s with heap:=h'}) :
  wpAny M A (do let a ←frameOf env;let pl ←entryPlaceOf L hadNext;let b ←EntryCells.newEntry head a .none (rawInt L) .none pl;setField (.ref e) 1 b) Q E s:=by
 have hene:e∉frs (env::outer):=fun hm=>by
  obtain⟨_,o,ho,hnf⟩:=hl.mem hm;rw[he]at ho;cases ho
  exact hnf vs hd
 refine Yv (wpAny_frameOf_fun hfr hl hf fun h1 s1=>Yv (wpAny_entryPlaceOf fun pl hpl=>?_));unfold EntryCells.newEntry newFields;refine Yv (Wt ?_ (hpl.sizeOk5 _ _ _ _ _));have he1:h1.get? e=some oe:=(s1.2.1 e hene).trans he;generalize eo:({cls:=.type "traceback",dict:=none,data:=.fields ([head,.ref L,.none,rawInt L,.none]++(if pl.isEmpty then List.replicate 6 Value.none else pl)).toArray}:Obj)=ot;have he2:=Y1 (h:=h1) ot he1;refine WL he2 hd hsz (h _ h1.objs.size (WQ s1.1.symm) ?_ ?_)
 ·have ne1:h1.objs.size≠e:=VC (YB he1);have d3:=Wz hd (·.setIfInBounds 1 (Value.ref h1.objs.size));refine⟨ne1,⟨_,_,Wq _ he2 (WM d3),QP _ _,d3,by simp[hsz]⟩,ot,_,?_,by rw[←eo],?_⟩
  ·exact(Wv _ _ (Ne.symm ne1)).trans (YE h1 (by rw[←eo];rfl))
  ·first
    |(simp;done)
    |(rcases hpl with rfl|⟨_,_,_,_,_,_,_,rfl⟩<;>simp)
 ·refine⟨fun b o q nb nx=>?_,fun b o q nx=>?_,?_⟩
  ·have hbe:b≠e:=fun z=>nx (by simp[z]);rw[Wv _ _ (Ne.symm hbe)];exact Y1 _ ((s1.2.1 b nb).trans q)
  ·have hbe:b≠e:=fun z=>nx (by simp[z]);obtain⟨sl,q1⟩:=s1.2.2 b o q;exact⟨sl,by rw[Wv _ _ (Ne.symm hbe)];exact Y1 _ q1⟩
  ·rw[Heap.size_update,Qp,s1.1];exact QC _
def Rz{oe:Obj}{vs:Array Value}{Q:Unit->Shared->Prop}(hfr:A.frames=some (env::outer))(hl:s.heap.FunFrames base (env::outer))(hf:env.frame=some L)(he:s.heap.get? e=some oe)(hd:oe.data=.fields vs)(h1:vs[1]?=some .none)(h:∀h' T,s.heap.objs.size<=T->Trc h' e T oe.cls (rawInt L)->KeepX (frs (env::outer)) [e] s.heap h'->Q () {s with heap:=h'}):wpAny M A (noteFrame (.ref e) env) Q E s:=by
 unfold noteFrame;simp only[hf];refine Yv (Vy he hd h1 ?_);rw[Yx (by decide)];exact CA hfr hl hf he hd (QB.mp h1).1 h
def EA{T:Addr}{cls fl:Value}{Q:Unit->Shared->Prop}(x:Trc s.heap e T cls fl)(h:∀h',Trc h' e T cls .none->KeepX [] [T] s.heap h'->Q () {s with heap:=h'}) :
  wpAny M A (setField (.ref T) 3 .none) Q E s:=by
 obtain⟨ne,⟨oe,vs,g1,g2,g3,g4⟩,oT,ts,k1,k2,k3⟩:=x;have hz:=(QB.mp k3).1;refine WL k1 k2 hz (h _ ?_ ?_)
 ·have d3:=Wz k2 (·.setIfInBounds 3 Value.none);exact⟨ne,⟨oe,vs,(Wv _ _ ne).trans g1,g2,g3,g4⟩,_,_,Wq _ k1 (WM d3),d3,by simp[hz]⟩
 ·have ot:∀b,b≠T->(s.heap.update T (Obj.mapFields (·.setIfInBounds 3 Value.none))).get? b=s.heap.get? b:=fun b hb=>Wv _ _ (Ne.symm hb);exact⟨fun b o q _ nx=>(ot b fun z=>nx (by simp[z])).trans q,fun b o q nx=>⟨o.slots,(ot b fun z=>nx (by simp[z])).trans q⟩,WQ (Heap.size_update ..).symm⟩
def Ze3{T:Addr}{cls:Value}{Q:Unit->Shared->Prop}(hfr:A.frames=some (env::outer))(hl:s.heap.FunFrames base (env::outer))(hf:env.frame=some L)(x:Trc s.heap e T cls .none)(h:∀h' T',s.heap.objs.size<=T'->Trc h' e T' cls (rawInt L)->KeepX (frs (env::outer)) [e,T] s.heap h'->Q () {s with heap:=h'}):wpAny M A (noteFrame (.ref e) env) Q E s:=by
 obtain⟨ne,⟨oe,vs,g1,g2,g3,g4⟩,oT,ts,k1,k2,k3⟩:=id x;unfold noteFrame;simp only[hf];refine Yv (Vy g1 g3 g4 ?_);rw[Yz (show(Value.ref T != Value.none)=true from by simp)]
 refine Yv (Vy k1 k2 k3 ?_);rw[Yx (show ¬((Value.none==rawInt L)=true)from by simp[rawInt])]
 refine Yv (EA x fun h1 x1 K1=>?_)
 have hTf:T∉frs (env::outer):=fun hm=>by
  obtain⟨_,o,ho,hnf⟩:=hl.mem hm;rw[k1]at ho;cases ho
  exact hnf ts k2
 have hl1:h1.FunFrames base (env::outer):=hl.of_keeps fun b o q hnf=>⟨o,K1.keep b o q (by simp) (fun z=>by
  rw[Y5.mp z,k1]at q;cases q
  exact hnf ts k2),rfl⟩
 obtain⟨_,⟨oe1,vs1,p1,p2,p3,p4⟩,_⟩:=id x1;refine CA (s:={s with heap:=h1}) hfr hl1 hf p1 p3 (QB.mp p4).1 fun h2 T' hT' x2 K2=>h h2 T' (Y8 K1.size hT') (by rw[←p2];exact x2) ?_
 exact(K1.mono (by simp) (by simp)).trans (K2.mono (fun _ z=>z) (by simp))
def HQ{T:Addr}{cls fl:Value}{Q:Unit->Shared->Prop}(x:Trc s.heap e T cls fl)(h:∀h',Trc h' e T cls .none->KeepX [] [T] s.heap h'->Q () {s with heap:=h'}) :
  wpAny M A (setFlight (.ref e) none) Q E s:=by
 obtain⟨ne,⟨oe,vs,g1,g2,g3,g4⟩,_⟩:=id x;unfold setFlight;refine Yv (Vy g1 g3 g4 ?_);rw[Yz (show(Value.ref T != Value.none)=true from by simp)]
 exact EA x h
def Zck{oe:Obj}{vs:Array Value}{Q:Unit->Shared->Prop}(hfr:A.frames=some (env::outer))(hl:s.heap.FunFrames base (env::outer))(hf:env.frame=some L)(he:s.heap.get? e=some oe)(hd:oe.data=.fields vs)(h1:vs[1]?=some .none)(h:∀h' T,s.heap.objs.size<=T->Trc h' e T oe.cls .none->KeepX (frs (env::outer)) [e] s.heap h'->Q () {s with heap:=h'}):wpAny M A (leaving env (.ref e)) Q E s:=by
 unfold leaving;refine Yv (Rz hfr hl hf he hd h1 fun h2 T hT x K=>HQ x fun h3 x3 K3=>h h3 T hT x3 ?_);refine⟨fun b o q nb nx=>K3.keep b o (K.keep b o q nb nx) (by simp) (fun z=>?_),fun b o q nx=>?_,Y8 K.size K3.size⟩
 ·rw[Y5.mp z]at q;exact absurd (YB q) (Vp.mpr hT)
 ·obtain⟨sl,q2⟩:=K.slot b o q nx;exact⟨sl,K3.keep b _ q2 (by simp) (fun z=>by rw[Y5.mp z]at q;exact absurd (YB q) (Vp.mpr hT))⟩
def Zge{T:Addr}{cls:Value}{Q:Unit->Shared->Prop}(hfr:A.frames=some (env::outer))(hl:s.heap.FunFrames base (env::outer))(hf:env.frame=some L)(x:Trc s.heap e T cls .none)(h:∀h' T',s.heap.objs.size<=T'->Trc h' e T' cls .none->KeepX (frs (env::outer)) [e,T] s.heap h'->Q () {s with heap:=h'}):wpAny M A (leaving env (.ref e)) Q E s:=by
 unfold leaving;refine Yv (Ze3 hfr hl hf x fun h2 T' hT x2 K=>HQ x2 fun h3 x3 K3=>h h3 T' hT x3 ?_);refine⟨fun b o q nb nx=>K3.keep b o (K.keep b o q nb nx) (by simp) (fun z=>?_),fun b o q nx=>?_,Y8 K.size K3.size⟩
 ·rw[Y5.mp z]at q;exact absurd (YB q) (Vp.mpr hT)
 ·obtain⟨sl,q2⟩:=K.slot b o q nx;exact⟨sl,K3.keep b _ q2 (by simp) (fun z=>by rw[Y5.mp z]at q;exact absurd (YB q) (Vp.mpr hT))⟩
end
section
variable {P:Program}{w:World}{H H':Hp}{h h':Heap}{a:Addr}{o:HO}{fs ex:List Addr}
def has(x:ObjOk P w H h a o):∃u,h.get? a=some u:=by
 cases o with
 |lst xs=>exact let ⟨_,_,_,_,e⟩:=x;⟨_,e⟩
 |tup xs=>exact let ⟨_,_,_,u,e,_⟩:=x;⟨u,e⟩
 |dK kvs=>exact let ⟨_,_,_,_,u,_,_,e,_⟩:=x;⟨u,e⟩
 |dT kvs=>exact let ⟨_,_,_,_,u,_,_,e,_⟩:=x;⟨u,e⟩
 |set S n=>exact let ⟨u,_,_,_,e,_⟩:=x;⟨u,e⟩
 |ins C dx fs=>exact let ⟨_,_,_,e,_⟩:=x;⟨_,e⟩
 |own y=>exact x
 |xd fs=>exact let ⟨_,⟨u,_,_,e,_⟩,_⟩:=x;⟨u,e⟩
 |rng lo hi=>exact let ⟨_,_,_,e⟩:=x;⟨_,e⟩
 |frz ob u=>exact⟨_,x.1⟩
 |tbl ps=>exact⟨_,x⟩
 |met f y=>exact⟨_,x⟩
 |ext φ=>exact x.2.1
def LK(ok:HOk P w H h)(e:h.get? a=none):H a=none:=by
 cases q:H a with
 |none=>rfl
 |some o=>
  obtain⟨u,z⟩:=has (ok a o q);rw[e]at z;cases z
def Ey(ok:HOk P w H h)(k:KeepX fs ex h h')(hf:∀b∈fs,H b=none)(hx:∀b∈ex,H b=none):HOk P w H h':=fun a o e=>by
 refine(ok a o e).stay (fun b u hb q=>?_) (fun _ q=>q) (fun _ _ q=>q)
 have hn:H b≠none:=by
  rcases hb with rfl|hb
  ·rw[e];simp
  ·rw[hb];simp
 exact k.keep b u q (fun z=>hn (hf b z)) fun z=>hn (hx b z)
end
structure XAt (P:Program) (w:World) (outer:List Env) (H H':Hp) (s s':Shared) (a T C:Addr):Prop where
 os:s'.os=s.os
 bare:AllBare s'.gens
 un:Un (frs outer) [] H H' s.heap s'.heap
 hok:HOk P w H' s'.heap
 na:s.heap.get? a=none
 nT:s.heap.get? T=none
 fa:H' a=none
 fT:H' T=none
 tr:Trc s'.heap a T (.ref C) .none
def CXe(P:Program)(w:World):CXT:=fun outer H s E e s'=>∃a T C H',e=.ref a/\XAt P w outer H H' s s' a T C/\E (.ref C) none H'
section
variable {X:Cx}{pins:List (Addr×Obj)}{σ:L2.St}{H H':Hp}{s s':Shared}{a T C:Addr}
def E2{ex:List Addr}{h':Heap}(I:Inv X pins σ H s)(hex:X.ex=[])(k:KeepX (frs X.stack) ex s.heap h')(hx:∀b∈ex,X.s₀.heap.get? b=none):Un X.fs [] X.H₀ H X.s₀.heap h':=by
 have B:=I.base;rw[hex]at B;have out:∀b o,X.s₀.heap.get? b=some o->b∉ex:=fun b o q z=>by rw[hx b z]at q;cases q
 have nl:∀b o,X.s₀.heap.get? b=some o->b∉X.fs->b∉frs X.stack:=fun b o q nf z=>by
  rcases YA.mp (I.stkSub b z)with e|e
  ·have h1:=YB q;have h2:=I.ok.above;rw[e]at h1;exact absurd h1 (Vp.mpr h2)
  ·exact nf e
 refine⟨fun b o q n nf ne=>k.keep b o (B.keep b o q n nf ne) (nl b o q nf) (out b o q),fun b o q n hf ne=>?_,fun b o q n ne=>B.free b o q n ne,fun b o q ne=>?_,B.tups,B.frzs,B.tbls⟩
 ·obtain⟨sl,q1⟩:=B.slot b o q n hf ne;obtain⟨sl2,q2⟩:=k.slot b _ q1 (out b o q);exact⟨sl2,q2⟩
 ·obtain⟨o1,q1⟩:=B.there b o q ne;obtain⟨sl2,q2⟩:=k.slot b _ q1 (out b o q);exact⟨_,q2⟩
def Nw{b:Addr}(I:Inv X pins σ H s)(hex:X.ex=[])(e:s.heap.get? b=none):X.s₀.heap.get? b=none:=by
 cases q:X.s₀.heap.get? b with
 |none=>rfl
 |some o=>
  obtain⟨u,z⟩:=I.base.there b o q (by rw[hex];simp);rw[e]at z;cases z
variable {E:Value->Shared->Prop}
def R9(I:Inv X pins σ H s)(hex:X.ex=[])(hst:X.stack=X.env::X.outer)(hfr:X.env.frame=some X.env.locals)(x:XAt X.prog X.w X.stack H H' s s' a T C) :
  wpAny (model X.prog X.w) X.A (leaving X.env (.ref a)) (fun _ s2=>∃T2,XAt X.prog X.w X.outer X.H₀ H' X.s₀ s2 a T2 C) E s':=by
 have J:Inv X pins σ H' s':=I.call' (ch:=[]) x.os x.un x.hok x.bare fun b z=>absurd z (by simp);have hF:=J.stack;have hA:=J.ok.frames;rw[hst]at hF hA;refine Zge hA hF hfr x.tr fun h2 T2 hT2 tr k=>⟨T2,J.os,J.bare,?_,?_,Nw I hex x.na,?_,x.fa,x.hok.fresh hT2,tr⟩
 ·exact E2 J hex (by rw[hst];exact k) fun b hb=>by
   rcases YA.mp hb with rfl|hb
   ·exact Nw I hex x.na
   ·rw[Y5.mp hb];exact Nw I hex x.nT
 ·refine Ey x.hok k (fun b hb=>J.stkFree b (by rw[hst];exact hb)) fun b hb=>?_;rcases YA.mp hb with rfl|hb
  ·exact x.fa
  ·rw[Y5.mp hb];exact x.fT
 ·exact Vj (Y8 J.sz hT2)
def Zhf{h':Heap}{oe:Obj}{vs:Array Value}(I:Inv X pins σ H s)(hex:X.ex=[])(hst:X.stack=X.env::X.outer)(hfr:X.env.frame=some X.env.locals)(keeps:∀b o,s.heap.get? b=some o->h'.get? b=some o)(new:s.heap.get? a=none)(he:h'.get? a=some oe)(hc:oe.cls=.ref C)(hd:oe.data=.fields vs)(h1:vs[1]?=some .none) :
  wpAny (model X.prog X.w) X.A (leaving X.env (.ref a)) (fun _ s2=>∃T2,XAt X.prog X.w X.outer X.H₀ H X.s₀ s2 a T2 C) E {s with heap:=h'}:=by
 have J:Inv X pins σ H {s with heap:=h'}:=I.call' (s':={s with heap:=h'}) (ch:=[]) rfl (Un.kept keeps) (I.hok.kept keeps) I.bare fun b z=>absurd z (by simp)
 have hF:=J.stack;have hA:=J.ok.frames;rw[hst]at hF hA;have fa:=LK I.hok new;refine Zck (s:={s with heap:=h'}) hA hF hfr he hd h1 fun h2 T2 hT2 tr k=>⟨T2,J.os,J.bare,?_,?_,Nw I hex new,?_,fa,J.hok.fresh hT2,by rw[←hc];exact tr⟩
 ·exact E2 J hex (by rw[hst];exact k) fun b hb=>by rw[Y5.mp hb];exact Nw I hex new
 ·exact Ey J.hok k (fun b hb=>J.stkFree b (by rw[hst];exact hb)) fun b hb=>by rw[Y5.mp hb];exact fa
 ·exact Vj (Y8 J.sz hT2)
end
structure ErrCls (K:Za) (C:Addr):Prop where
 q:PySem.W.excIn K C [.type "ValueError",.type "Exception",.type "BaseException",.type "object"] "ValueError.__new__"=true
def ErrCls.obj {K:Za}{C:Addr}{h:Heap} (c:ErrCls K C) (k:K.In h):∃bm N nm q bs hdct sn sub ab col dd k0 k1 k2 k3 k5 mN,h.get? C=some (excClassObj nm q C N bs bm hdct sn sub ab col dd k0 k1 k2 k3 k5 "ValueError.__new__")/\h.Ns N mN/\mN "__init__"=none/\
  OwnTail h [.type "ValueError",.type "Exception",.type "BaseException",.type "object"] bm:=by
 have e:=c.q;unfold PySem.W.excIn at e;split at e
 next dd cd sl ho=>
  split at e
  next C1 bm k0 k1 k2 k3 n k5 hm hs=>
   simp only[Wf,beq_iff_eq,V9]at e;obtain⟨⟨⟨⟨⟨e1,e2⟩,e3⟩,e4⟩,e5⟩,e6⟩:=e;subst e1 e2;have hg:=k _ _ ho;cases cd with
   |mk nm bs mro ns qn hd sn sub ab col del=>
    simp only at hm e3 e5 e6
    have hsl:sl=#[k0,k1,k2,k3,some (.builtin "ValueError.__new__"),k5]:=by
     cases sl with
     |mk l=>simp only at hs;rw[hs]
    rw[hm,e3,hsl]at hg;exact⟨bm,ns,nm,qn,bs,hd,sn,sub,ab,col,dd,k0,k1,k2,k3,k5,_,hg,.of_isNs (PySem.W.isNs_of_in k e5),PySem.W.nsMap_none_of_in k e5 e6,PySem.W.tail_of_in k e4⟩
  next=>cases e
 next=>cases e
abbrev TF:=L2.St->Hp->Str->(Str->Hp->Prop)->Prop
def PF(X:Cx)(es:List Expr)(t:TF):Prop:=
 ∀(pins:List (Addr×Obj)) (s:Shared) (σ:L2.St) (H:Hp) (out:Str) (Q:Str->Hp->Prop),Inv X pins σ H s->t σ H out Q->
  wpAny (model X.prog X.w) X.A (joinParts out (evalEach es X.env)) (fun u s'=>∃x H',Inv X pins σ H' s'/\RelV (.str x) u/\Q x H') X.xe s
section
variable {X:Cx}{e e1 e2:Expr}{es:List Expr}{t:TF}{tv:TE}{pos:Pos}
def fNil:TF:=fun _ H out Q=>out.length<=sizeLine/\Q out H
def fStr(x:Str)(t:TF):TF:=fun σ H out Q=>(out++x).length<=sizeLine/\t σ H (out++x) Q
def fVal(tv:TE)(t:TF):TF:=fun σ H out Q=>tv σ H fun v H1=>(∃i:Int,v=.int i/\i.natAbs.log2<1920/\(out++(Str.ofString (toString i))).length<=sizeLine/\t σ H1 (out++Str.ofString (toString i)) Q)\/
 ∃x:Str,v=.str x/\x.length<=sizeLine/\(out++x).length<=sizeLine/\t σ H1 (out++x) Q
def P8:PF X [] fNil:=fun pins s σ H out Q I h=>joinParts_nilE (joinParts_nil ⟨out,H,I.tok _,⟨_,rfl⟩,h.2⟩ h.1)
def Kn{x:Str}{j}(h:PF X es t):PF X (.Constant (.str x) j pos::es) (fStr x t):=fun pins s σ H out Q I q=>
 joinParts_consE (joinParts_cons (Calls.Constant_str ⟨q.1,h pins _ σ H _ Q (I.tok _) q.2⟩))
def Px(hv:PE X e tv)(h:PF X es t):PF X (.FormattedValue e (-1) none pos::es) (fVal tv t):=fun pins s σ H out Q I q=>by
 refine joinParts_consE (joinParts_cons (FormattedValue_plain (thn (hv pins s σ H _ I q) fun u s1 ⟨v,H1,I1,r,q1⟩=>?_)));rcases q1 with⟨i,rfl,hs,hz,q2⟩|⟨x,rfl,hx,hz,q2⟩
 ·obtain⟨tk,rfl⟩:=r;exact formatField_int_small hs ⟨hz,h pins _ σ H1 _ Q (I1.tok _) q2⟩
 ·obtain⟨tk,rfl⟩:=r;exact formatField_str (fun t' tk'=>⟨hz,h pins _ σ H1 _ Q (I1.tok _) q2⟩) hx
def tF(t:TF):TE:=fun σ H Q=>t σ H Str.empty fun x H'=>Q (.str x) H'
def pe_f(h:PF X (e1::e2::es) t):PE X (.JoinedStr (e1::e2::es) pos) (tF t):=fun pins s σ H Q I q=>
 JoinedStr_many (thn (h pins s σ H _ _ I q) fun u s1 ⟨x,H1,I1,r,q1⟩=>⟨.str x,H1,I1,r,q1⟩)
end
def Ic(X:Cx)(E:XK):Prop:=∀(pins:List (Addr×Obj)) (σ:L2.St) (H:Hp) (s:Shared) (C a:Addr) (h':Heap) (args:List Value),Inv X pins σ H s->Heap.MadeExcOf s.heap h' a (.ref C) args->E (.ref C) none H->X.xe (.ref a) {s with heap:=h'}
def GG(C:Addr)(E:XK)(t:TA):TS:=fun _ σ H=>t σ H fun vs H1=>vs.length<=sizeLine/\E (.ref C) none H1
section
variable {X:Cx}{x:Str}{C:Addr}{E:XK}{e:Expr}{es:List Expr}{t:TA}{p cpos pos:Pos}
def Xz(c:ErrCls X.K C)(hm:X.mg x=some (.ref C))(hR:Ic X E)(hc:X.calm=true)(ha:PA X (e::es) t)(hg:Gl X x:=by rfl)(hdb:(x==("__debug__" : Str))=false:=by decide)(he:starEach (e::es) X.env=(false,eval e X.env)::starEach es X.env:=by rfl)(hpl:(backTo cpos (starEach es X.env)).any (·.1)=false:=by rfl):PS X (.Raise (some (.Call (.Name x p) (e::es) [] cpos)) none pos) (GG C E t):=by
 intro pins s σ H D I h;obtain⟨bm,N,nm,q,bs,hdct,sn,sub,ab,col,dd,k0,k1,k2,k3,k5,mN,hC,hN,hni,hT⟩:=c.obj I.ok.mod.kin
 have hpl':(backTo cpos (starEach (e::es) X.env)).any (·.1)=false:=by
  rw[he];show(false || (backTo cpos (starEach es X.env)).any (·.1))=false;rw[hpl];rfl
 refine wpAny_Raise_call_subU (C:=C) (nm:=nm) (q:=q) (N:=N) (bs:=bs) (bm:=bm) (hdct:=hdct) (sn:=sn) (sub:=sub) (ab:=ab) (col:=col) (dd:=dd) (k0:=k0) (k1:=k1) (k2:=k2) (k3:=k3) (k5:=k5)
  PySem.F.excBase_ValueError (by decide +kernel) PySem.F.excBase_ValueError (hT.hasType (by decide +kernel)) (I.ok.hd hc) hpl' hni (SL I hg hm ⟨rfl,?_⟩ hdb)
 have hA:=ha cpos pins s σ H _ I h;rw[he]at hA ⊢;refine Calls.evalArgs_plain (thn hA fun us s2 ⟨vs,H2,I2,r2,q1,q2⟩=>⟨rfl,by rw[←r2.length];exact q1,I2.bk _ _ hC,hN.keeps I2.bk,hT.keeps I2.bk,fun h' a hm'=>?_⟩);exact hR pins σ H2 s2 C a h' us I2 hm' q2
end
section
variable {P:Program}{w:World}{K:Za}{mg:Str->Option Value}{base:Heap}{N ps:List Str}{qual x:Str}{scope:Scope}{f:Addr}{cd:Value}{A:Around}{outer:List Env}{s:Shared}{H:Hp}{E:XK}
def X0:Ic (cxOf (CXe P w) P w K mg base N qual scope f cd A outer s H E) E:=by
 intro pins σ H1 s1 C a h' args I m q;obtain⟨t,ht,_,_⟩:=m.there;exact Wx (Zhf I rfl rfl rfl m.keeps m.new ht rfl rfl rfl) (fun _ s3 ⟨T2,y⟩=>⟨a,T2,C,H1,rfl,y,q⟩) fun _ _ z=>z
def US:Kc (CXe P w) (cxOf (CXe P w) P w K mg base N qual scope f cd A outer s H E) E:=by
 rintro pins σ H1 s1 e s2 I ⟨a,T,C,H',rfl,y,q⟩;exact Wx (R9 I rfl rfl rfl y) (fun _ s3 ⟨T2,z⟩=>⟨a,T2,C,H',rfl,z,q⟩) fun _ _ z=>z
def B7:PassesOwn (model P w) (cxOf (CXe P w) P w K mg base N qual scope f cd A outer s H E).A (cxOf (CXe P w) P w K mg base N qual scope f cd A outer s H E).env (cxOf (CXe P w) P w K mg base N qual scope f cd A outer s H E).xe:=PassesOwn.leaving
def Def.okX {st:Stmt}{k:Nat}{sp:Sp} (D:Own.Def K mg x st ps) (S:FnScope N ps (JV st)) (len:∀vs H Q E,sp vs H Q E->vs.length=ps.length)
  (hbody:∀(f:Addr) (cdv:Value) (A:Around) (outer:List Env) (s:Shared) (H:Hp) (vs:List V) (Q:VK) (E:XK),Room k (A.deeper (envOfC x (JV st) s.heap.objs.size f cdv))->sp vs H Q E->
   ∃t,PSs (cxOf (CXe P w) P w K mg base N x (JV st) f cdv A outer s H E) (Xl st) t/\t {nx:=fun _ H'=>Q .non H',rt:=Q} (start N vs) H):Own.Callee P w K mg base (CXe P w) (k+1) x ps sp:=by
 obtain⟨f,fd,F,hm,hb⟩:=D.ex;have kp:=F.kp;obtain⟨oc,od,kV,doc,pm,an,cdv,ct,osl,rfl,lk,hcd⟩:=F.ex;exact⟨f,_,SR lk hcd S len fun A outer s H vs Q E hr hsp=>hbody f cdv A outer s H vs Q E hr hsp,hm,kp,⟨_,lk,rfl⟩,hb⟩
end
end ExcR
namespace ExcR
open PySem PySem.Spec PyProof.Rows L2
open Sem (wp)
structure ErrGet (K:Za) (C:Addr):Prop where
 c:ErrCls K C
 ga:PySem.W.findIn K (.ref C) "__getattribute__"=some (some (.builtin "BaseException.__getattribute__"))
 gt:PySem.W.findIn K (.ref C) "__getattr__"=some none
 cl:PySem.W.findIn K (.ref C) "__class__"=some (some (.builtin "object.__class__"))
 is:(PySem.W.clsIn K C).isSome=true
end ExcR
namespace ExcR
open PySem PySem.Spec PyProof.Rows L2
def ErrH(a C:Addr):HO:=.ext fun h=>∃o,h.get? a=some o/\o.cls=.ref C/\∃vs,o.data=.fields vs
def sufD(i:Nat)(D:Ends):Ends:={nx:=fun σ H=>D.nx (σ.set i none) H,rt:=D.rt,bk:=fun σ H=>D.bk (σ.set i none) H,ct:=fun σ H=>D.ct (σ.set i none) H}
def hx(K:Za)(C0:Addr)(i:Nat)(ts:TS)(D:Ends):L2.St->XK:=fun σ c _ H=>∃C,c=.ref C/\ErrGet K C/\PySem.W.exmOne K (.ref C) (.ref C0)=some true/\
 ∀a,H a=none->ts (sufD i D) (σ.set i (some (.ref a))) (upd H a (ErrH a C))
def JU(mg:Str->Option Value)(x:Str):Addr:=match mg x with
 |some (.ref C)=>C
 |_=>0
def GR{mg:Str->Option Value}{x:Str}{C:Addr}(h:mg x=some (.ref C)):JU mg x=C:=by unfold JU;rw[h]
def XM{X:Cx}{x:Str}{v:V}{pos:Pos}(h:∃u,X.mg x=some u/\RelV v u)(hg:Gl X x:=by rfl)(hd:(x==("__debug__" : Str))=false:=by decide):PE X (.Name x pos) (tC v):=by
 obtain⟨u,h1,h2⟩:=h;exact Ol hg h1 h2 hd
end ExcR
namespace Own
open PySem PySem.Spec PyProof.Rows L2 M
section
variable {X:Cx}{pins:List (Addr×Obj)}{σ:L2.St}{H:Hp}{s:Shared}
def DO{p:Int×Int}{its:List Value}(r:Vals [V.int p.1,V.int p.2] its):∃t1 t2,its=[.int p.1 t1,.int p.2 t2]:=by
 cases r with
 |cons r1 rr=>
  cases rr with
  |cons r2 r3=>
   cases r3
   obtain⟨t1,rfl⟩:=r1;obtain⟨t2,rfl⟩:=r2;exact⟨t1,t2,rfl⟩
def Zf6{A:Around}{x y:V}{p q:Int×Int}{u v:Value}(I:Inv X pins σ H s)(hu:A.units<cLine)(rx:RelV x u)(ry:RelV y v)(hp:XQ H x p)(hq:XQ H y q):SeqAt.EqAt A s u v (decide (p=q)):=by
 obtain⟨a,rfl,ha⟩:=hp;obtain⟨b,rfl,hb⟩:=hq;obtain rfl:u=Value.ref a:=rx;obtain rfl:v=Value.ref b:=ry;by_cases hab:a=b
 ·subst hab;rw[ha]at hb
  have e:p=q:=by
   injection hb with hb;injection hb with hb;injection hb with h1 h2;injection h2 with h2 _;exact Prod.ext (V.int.inj h1) (V.int.inj h2)
  rw[Yy e];exact SeqAt.EqAt.same _
 ·obtain⟨_,its,r1,t1⟩:=(show ObjOk X.prog X.w H s.heap a (.tup [.int p.1,.int p.2])from I.hok a _ ha)
  obtain⟨_,jts,r2,t2⟩:=(show ObjOk X.prog X.w H s.heap b (.tup [.int q.1,.int q.2])from I.hok b _ hb)
  obtain⟨k1,k2,rfl⟩:=DO r1;obtain⟨k3,k4,rfl⟩:=DO r2
  have h:=SeqAt.RcAt.tuples (A:=A) (s:=s) (e:=fun j=>if j=0 then p.1==q.1 else p.2==q.2) t1 t2 hu (fun j h1 h2=>by
   have hj:j=0\/j=1:=by
    have h1':j<2:=h1;omega
   rcases hj with rfl|rfl
   ·exact SeqAt.EqAt.int_int _ _ _ _
   ·exact SeqAt.EqAt.int_int _ _ _ _)
  have e:((List.range (min ([Value.int p.1 k1,Value.int p.2 k2].toArray).size ([Value.int q.1 k3,Value.int q.2 k4].toArray).size)).all (fun j=>if j=0 then p.1==q.1 else p.2==q.2)&&([Value.int p.1 k1,Value.int p.2 k2].toArray).size==([Value.int q.1 k3,Value.int q.2 k4].toArray).size)=decide (p=q):=by
   show((List.range 2).all (fun j=>if j=0 then p.1==q.1 else p.2==q.2)&&true)=decide (p=q);rw[Bool.and_true];have e2:(List.range 2).all (fun j=>if j=0 then p.1==q.1 else p.2==q.2)=((p.1==q.1)&&(p.2==q.2)):=by simp[List.range,List.range.loop]
   rw[e2];by_cases h1:p.1=q.1
   ·by_cases h2:p.2=q.2
    ·rw[Yy (Prod.ext h1 h2)];simp[h1,h2]
    ·rw[YH (fun z=>h2 (by rw[z]))];simp[h2]
   ·rw[YH (fun z=>h1 (by rw[z]))];simp[h1]
  rw[e]at h;exact SeqAt.EqAt.of_refs hab h
def eP(H:Hp)(q:Int×Int)(u:Value):Bool:=match u with
 | .ref a=>(match H a with
  |some (.tup [.int i,.int j])=>decide ((i,j)=q)
  |_=>false)
 |_=>false
def G2{v:V}{u:Value}{p q:Int×Int}(h:XQ H v p)(r:RelV v u):eP H q u=decide (p=q):=by
 obtain⟨a,rfl,ha⟩:=h;obtain rfl:u=Value.ref a:=r;unfold eP;simp only[ha]
def FM{q:Int×Int}:∀{vs:List V}{us:List Value}{ps:List (Int×Int)},Vals vs us->LV XQ H vs ps->us.any (eP H q)=decide (q∈ps)
 |_,_,[],.nil,_=>rfl
 |_,_,_::_,.nil,h=>absurd h.1 (by simp)
 |v::vs,u::us,[],.cons _ _,h=>absurd h.1 (by simp)
 |v::vs,u::us,p::ps,.cons r t,h=>by
  obtain⟨v',e,hv⟩:=h.2 0 p rfl;cases e
  have ht:LV XQ H vs ps:=⟨by simpa using h.1,fun i x e=>h.2 (i+1) x e⟩;rw[Qv,G2 hv r,FM t ht];by_cases e1:p=q
  ·subst e1;simp
  ·by_cases e2:q∈ps
   ·simp[e1,e2]
   ·have:¬q=p:=fun z=>e1 z.symm
    simp[e1,e2,this]
def rInP(neg:Bool):R2:=fun x y H Q=>∃(l:Addr) (ps:List (Int×Int)) (q:Int×Int),y=.ref l/\XQ H x q/\LAt XQ H l ps/\Q (.bl (if neg then !decide (q∈ps)else decide (q∈ps))) H
def Aq{A:Around}{x:V}{v:Value}{q:Int×Int}(I:Inv X pins σ H s)(hu:A.units<cLine)(rx:RelV x v)(hx:XQ H x q):∀{vs:List V}{us:List Value}{ps:List (Int×Int)},Vals vs us->LV XQ H vs ps->∀u∈us,SeqAt.EqAt A s u v (eP H q u)
 |_,_,_,.nil,_,u,hu'=>by cases hu'
 |w::vs,u::us,[],.cons _ _,h,_,_=>absurd h.1 (by simp)
 |w::vs,u::us,p::ps,.cons r t,h,u',hu'=>by
  obtain⟨w',e,hw⟩:=h.2 0 p rfl;cases e
  have ht:LV XQ H vs ps:=⟨by simpa using h.1,fun i x e=>h.2 (i+1) x e⟩;rcases YA.mp hu' with rfl|hu'
  ·rw[G2 hw r];exact Zf6 I hu r rx hw hx
  ·exact Aq I hu rx hx t ht u' hu'
def Ru(hu:X.A.in1.units<cLine):OpR X (compareOp .In) (rInP false):=by
 intro pins s σ H x y v u Q I rx ry h;obtain⟨l,ps,q,rfl,hx,⟨vs,hl,hv⟩,k⟩:=h;cases ry
 obtain⟨its,r,pl,hz⟩:=I.list (SqL.of hl);refine SeqAt.in_listAt (eP H q) pl.isList (fun w hw=>Aq I hu rx hx r hv w (by simpa using hw)) ⟨.bl _,H,I,rfl,?_⟩;rw[show its.toArray.any (eP H q)=its.any (eP H q) by simp,FM r hv];exact k
def Zec(hu:X.A.in1.units<cLine):OpR X (compareOp .NotIn) (rInP true):=by
 intro pins s σ H x y v u Q I rx ry h;obtain⟨l,ps,q,rfl,hx,⟨vs,hl,hv⟩,k⟩:=h;cases ry
 obtain⟨its,r,pl,hz⟩:=I.list (SqL.of hl);refine SeqAt.notIn_listAt (eP H q) pl.isList (fun w hw=>Aq I hu rx hx r hv w (by simpa using hw)) ⟨.bl _,H,I,rfl,?_⟩;rw[show its.toArray.any (eP H q)=its.any (eP H q) by simp,FM r hv];exact k
end
end Own
namespace M
open PySem PySem.Spec PyProof.Rows L2 Own
section
variable {α:Type}{R:Hp->V->α->Prop}{H:Hp}
def pick(c:α->Bool)(d:V×α):Option V:=if c d.2=true then some d.1 else none
end
end M
namespace Own
open PySem PySem.Spec PyProof.Rows L2 M
section
variable {X:Cx}
def Ly:Xd X (.type "range") (fun xs H Q=>∃i j:Int,xs=[.int i,.int j]/\∀r,H r=none->Q (.ref r) (upd H r (.rng i j))):=by
 intro pins s σ H xs us Q I rv h;obtain⟨i,j,rfl,q⟩:=h;cases rv with
 |cons r rr=>
  cases rr with
  |cons r' rr=>
   cases rr
   obtain⟨t,rfl⟩:=r;obtain⟨t',rfl⟩:=r';refine call_range_2 ⟨.ref s.heap.objs.size,upd H s.heap.objs.size (.rng i j),?_,rfl,q _ (I.hok.fresh (Y3 _))⟩;exact I.laid (t':=s.toks+1) (fun b o e=>Y1 _ e) (Y3 _) ⟨t,t',s.toks,YE _ rfl⟩
def runI(i:Int)(n:Nat):List Int:=(List.range n).map fun(k:Nat)=>i+(k:Int)
def Zg6{i:Int}:∀(n:Nat) (us:List Value),us.length=n->(∀(j:Nat) (v:Value),us[j]?=some v->∃t,v=Value.int (i+(j:Int)*1) t)->Vals ((runI i n).map V.int) us:=by
 intro n us hl h
 have key:∀(us:List Value) (o:Nat),(∀(j:Nat) (v:Value),us[j]?=some v->∃t,v=Value.int (i+((o+j:Nat):Int)) t)->Vals (((List.range' o us.length).map fun(k:Nat)=>i+(k:Int)).map V.int) us:=by
  intro us
  induction us with
  |nil=>intro o _;exact .nil
  |cons u us ih=>
   intro o h;obtain⟨t,e⟩:=h 0 u rfl;show Vals (((List.range' o (us.length+1)).map fun(k:Nat)=>i+(k:Int)).map V.int) (u::us);rw[List.range'_succ,YC,YC];refine .cons ⟨t,by rw[e];simp⟩ (ih (o+1) fun j v hv=>?_);obtain⟨t',e'⟩:=h (j+1) v hv;exact⟨t',by rw[e'];congr 1<;>omega⟩
 have:=key us 0 (fun j v hv=>by obtain⟨t,e⟩:=h j v hv;exact⟨t,by rw[e];congr 1<;>omega⟩)
 unfold runI;rw[List.range_eq_range',←hl];exact this
def Zeb(hc:X.calm=true):Xd X (.type "list") (fun xs H Q=>∃(r:Addr) (i j:Int),xs=[.ref r]/\H r=some (.rng i j)/\(-(2 ^ 62)<=i/\i<2 ^ 62/\-(2 ^ 62)<=j/\j<2 ^ 62)/\(j-i).toNat<=1000000/\
  ∀l,H l=none->Q (.ref l) (upd H l (.lst ((runI i (j-i).toNat).map V.int)))):=by
 intro pins s σ H xs us Q I rv h;obtain⟨r,i,j,rfl,hr,⟨b1,b2,b3,b4⟩,hn,q⟩:=h;obtain⟨u,rfl,ru⟩:=rv.one;obtain rfl:u=Value.ref r:=ru;obtain⟨t,u,v,e⟩:=(show ObjOk X.prog X.w H s.heap r (.rng i j)from I.hok r _ hr)
 refine call_list_range (I.ok.hd hc) (show IsRange s.heap r i j 1 t u v from e) (small_one b1 b2 b3 b4) (rangeSize_nat i j) (Y8 hn (by decide)) fun h' tk acc c hk hD hI=>?_
 refine⟨.ref s.heap.objs.size,upd H s.heap.objs.size (.lst ((runI i (j-i).toNat).map V.int)),?_,rfl,q _ (I.hok.fresh (Y3 _))⟩;have hv:Vals ((runI i (j-i).toNat).map V.int) acc.toList:=Zg6 _ _ (by rw[Wi];exact hI.1) fun k w hw=>hI.2 k w (by rw[←hw,Ww]);refine I.laid (t':=tk) hk (Y3 _) ⟨?_,acc.toList,c,hv,by simpa using hD⟩;rw[Yu];unfold runI;rw[Yu,Q3];exact Y8 hn (by decide)
end
end Own
namespace Own
open PySem PySem.Spec PyProof.Rows L2
section
variable {X:Cx}{K:Za}
def CD(hc:X.calm=true)(hK:X.K=K:=by rfl):Xd X (.builtin "sum") (fun xs H Q=>∃(p:Addr) (ns:List Int),xs=[.ref p]/\SqL K H p (ns.map V.int)/\Q (.int ns.sum) H):=by
 subst hK;intro pins s σ H xs us Q I rv h;obtain⟨p,ns,rfl,hS,q⟩:=h;obtain⟨u,rfl,ru⟩:=rv.one;obtain rfl:u=Value.ref p:=ru;obtain⟨its,r,pl,_⟩:=I.list hS;have hi:IntsAre its ns:=by simpa using NU r
 obtain⟨ys,hx⟩:=hi.allInts.items;have hl:=pl.isList;rw[hx]at hl;refine sum_intListG (I.ok.hd hc) hl fun h' tk t' hk=>?_
 have e1:ns=ys.toList.map (·.1):=by
  rw[←nums_intItems,←hx];exact(show numsOf its.toArray.toList=ns from hi.numsOf).symm
 have e2:preSum (numAt ys) ys.size=ns.sum:=by
  rw[preSum_eq,Qz (by simp),e1]
 rw[e2];exact⟨.int ns.sum,H,I.kept (t':=tk) hk,⟨_,rfl⟩,q⟩
def Za2(hc:X.calm=true)(hK:X.K=K:=by rfl):Xd X (.builtin "min") (fun xs H Q=>∃(p:Addr) (ns:List Int),xs=[.ref p]/\SqL K H p (ns.map V.int)/\0<ns.length/\∀M,M∈ns->(∀a∈ns,M<=a)->Q (.int M) H):=by
 subst hK;intro pins s σ H xs us Q I rv h;obtain⟨p,ns,rfl,hS,hne,q⟩:=h;obtain⟨u,rfl,ru⟩:=rv.one;obtain rfl:u=Value.ref p:=ru;obtain⟨its,r,pl,_⟩:=I.list hS;have hi:IntsAre its ns:=by simpa using NU r
 obtain⟨ys,e⟩:=hi.allInts.items;have hl:=pl.isList;rw[e]at hl;have hns:ns=ys.toList.map (·.1):=by rw[←hi.numsOf,←nums_intItems,←e]
 have hsz:0<ys.size:=by
  have h3:=hne;rw[hns,Yu,Wi]at h3;exact h3
 refine min_intList (I.ok.hd hc) hl hsz fun v h' tk hv hk=>?_;obtain⟨t,rfl⟩:=intItems_at hv;obtain⟨h1,h2⟩:=argBest_lt (numAt ys) (ys.size-1);refine⟨.int _,H,I.kept (t':=tk) hk,⟨_,rfl⟩,q _ ?_ fun a ha=>?_⟩
 ·rw[hns,numAt_eq];exact getD_mem (by rw[Yu,Wi];omega)
 ·rw[hns]at ha;obtain⟨j,hj,rfl⟩:=W1.mp ha;rw[Yu,Wi]at hj
  have:=h2 j (by omega)
  rw[numAt_eq ys j]at this;rw[Yw,Yt (by rw[Yu,Wi];exact hj)]at this;exact this
def Cu:∀{bs:List Bool}{us:List Value},Vals (bs.map V.bl) us->LSm.BoolsAre us bs
 |[],_,.nil=>.nil
 |b::r,_,.cons h t=>by
  cases (show _=Value.bool b from h)
  exact .cons b (Cu t)
def DW(hc:X.calm=true)(hK:X.K=K:=by rfl):Xd X (.builtin "any") (fun xs H Q=>∃(p:Addr) (bs:List Bool),xs=[.ref p]/\SqL K H p (bs.map V.bl)/\Q (.bl (bs.any id)) H):=by
 subst hK;intro pins s σ H xs us Q I rv h;obtain⟨p,bs,rfl,hS,q⟩:=h;obtain⟨u,rfl,ru⟩:=rv.one;obtain rfl:u=Value.ref p:=ru;obtain⟨its,r,pl,_⟩:=I.list hS;have hb:=Cu r;have hl:=pl.isList;have hlt:p<s.heap.objs.size:=by obtain⟨_,e,_⟩:=hl;exact YB e
 refine call_any_walk (wpAny_pyIter_list hl ?_)
 refine⟨s.heap.objs.size,[s.heap.objs.size,p],[s.heap.objs.size],its.toArray.size,_,_,fun i=>(bs[i]?).getD false,rfl,Walks.list (A:=X.A.in1) (I.ok.hd hc) _ p (YT hlt) its.toArray,
  ⟨⟨_,YE _ rfl,rfl,rfl⟩,hl.push _⟩,fun i v s' Q' E' hP hQ=>?_,fun h' tk hk=>?_⟩
 ·obtain⟨b,e,rfl⟩:=hb.get i v (by simpa using hP);simp only[e,Option.getD_some]at hQ;exact Qh hQ
 ·have e:((List.range its.toArray.size).any fun i=>(bs[i]?).getD false)=bs.any id:=by
   rw[YD,hb.length];exact LSm.range_any bs
  rw[e];exact⟨.bl (bs.any id),H,I.kept (t':=tk) (LSm.kept_iter hk),rfl,q⟩
def rEqE(K:Za)(neg:Bool):R2:=fun x y H Q=>∃(p q:Addr) (xs:List V),x=.ref p/\y=.ref q/\SqL K H p xs/\SqL K H q []/\Q (.bl (if neg then !xs.isEmpty else xs.isEmpty)) H
def Gy(hu:X.A.units<cLine)(hK:X.K=K:=by rfl):OpR X (compareOp .Eq) (rEqE K false):=by
 subst hK;intro pins s σ H x y v u Q I rx ry h;obtain⟨p,q,xs,rfl,rfl,hp,hq,k⟩:=h;obtain rfl:v=Value.ref p:=rx;obtain rfl:u=Value.ref q:=ry;obtain⟨us,r1,p1,_⟩:=I.list hp;obtain⟨ws,r2,p2,_⟩:=I.list hq;have l1:=r1.length;have l2:0=ws.length:=r2.length;have k':Q (.bl xs.isEmpty) H:=k;by_cases e:xs.length=0
 ·refine SeqAt.eq_listAt (e:=fun _=>true) p1.isList p2.isList (by simp;omega) hu (fun j h1 h2=>by simp at h2;omega) ⟨.bl xs.isEmpty,H,I,?_,k'⟩;show _=Value.bool xs.isEmpty
  have:xs=[]:=WG.mp e
  subst this;rw[YD,←l1];rfl
 ·refine SeqAt.eq_list_lengthsAt p1.isList p2.isList (by simp;omega) hu ⟨.bl xs.isEmpty,H,I,?_,k'⟩;show _=Value.bool xs.isEmpty;cases xs with
  |nil=>exact absurd rfl e
  |cons a r=>rfl
def RW(hu:X.A.units<cLine)(hK:X.K=K:=by rfl):OpR X (compareOp .NotEq) (rEqE K true):=by
 subst hK;intro pins s σ H x y v u Q I rx ry h;obtain⟨p,q,xs,rfl,rfl,hp,hq,k⟩:=h;obtain rfl:v=Value.ref p:=rx;obtain rfl:u=Value.ref q:=ry;obtain⟨us,r1,p1,_⟩:=I.list hp;obtain⟨ws,r2,p2,_⟩:=I.list hq;have l1:=r1.length;have l2:0=ws.length:=r2.length;have k':Q (.bl (!xs.isEmpty)) H:=k;by_cases e:xs.length=0
 ·refine SeqAt.RcNeAt.lists (e:=fun _=>true) p1.isList p2.isList (by simp;omega) hu (fun j h1 h2=>by simp at h2;omega) _ _ _ _ ⟨.bl (!xs.isEmpty),H,I,?_,k'⟩;show _=Value.bool (!xs.isEmpty)
  have:xs=[]:=WG.mp e
  subst this;rw[YD,←l1];rfl
 ·refine SeqAt.RcNeAt.lists_lengths p1.isList p2.isList (by simp;omega) hu _ _ _ _ ⟨.bl (!xs.isEmpty),H,I,?_,k'⟩;show _=Value.bool (!xs.isEmpty);cases xs with
  |nil=>exact absurd rfl e
  |cons a r=>rfl
end
end Own
namespace M
open PySem PySem.Spec PyProof.Rows L2 Own
def Pg(ws:List (Int×Int))(ls:List Int):List (Int×Int):=ws.filter fun q=>decide (q.1∈ls)&&decide (q.2∈ls)
def XW(ws:List (Int×Int))(ls:List Int):List Int:=ls.filter fun h=>decide (h∈(Pg ws ls).map (·.2))
def UA(ws:List (Int×Int))(ls:List Int):Nat->List Int
 | 0=>ls
 |n+1=>XW ws (UA ws ls n)
def Ak(ws:List (Int×Int))(r:List Int):Prop:=∀(i:Nat) (x y:Int),r[i]?=some x->r[i+1]?=some y->(x,y)∈ws
structure Ring (hs:List Int) (ws:List (Int×Int)) (r:List Int):Prop where
 two:2<=r.length
 nodup:r.Nodup
 sub:∀x∈r,x∈hs
 chain:Ak ws r
 last:∀x y,r[0]?=some x->r[r.length-1]?=some y->(y,x)∈ws
def Ring.ahead {hs:List Int}{ws:List (Int×Int)}{r:List Int} (R:Ring hs ws r) {x:Int} (hx:x∈r):∃y∈r,(y,x)∈ws:=by
 obtain⟨i,hi,e⟩:=W1.mp hx;have two:=R.two;cases i with
 |zero=>
  have hl:r.length-1<r.length:=by omega
  exact⟨r[r.length-1],YK hl,R.last x _ (by rw[Yt hi,e]) (Yt hl)⟩
 |succ i=>
  have hl:i<r.length:=by omega
  exact⟨r[i],YK hl,R.chain i _ x (Yt hl) (by rw[Yt hi,e])⟩
def mem_peel{ws:List (Int×Int)}{ls:List Int}{x:Int}:x∈XW ws ls↔x∈ls/\∃y∈ls,(y,x)∈ws:=by
 unfold XW Pg;rw[YS];constructor
 ·rintro⟨h1,h2⟩;obtain⟨q,hq,e⟩:=YX.mp (Y0 h2);obtain⟨h3,h4⟩:=YS.mp hq;rw[Wf]at h4;refine⟨h1,q.1,Y0 h4.1,?_⟩;rw[←e];exact h3
 ·rintro⟨h1,y,h2,h3⟩;refine⟨h1,Yy (YX.mpr ⟨(y,x),YS.mpr ⟨h3,?_⟩,rfl⟩)⟩;rw[Yy h2,Yy h1];rfl
def Bo{hs:List Int}{ws:List (Int×Int)}{r:List Int}(R:Ring hs ws r):∀(n:Nat) (x:Int),x∈r->x∈UA ws hs n
 | 0,x,hx=>R.sub x hx
 |n+1,x,hx=>by
  obtain⟨y,hy,h⟩:=R.ahead hx;exact mem_peel.mpr ⟨Bo R n x hx,y,Bo R n y hy,h⟩
def Ap(ws:List (Int×Int))(ls:List Int):(XW ws ls).Sublist ls:=Vt
def Gx(ws:List (Int×Int))(hs:List Int):∀n,(UA ws hs n).Sublist hs
 | 0=>List.Sublist.refl _
 |n+1=>(Ap ws _).trans (Gx ws hs n)
def HG(ws:List (Int×Int))(hs:List Int):∀n,(∃k,k<n/\XW ws (UA ws hs k)=UA ws hs k)\/(UA ws hs n).length+n<=hs.length
 | 0=>.inr (Y3 _)
 |n+1=>by
  rcases HG ws hs n with⟨k,hk,e⟩|h
  ·exact .inl ⟨k,by omega,e⟩
  ·by_cases e:XW ws (UA ws hs n)=UA ws hs n
   ·exact .inl ⟨n,by omega,e⟩
   ·have hl:(XW ws (UA ws hs n)).length<(UA ws hs n).length:=by
     have h1:=(Ap ws (UA ws hs n)).length_le;rcases Nat.lt_or_ge (XW ws (UA ws hs n)).length (UA ws hs n).length with h2|h2
     ·exact h2
     ·exact absurd ((Ap ws (UA ws hs n)).eq_of_length (by omega)) e
    refine .inr ?_;show(XW ws (UA ws hs n)).length+(n+1)<=hs.length;omega
def HE(ws:List (Int×Int))(hs:List Int){k:Nat}(e:XW ws (UA ws hs k)=UA ws hs k):∀n,UA ws hs (k+n)=UA ws hs k
 | 0=>rfl
 |n+1=>by
  show XW ws (UA ws hs (k+n))=_;rw[HE ws hs e n,e]
def An:∀{xs ys:List Int},xs.Nodup->(∀x∈xs,x∈ys)->xs.length<=ys.length
 |[],_,_,_=>WA _
 |x::xs,ys,nd,h=>by
  obtain⟨h1,h2⟩:=YV.mp nd;have hx:x∈ys:=h x (YO ..);have ih:=An (ys:=ys.erase x) h2 fun z hz=>(List.mem_erase_of_ne (fun e:z=x=>h1 (e▸hz))).mpr (h z (YJ _ hz));rw[List.length_erase_of_mem hx]at ih
  have:0<ys.length:=List.length_pos_of_mem hx
  rw[YF];omega
def CQ{ws:List (Int×Int)}{ls:List Int}(hu:∀q∈ws,q.1≠q.2)(hne:ls≠[])(h:∀x∈ls,∃y∈ls,(y,x)∈ws):∃r,Ring ls ws r:=by
 have grow:∀(n:Nat) (r:List Int),r≠[]->r.Nodup->(∀x∈r,x∈ls)->Ak ws r->ls.length<r.length+n->∃r,Ring ls ws r:=by
  intro n
  induction n with
  |zero=>
   intro r hr nd sub ch hl
   have:=An nd sub
   omega
  |succ n ih=>
   intro r hr nd sub ch hl;cases r with
   |nil=>exact absurd rfl hr
   |cons x t=>
    obtain⟨y,hy,hw⟩:=h x (sub x (YO ..));by_cases hm:y∈x::t
    ·obtain⟨i,hi,e⟩:=W1.mp hm
     have hi0:i≠0:=fun z=>by
      subst z;have e':x=y:=e;exact hu _ hw e'.symm
     have hlen:((x::t).take (i+1)).length=i+1:=by
      rw[We];omega
     refine⟨(x::t).take (i+1),by omega,nd.sublist (QN _ _),fun z hz=>sub z (Vq hz),fun k a b h1 h2=>?_,fun a b h1 h2=>?_⟩
     ·have hk:k+1<i+1:=by
       have:=(YQ.mp h2).1
       omega
      rw[WC (by omega)]at h1;rw[WC hk]at h2;exact ch k a b h1 h2
     ·rw[hlen,WN,WC (by omega),Yt hi,e]at h2;rw[WC (by omega)]at h1;cases h1
      cases h2
      exact hw
    ·refine ih (y::x::t) (by simp) (YV.mpr ⟨hm,nd⟩) (fun z hz=>?_) (fun k a b h1 h2=>?_) (by rw[YF];omega)
     ·rcases YA.mp hz with rfl|hz
      ·exact hy
      ·exact sub z hz
     ·cases k with
      |zero=>
       cases h1
       cases h2
       exact hw
      |succ k=>exact ch k a b h1 h2
 obtain⟨x,hx⟩:=List.exists_mem_of_ne_nil ls hne;exact grow (ls.length+1) [x] (by simp) (by simp) (fun y hy=>by rw[Y5.mp hy];exact hx) (fun i a b h1 h2=>by simp at h2) (by show ls.length<1+(ls.length+1);omega)
def EV{ws:List (Int×Int)}{hs:List Int}(hu:∀q∈ws,q.1≠q.2):UA ws hs hs.length=[]↔¬ ∃r,Ring hs ws r:=by
 constructor
 ·rintro h ⟨r,R⟩;have two:=R.two;have h0:0<r.length:=by omega
  have:=Bo R hs.length r[0] (YK h0)
  rw[h]at this;cases this
 ·intro h;rcases HG ws hs hs.length with⟨k,hk,e⟩|hl
  ·have e2:=HE ws hs e (hs.length-k);rw[show k+(hs.length-k)=hs.length by omega]at e2;rw[e2];by_cases hne:UA ws hs k=[]
   ·exact hne
   ·obtain⟨r,R⟩:=CQ hu hne (fun x hx=>by
     rw[←e]at hx;exact(mem_peel.mp hx).2)
    exact absurd ⟨r,R.two,R.nodup,fun x hx=>(Gx ws hs k).subset (R.sub x hx),R.chain,R.last⟩ h
  ·exact WG.mp (by omega)
end M
namespace M
def sl:List Int->List Int->Prop
 |x::xs,y::ys=>x<y\/(x=y/\sl xs ys)
 |_,_=>False
def sl_cons{l:Int}{a b:List Int}:sl (l::a) (l::b)↔sl a b:=by
 show(l<l\/(l=l/\sl a b))↔sl a b;constructor
 ·rintro(h|⟨_,h⟩)
  ·omega
  ·exact h
 ·exact fun h=>.inr ⟨rfl,h⟩
def U9(g:Int):List Int->Int
 |[]=>g
 |x::t=>U9 x t
def P5(g:Int):∀(a b:List Int),U9 g (a++b)=U9 (U9 g a) b
 |[],b=>rfl
 |x::a,b=>P5 x a b
def BM(g:Int):∀(t:List Int),(g::t)[t.length]?=some (U9 g t)
 |[]=>rfl
 |x::t=>by
  rw[YF,Ws];exact BM x t
def Path(C:Int->Prop)(ws:List (Int×Int)):Int->List Int->Prop
 |_,[]=>True
 |g,x::t=>C x/\(g,x)∈ws/\Path C ws x t
section
variable {C:Int->Prop}{ws:List (Int×Int)}
def path_app:∀{g:Int}{a b:List Int},Path C ws g (a++b)↔Path C ws g a/\Path C ws (U9 g a) b
 |g,[],b=>⟨fun h=>⟨trivial,h⟩,fun h=>h.2⟩
 |g,x::a,b=>by
  rw[W9];constructor
  ·rintro⟨h1,h2,h3⟩
   have:=path_app.mp h3
   exact⟨⟨h1,h2,this.1⟩,this.2⟩
  ·rintro⟨⟨h1,h2,h3⟩,h4⟩;exact⟨h1,h2,path_app.mpr ⟨h3,h4⟩⟩
def Di:∀{g:Int}{t:List Int},Path C ws g t->∀x∈t,C x
 |g,[],_,x,h=>by cases h
 |g,y::t,⟨h1,_,h3⟩,x,h=>by
  rcases YA.mp h with rfl|h
  ·exact h1
  ·exact Di h3 x h
def D4:∀{g:Int}{t:List Int},Path C ws g t->Ak ws (g::t)
 |g,[],_=>fun i x y h1 h2=>by simp at h2
 |g,z::t,⟨h1,h2,h3⟩=>fun i x y k1 k2=>by
  cases i with
  |zero=>
   cases k1
   cases k2
   exact h2
  |succ i=>exact D4 h3 i x y k1 k2
end
def Gr(hs:List Int)(l:Int):Int->Prop:=fun x=>x∈hs/\l<x
def Td(hs:List Int)(ws:List (Int×Int))(l:Int)(t:List Int):Prop:=Path (Gr hs l) ws l t/\(U9 l t,l)∈ws
def CH:∀{t:List Int},¬t.Nodup->∃a x b c,t=a++x::(b++x::c)
 |[],h=>absurd Qq h
 |y::t,h=>by
  by_cases hy:y∈t
  ·obtain⟨b,c,e⟩:=List.append_of_mem hy;exact⟨[],y,b,c,by rw[e];rfl⟩
  ·obtain⟨a,x,b,c,e⟩:=CH (t:=t) fun z=>h (YV.mpr ⟨hy,z⟩);exact⟨y::a,x,b,c,by rw[e];rfl⟩
def DC{hs:List Int}{ws:List (Int×Int)}{l:Int}{t:List Int}(hu:∀q∈ws,q.1≠q.2)(hl:l∈hs)(hc:Td hs ws l t)(hmin:∀u,Td hs ws l u->t.length<=u.length):Ring hs ws (l::t):=by
 have hne:t≠[]:=fun z=>by
  have h2:=hc.2;rw[z]at h2;exact hu _ h2 rfl
 have hg:=Di hc.1;refine⟨by have:=Qu.mpr hne;simp;omega,YV.mpr ⟨fun z=>absurd (hg l z).2 (by omega),?_⟩,fun x hx=>?_,D4 hc.1,fun x y h1 h2=>?_⟩
 ·refine YY fun z=>?_;obtain⟨a,x,b,c,e⟩:=CH z;have h1:=hc.1;rw[e]at h1;obtain⟨p1,p2⟩:=path_app.mp h1;have p3:=(path_app (a:=x::b) (b:=x::c) (g:=U9 l a)).mp p2
  have cl:Td hs ws l (a++x::c):=by
   refine⟨path_app.mpr ⟨p1,p2.1,p2.2.1,p3.2.2.2⟩,?_⟩
   have e2:U9 l (a++x::c)=U9 l t:=by
    rw[e,P5,P5];show U9 x c=U9 x (b++x::c);rw[P5];rfl
   rw[e2];exact hc.2
  have:=hmin _ cl
  rw[e]at this;simp at this;omega
 ·rcases YA.mp hx with rfl|hx
  ·exact hl
  ·exact(hg x hx).1
 ·cases h1
  have e:=BM l t;simp only[YF,WN]at h2;rw[e]at h2;cases h2
  exact hc.2
def K0(ws:List (Int×Int)):Prop:=ws.length<=20/\ws.Nodup/\∀q∈ws,(1<=q.1/\q.1<=10/\1<=q.2/\q.2<=10)/\q.1≠q.2
open Own
def exM(ps:List (Int×Int))(ns:List Int)(p:Nat):Int:=(ps.getD (ns.getD (p-1) 0-1).toNat (0,0)).2*(ps.getD (ns.getD p 0-1).toNat (0,0)).2
def UR(ns:List Int)(p:Nat):List Int:=ns.take (p-1)++[ns.getD p 0,ns.getD (p-1) 0]++ns.drop (p+1)
def XU(ps:List (Int×Int)):List Int->List Int×Int->Option (List Int×Int)
 |[],st=>some st
 |p::r,st=>if p<1\/(ps.length:Int)<=p then none else XU ps r (UR st.1 p.toNat,st.2+exM ps st.1 p.toNat)
def N3{ns:List Int}{p:Nat}(h1:1<=p)(h2:p<ns.length):(UR ns p).Perm ns:=by
 unfold UR;have e1:ns.getD p 0=ns[p]:=by rw[Yw,Yt h2];rfl
 have e2:ns.getD (p-1) 0=ns[p-1]'(by omega):=by rw[Yw,Yt (by omega)];rfl
 rw[e1,e2]
 have e:ns=ns.take (p-1)++[ns[p-1]'(by omega),ns[p]]++ns.drop (p+1):=by
  have h3:ns.drop (p-1)=ns[p-1]'(by omega)::ns.drop (p-1+1):=Wk (by omega);have h4:ns.drop p=ns[p]::ns.drop (p+1):=Wk h2;have h5:p-1+1=p:=by omega
  rw[h5,h4]at h3
  calc ns=ns.take (p-1)++ns.drop (p-1):=(Vg _ _).symm
   _=_:=by rw[h3];simp
 refine List.Perm.trans ?_ (List.Perm.of_eq e.symm);exact List.Perm.append_right _ (List.Perm.append_left _ (List.Perm.swap _ _ _))
def runI_mem{n:Nat}{x:Int}:x∈runI 1 n↔1<=x/\x<=n:=by
 unfold runI;rw[YX];constructor
 ·rintro⟨k,hk,rfl⟩
  have:=Q4.mp hk
  omega
 ·intro h;exact⟨(x-1).toNat,Q4.mpr (by omega),by omega⟩
def Pb(n:Nat):(runI 1 n).length=n:=by unfold runI;rw[Yu,Q3]
def Bp(ps:List (Int×Int))(st:List Int×Int):XU ps [] st=some st:=rfl
def Ti(ps:List (Int×Int))(p:Int)(r:List Int)(st:List Int×Int):XU ps (p::r) st=if p<1\/(ps.length:Int)<=p then none else XU ps r (UR st.1 p.toNat,st.2+exM ps st.1 p.toNat):=rfl
def Zda{α:Type}(a b:List α)(x y:α):((a++x::y::b).set a.length y).set (a.length+1) x=a++y::x::b:=by
 rw[List.set_append_right _ _ (Y3 _),VE,List.set_cons_zero,List.set_append_right _ _ (QC _)]
 have:a.length+1-a.length=1:=by omega
 rw[this];rfl
def Zej{ns:List Int}{p:Nat}(h1:1<=p)(h2:p<ns.length):(ns.set (p-1) ns[p]).set p (ns[p-1]'(by omega))=UR ns p:=by
 have h3:ns.drop (p-1)=ns[p-1]'(by omega)::ns.drop (p-1+1):=Wk (by omega);have h4:ns.drop p=ns[p]::ns.drop (p+1):=Wk h2;have h5:p-1+1=p:=by omega
 rw[h5,h4]at h3;have e:ns=ns.take (p-1)++ns[p-1]'(by omega)::ns[p]::ns.drop (p+1):=by rw[←h3,Vg]
 have e1:ns.getD p 0=ns[p]:=by rw[Yw,Yt h2];rfl
 have e2:ns.getD (p-1) 0=ns[p-1]'(by omega):=by rw[Yw,Yt (by omega)];rfl
 have hl:(ns.take (p-1)).length=p-1:=by rw[We];omega
 unfold UR;rw[e1,e2];generalize ns[p-1]'(by omega)=x at e;generalize ns[p]=y at e;generalize ns.take (p-1)=a at e hl;generalize ns.drop (p+1)=b at e
 have:=Zda a b x y
 rw[hl,h5,←e]at this;rw[this];simp
end M
namespace Pu
open PySem PySem.Spec PyProof.Rows L2 Own
inductive D where
 |int (i:Int)|bl (b:Bool)|non|str (x:Str)|ty (n:String)|tup (ds:List D)|lst (ds:List D)|scr (ns:List Int)|dK (kvs:List (Key×V))|dT (kvs:List (List Key×V))|loc (a:Addr) (d:D)|err (C:Addr)|ref (a:Addr)|ins (C:Addr) (xs:List Str) (ds:List D)|dF (kvs:List (List Key×V))
mutual
inductive Rp (K:Za) (H:Hp):D->V->Prop
 |int (i:Int):Rp K H (.int i) (.int i)
 |bl (b:Bool):Rp K H (.bl b) (.bl b)
 |non:Rp K H .non .non
 |str (x:Str):Rp K H (.str x) (.str x)
 |ty (n:String):Rp K H (.ty n) (.ty n)
 |tup {ds:List D} {vs:List V} {a:Addr}:H a=some (.tup vs)->Rps K H ds vs->Rp K H (.tup ds) (.ref a)
 |lst {ds:List D} {vs:List V} {a:Addr}:H a=some (.lst vs)->Rps K H ds vs->Rp K H (.lst ds) (.ref a)
 |scr {ns:List Int} {a:Addr}:SqL K H a (ns.map V.int)->Rp K H (.scr ns) (.ref a)
 |dK {kvs:List (Key×V)} {a:Addr}:H a=some (.dK kvs)->Rp K H (.dK kvs) (.ref a)
 |dT {kvs:List (List Key×V)} {a:Addr}:H a=some (.dT kvs)->Rp K H (.dT kvs) (.ref a)
 |dF {kvs:List (List Key×V)} {o:Obj} {a:Addr}:H a=some (.frz o (.dT kvs))->Rp K H (.dF kvs) (.ref a)
 |loc {d:D} {a:Addr}:Rp K H d (.ref a)->Rp K H (.loc a d) (.ref a)
 |err {C a:Addr}:H a=some (ExcR.ErrH a C)->Rp K H (.err C) (.ref a)
 |ref (a:Addr):Rp K H (.ref a) (.ref a)
 |ins {C a dx:Addr} {xs:List Str} {ds:List D} {vs:List V}:H a=some (.ins C dx (xs.zip vs))->xs.length=vs.length->Rps K H ds vs->Rp K H (.ins C xs ds) (.ref a)
inductive Rps (K:Za) (H:Hp):List D->List V->Prop
 |nil:Rps K H [] []
 |cons {d:D} {v:V} {ds:List D} {vs:List V}:Rp K H d v->Rps K H ds vs->Rps K H (d::ds) (v::vs)
end
section
variable {K:Za}{H H':Hp}
mutual
def Rp.mono (S:Same H H'):∀{d:D}{v:V},Rp K H d v->Rp K H' d v
 |_,_,.int i=>.int i
 |_,_,.bl b=>.bl b
 |_,_,.non=>.non
 |_,_,.str x=>.str x
 |_,_,.ty n=>.ty n
 |_,_,.tup h r=>.tup (S _ _ h) (Rps.mono S r)
 |_,_,.lst h r=>.lst (S _ _ h) (Rps.mono S r)
 |_,_,.scr h=>.scr (S.seq h)
 |_,_,.dK h=>.dK (S _ _ h)
 |_,_,.dT h=>.dT (S _ _ h)
 |_,_,.loc h=>.loc (Rp.mono S h)
 |_,_,.dF h=>.dF (S _ _ h)
 |_,_,.err h=>.err (S _ _ h)
 |_,_,.ref a=>.ref a
 |_,_,.ins h e r=>.ins (S _ _ h) e (Rps.mono S r)
def Rps.mono (S:Same H H'):∀{ds:List D}{vs:List V},Rps K H ds vs->Rps K H' ds vs
 |_,_,.nil=>.nil
 |_,_,.cons h r=>.cons (Rp.mono S h) (Rps.mono S r)
end
def Rps.len:∀{ds:List D}{vs:List V},Rps K H ds vs->vs.length=ds.length
 |_,_,.nil=>rfl
 |_,_,.cons _ r=>Wj (· + 1) (Rps.len r)
def Rps.get:∀{ds:List D}{vs:List V}{i:Nat}{d:D},Rps K H ds vs->ds[i]?=some d->∃v,vs[i]?=some v/\Rp K H d v
 |_,_,_,_,.nil,e=>by simp at e
 |_,_,0,_,.cons h _,e=>by simp at e;subst e;exact⟨_,rfl,h⟩
 |_,_,i+1,d,.cons _ r,e=>by
  obtain⟨v,h1,h2⟩:=Rps.get (i:=i) (d:=d) r (by simpa using e);exact⟨v,by simpa using h1,h2⟩
def Rps.append:∀{ds es:List D}{vs us:List V},Rps K H ds vs->Rps K H es us->Rps K H (ds++es) (vs++us)
 |_,_,_,_,.nil,s=>s
 |_,_,_,_,.cons h r,s=>.cons h (Rps.append r s)
def Rps.drop:∀{ds:List D}{vs:List V} (n:Nat),Rps K H ds vs->Rps K H (ds.drop n) (vs.drop n)
 |_,_,0,r=>r
 |_,_,_+1,.nil=>.nil
 |_,_,n+1,.cons _ r=>Rps.drop n r
def Rps.take:∀{ds:List D}{vs:List V} (n:Nat),Rps K H ds vs->Rps K H (ds.take n) (vs.take n)
 |_,_,0,_=>.nil
 |_,_,_+1,.nil=>.nil
 |_,_,n+1,.cons h r=>.cons h (Rps.take n r)
end
mutual
def imm:D->Bool
 | .tup ds=>imms ds
 | .lst _=>false
 | .scr _=>false
 | .dK _=>false
 | .dT _=>false
 | .loc _ _=>false
 | .err _=>false
 | .ins _ _ _=>false
 |_=>true
def imms:List D->Bool
 |[]=>true
 |d::r=>imm d&&imms r
end
open Classical in
noncomputable def off(Z:Addr->Prop)(H:Hp):Hp:=fun b=>if Z b then none else H b
section
variable {K:Za}{H H':Hp}{Z Z':Addr->Prop}
def Ki{b:Addr}{o:HO}(h:off Z H b=some o):H b=some o/\¬Z b:=by
 unfold off at h;by_cases z:Z b
 ·rw[Yz z]at h;cases h
 ·rw[Yx z]at h;exact⟨h,z⟩
def UQ{b:Addr}{o:HO}(h:H b=some o)(z:¬Z b):off Z H b=some o:=by
 unfold off;rw[Yx z];exact h
def Uo(S:Same H H')(hz:∀b o,H b=some o->¬Z b->¬Z' b):Same (off Z H) (off Z' H'):=fun b o h=>by
 obtain⟨h1,h2⟩:=Ki h;exact UQ (S b o h1) (hz b o h1 h2)
def off_sub:Same (off Z H) H:=fun _ _ h=>(Ki h).1
mutual
def Rp.off (hm:∀b,Z b->Mut (H b)):∀{d:D}{v:V},Rp K H d v->imm d=true->Rp K (off Z H) d v
 |_,_,.int i,_=>.int i
 |_,_,.bl b,_=>.bl b
 |_,_,.non,_=>.non
 |_,_,.str x,_=>.str x
 |_,_,.ty n,_=>.ty n
 |_,_,.tup h r,e=>.tup (UQ h fun z=>by have:=hm _ z;rw[h]at this;exact this) (Rps.off hm r (by unfold imm at e;exact e))
 |_,_,.lst _ _,e=>by unfold imm at e;cases e
 |_,_,.scr _,e=>by unfold imm at e;cases e
 |_,_,.dK _,e=>by unfold imm at e;cases e
 |_,_,.dT _,e=>by unfold imm at e;cases e
 |_,_,.loc _,e=>by unfold imm at e;cases e
 |_,_,.dF h,_=>.dF (UQ h fun z=>by have:=hm _ z;rw[h]at this;exact this)
 |_,_,.err _,e=>by unfold imm at e;cases e
 |_,_,.ref a,_=>.ref a
 |_,_,.ins _ _ _,e=>by unfold imm at e;cases e
def Rps.off (hm:∀b,Z b->Mut (H b)):∀{ds:List D}{vs:List V},Rps K H ds vs->imms ds=true->Rps K (off Z H) ds vs
 |_,_,.nil,_=>.nil
 |_,_,.cons h r,e=>by
  unfold imms at e;rw[Wf]at e;exact .cons (Rp.off hm h e.1) (Rps.off hm r e.2)
end
end
inductive O where
 |lst (ds:List D)|dK (kvs:List (Key×V))|dT (kvs:List (List Key×V))|ins (a C:Addr) (xs:List Str) (cs:List (Addr×List D))|lsA (a:Addr) (ds:List D)|nst (cs:List (Addr×List D))
instance:Coe (List D) O:=⟨O.lst⟩
def O.d:O->D
 | .lst ds=>.lst ds | .dK kvs=>.dK kvs | .dT kvs=>.dT kvs | .ins _ C xs cs=>.ins C xs (cs.map fun c=>.lst c.2) | .lsA _ ds=>.lst ds | .nst cs=>.tup (cs.map fun c=>.lst c.2)
def O.adr (a:Addr):O->Addr->Prop
 | .lst _=>fun b=>b=a
 | .dK _=>fun b=>b=a
 | .dT _=>fun b=>b=a
 | .ins x _ _ cs=>fun b=>b=x\/∃c∈cs,b=c.1
 | .lsA x _=>fun b=>b=x
 | .nst cs=>fun b=>∃c∈cs,b=c.1
def OR(K:Za)(F H:Hp)(a:Addr):O->Prop
 | .lst ds=>∃vs,H a=some (.lst vs)/\Rps K F ds vs
 | .dK kvs=>H a=some (.dK kvs)
 | .dT kvs=>H a=some (.dT kvs)
 | .lsA x ds=>a=x/\∃vs,H a=some (.lst vs)/\Rps K F ds vs
 | .ins x C xs cs=>a=x/\xs.length=cs.length/\(∃dx,H a=some (.ins C dx (xs.zip (cs.map fun c=>V.ref c.1))))/\(∀c∈cs,∃vs,H c.1=some (.lst vs)/\Rps K F c.2 vs)/\(cs.map (·.1)).Nodup
 | .nst cs=>F a=some (.tup (cs.map fun c=>V.ref c.1))/\(∀c∈cs,∃vs,H c.1=some (.lst vs)/\Rps K F c.2 vs)/\(cs.map (·.1)).Nodup
def OR.mono {K:Za}{F F' H H':Hp}{a:Addr}{o:O} (S1:Same F F') (S2:∀b,o.adr a b->∀x,H b=some x->H' b=some x) (h:OR K F H a o):OR K F' H' a o:=by
 cases o with
 |lst ds=>obtain⟨vs,h1,h2⟩:=h;exact⟨vs,S2 _ rfl _ h1,Rps.mono S1 h2⟩
 |dK kvs=>exact S2 _ rfl _ h
 |dT kvs=>exact S2 _ rfl _ h
 |lsA x ds=>obtain⟨rfl,vs,h1,h2⟩:=h;exact⟨rfl,vs,S2 _ rfl _ h1,Rps.mono S1 h2⟩
 |nst cs=>
  obtain⟨h1,h2,h3⟩:=h;exact⟨S1 _ _ h1,fun c hc=>let ⟨vs,q1,q2⟩:=h2 c hc;⟨vs,S2 _ ⟨c,hc,rfl⟩ _ q1,Rps.mono S1 q2⟩,h3⟩
 |ins x C xs cs=>
  obtain⟨e,l,⟨dx,h1⟩,h2,h3⟩:=h;exact⟨e,l,⟨dx,S2 _ (.inl e) _ h1⟩,fun c hc=>let ⟨vs,q1,q2⟩:=h2 c hc;⟨vs,S2 _ (.inr ⟨c,hc,rfl⟩) _ q1,Rps.mono S1 q2⟩,h3⟩
def N1{K:Za}{F:Hp}:∀{cs:List (Addr×List D)},(∀c∈cs,∃vs,F c.1=some (.lst vs)/\Rps K F c.2 vs)->Rps K F (cs.map fun c=>.lst c.2) (cs.map fun c=>V.ref c.1)
 |[],_=>.nil
 |c::cs,h=>let ⟨_,q1,q2⟩:=h c YO;.cons (.lst q1 q2) (N1 fun c' hc=>h c' (YJ _ hc))
def OR.rpIn {K:Za}{F F' H:Hp}{a:Addr}{o:O} (S1:Same F F') (S2:∀b,o.adr a b->∀x,H b=some x->F' b=some x) (h:OR K F H a o):Rp K F' o.d (.ref a):=by
 cases o with
 |lst ds=>obtain⟨vs,h1,h2⟩:=h;exact .lst (S2 _ rfl _ h1) (Rps.mono S1 h2)
 |dK kvs=>exact .dK (S2 _ rfl _ h)
 |dT kvs=>exact .dT (S2 _ rfl _ h)
 |lsA x ds=>obtain⟨rfl,vs,h1,h2⟩:=h;exact .lst (S2 _ rfl _ h1) (Rps.mono S1 h2)
 |nst cs=>
  obtain⟨h1,h2,h3⟩:=h;exact .tup (S1 _ _ h1) (N1 fun c hc=>let ⟨vs,q1,q2⟩:=h2 c hc;⟨vs,S2 _ ⟨c,hc,rfl⟩ _ q1,Rps.mono S1 q2⟩)
 |ins x C xs cs=>
  obtain⟨e,l,⟨dx,h1⟩,h2,h3⟩:=h;exact .ins (S2 _ (.inl e) _ h1) (by rw[Yu];exact l) (N1 fun c hc=>let ⟨vs,q1,q2⟩:=h2 c hc;⟨vs,S2 _ (.inr ⟨c,hc,rfl⟩) _ q1,Rps.mono S1 q2⟩)
def OR.rp {K:Za}{F H:Hp}{a:Addr}{o:O} (S1:Same F H) (h:OR K F H a o):Rp K H o.d (.ref a):=h.rpIn S1 fun _ _ _ e=>e
def OR.mut {K:Za}{F H:Hp}{a:Addr}{o:O} (h:OR K F H a o):∀b,o.adr a b->Mut (H b):=by
 cases o with
 |lst ds=>obtain⟨vs,h1,h2⟩:=h;intro b e;rw[show b=a from e,h1];trivial
 |dK kvs=>intro b e;rw[show b=a from e,show H a=some (.dK kvs)from h];trivial
 |dT kvs=>intro b e;rw[show b=a from e,show H a=some (.dT kvs)from h];trivial
 |lsA x ds=>obtain⟨rfl,vs,h1,h2⟩:=h;intro b e;rw[show b=a from e,h1];trivial
 |nst cs=>
  obtain⟨h1,h2,h3⟩:=h;rintro b ⟨c,hc,hb⟩;obtain⟨vs,q1,_⟩:=h2 c hc;rw[hb,q1];trivial
 |ins x C xs cs=>
  obtain⟨e,l,⟨dx,h1⟩,h2,h3⟩:=h;intro b hb;rcases hb with hb|⟨c,hc,hb⟩
  ·rw[show b=a from hb.trans e.symm,h1];trivial
  ·obtain⟨vs,q1,_⟩:=h2 c hc;rw[hb,q1];trivial
inductive S where
 |bor (d:D)|sh (d:D)|own (o:O)|view (o:O)|tmp (d:D)
abbrev Γ:=List (Option S)
def D.strip:D->D
 | .loc _ d=>d|d=>d
def Rp.strip {K:Za}{H:Hp}{d:D}{v:V} (h:Rp K H d v):Rp K H d.strip v:=by
 cases h with
 |loc h=>exact h
 |int i=>exact .int i
 |bl b=>exact .bl b
 |non=>exact .non
 |str x=>exact .str x
 |ty n=>exact .ty n
 |tup h r=>exact .tup h r
 |lst h r=>exact .lst h r
 |scr h=>exact .scr h
 |dK h=>exact .dK h
 |dT h=>exact .dT h
 |dF h=>exact .dF h
 |err h=>exact .err h
 |ref a=>exact .ref a
 |ins h e r=>exact .ins h e r
def S.d:S->D
 | .bor d=>d.strip | .sh d=>d | .own o=>o.d | .view o=>o.d | .tmp d=>d
def arg(d:D):S:=match imm d with|true=>.sh d|false=>.bor d
def argT(d:D):S:=match imm d with|true=>.sh d|false=>.tmp d
def S.sub:S->D->S
 | .bor _,e=>arg e | .tmp _,e=>argT e | .own (.nst _),e=>argT e | .view (.nst _),e=>argT e|_,e=>.sh e
def S.shd:S->Option D
 | .sh d=>some d | .own o=>some o.d
 | .bor d=>match imm d with|true=>some d|false=>none
 | .tmp d=>match imm d with|true=>some d|false=>none
 | .view _=>none
def S.slot:S->Option S
 | .view _=>none | .bor d=>some (.bor d) | .sh d=>some (.sh d) | .own ds=>some (.own ds)
 | .tmp d=>match imm d with|true=>some (.sh d)|false=>none
def Zfd(γ:Γ)(σ:L2.St)(b:Addr):Prop:=∃(i:Nat) (ds:O) (a:Addr),γ[i]?=some (some (.own ds))/\σ[i]?=some (some (.ref a))/\ds.adr a b
def zof(B:Addr->Prop)(γ:Γ)(σ:L2.St):Addr->Prop:=fun b=>B b\/Zfd γ σ b
def SV(K:Za)(Z:Addr->Prop)(H0 H:Hp):S->V->Prop
 | .bor d,v=>Rp K H0 d v
 | .sh d,v=>Rp K (off Z H) d v
 | .own o,v=>∃a,v=.ref a/\(∀b,o.adr a b->H0 b=none)/\OR K (off Z H) H a o
 |_,_=>False
def TV(K:Za)(Z:Addr->Prop)(H0 H H':Hp):S->V->Prop
 | .bor d,v=>Rp K H0 d v
 | .sh d,v=>Rp K (off Z H') d v
 | .own o,v=>∃a,v=.ref a/\(∀b,o.adr a b->H b=none)/\OR K (off (fun b=>Z b\/o.adr a b) H') H' a o
 | .view o,v=>∃a,v=.ref a/\OR K (off Z H') H' a o
 | .tmp d,v=>Rp K H' d v
structure EnvR (K:Za) (H0:Hp) (B:Addr->Prop) (H:Hp) (σ:L2.St) (γ:Γ):Prop where
 same:Same H0 H
 len:σ.length=γ.length
 bm:∀b,B b->Mut (H b)
 own:∀(i j:Nat) (a a':Addr) (ds es:O) (b:Addr),γ[i]?=some (some (.own ds))->γ[j]?=some (some (.own es))->σ[i]?=some (some (.ref a))->σ[j]?=some (some (.ref a'))->ds.adr a b->es.adr a' b->i=j
 slot:∀(i:Nat) (s:S),γ[i]?=some (some s)->∃v,σ[i]?=some (some v)/\SV K (zof B γ σ) H0 H s v
section
variable {K:Za}{H0 H H1 H':Hp}{B Z Z':Addr->Prop}{σ:L2.St}{γ:Γ}
def Ko(S:Same H H'){b:Addr}(h:Mut (H b)):Mut (H' b):=by
 cases e:H b with
 |none=>rw[e]at h;exact h.elim
 |some o=>rw[S b o e,←e];exact h
def KF{b:Addr}(h:Mut (H b)):∃o,H b=some o:=by
 cases e:H b with
 |none=>rw[e]at h;exact h.elim
 |some o=>exact⟨o,rfl⟩
def EnvR.grow (E:EnvR K H0 B H σ γ) (S:Same H H'):EnvR K H0 B H' σ γ where
 same:=E.same.trans S
 len:=E.len
 bm b h:=Ko S (E.bm b h)
 own:=E.own
 slot i s h:=by
  obtain⟨v,h1,h2⟩:=E.slot i s h;refine⟨v,h1,?_⟩;cases s with
  |bor d=>exact h2
  |sh d=>exact Rp.mono (Uo S fun _ _ _ z=>z) h2
  |own ds=>
   obtain⟨a,e1,e3,e4⟩:=h2;exact⟨a,e1,e3,e4.mono (Uo S fun _ _ _ z=>z) fun b _ x=>S b x⟩
  |view ds=>exact h2
  |tmp d=>exact h2
def EnvR.zm (E:EnvR K H0 B H σ γ):∀b,zof B γ σ b->Mut (H b):=fun b h=>by
 rcases h with h|⟨i,ds,x,h1,h2,hb⟩
 ·exact E.bm b h
 ·obtain⟨v,e1,a,e2,e3,e4⟩:=E.slot i _ h1;rw[h2]at e1;cases e1
  cases e2
  exact e4.mut b hb
def TV.rp {s:S}{v:V} (h0:Same H0 H') (h:TV K Z H0 H H' s v):Rp K H' s.d v:=by
 cases s with
 |bor d=>exact(Rp.mono h0 h).strip
 |sh d=>exact Rp.mono off_sub h
 |own ds=>
  obtain⟨a,rfl,_,r⟩:=h;exact r.rp off_sub
 |view ds=>
  obtain⟨a,rfl,r⟩:=h;exact r.rp off_sub
 |tmp d=>exact h
def TV.grow {s:S}{v:V} (S1:Same H' H1) (h:TV K Z H0 H H' s v):TV K Z H0 H H1 s v:=by
 cases s with
 |bor d=>exact h
 |sh d=>exact Rp.mono (Uo S1 fun _ _ _ z=>z) h
 |own ds=>
  obtain⟨a,rfl,e0,r⟩:=h;exact⟨a,rfl,e0,r.mono (Uo S1 fun _ _ _ z=>z) fun b _ x=>S1 b x⟩
 |view ds=>
  obtain⟨a,rfl,r⟩:=h;exact⟨a,rfl,r.mono (Uo S1 fun _ _ _ z=>z) fun b _ x=>S1 b x⟩
 |tmp d=>exact Rp.mono S1 h
def TV.weak {s:S}{v:V} (S1:Same H H1) (hz:∀b,Z b->Z' b) (h:TV K Z' H0 H1 H' s v):TV K Z H0 H H' s v:=by
 cases s with
 |bor d=>exact h
 |sh d=>exact Rp.mono (Uo (Same.refl _) fun b _ _ z y=>z (hz b y)) h
 |own ds=>
  obtain⟨a,rfl,e0,r⟩:=h;exact⟨a,rfl,fun b hb=>S1.free (e0 b hb),r.mono (Uo (Same.refl _) fun b _ _ z y=>z (y.imp (hz b) id)) fun _ _ _ q=>q⟩
 |view ds=>
  obtain⟨a,rfl,r⟩:=h;exact⟨a,rfl,r.mono (Uo (Same.refl _) fun b _ _ z y=>z (hz b y)) fun _ _ _ q=>q⟩
 |tmp d=>exact h
def TV.shd {s:S}{v:V}{d:D} (h0:Same H0 H') (hm:∀b,Z b->Mut (H b)) (S1:Same H H') (h:TV K Z H0 H H' s v) (e:s.shd=some d):Rp K (off Z H') d v:=by
 have hm':∀b,Z b->Mut (H' b):=fun b z=>Ko S1 (hm b z);cases s with
 |bor d'=>
  unfold S.shd at e;cases q:imm d' with
  |false=>simp[q]at e
  |true=>
   simp[q]at e;subst e;exact Rp.off hm' (Rp.mono h0 h) q
 |sh d'=>cases e;exact h
 |own ds=>
  cases e
  obtain⟨a,rfl,e0,r⟩:=h;exact r.rpIn (Uo (Same.refl _) fun b _ _ z y=>z (.inl y)) fun b hb x e=>UQ e fun z=>by have:=hm _ z;rw[e0 b hb]at this;exact this
 |view ds=>cases e
 |tmp d'=>
  unfold S.shd at e;cases q:imm d' with
  |false=>simp[q]at e
  |true=>
   simp[q]at e;subst e;exact Rp.off hm' h q
def argR{d:D}{v:V}(hm:∀b,Z b->Mut (H' b))(h0:Same H0 H')(h:Rp K H0 d v):TV K Z H0 H H' (arg d) v:=by
 unfold arg;cases q:imm d with
 |true=>exact Rp.off hm (Rp.mono h0 h) q
 |false=>exact h
def Pm{d:D}{v:V}(hm:∀b,Z b->Mut (H' b))(h:Rp K H' d v):TV K Z H0 H H' (argT d) v:=by
 unfold argT;cases q:imm d with
 |true=>exact Rp.off hm h q
 |false=>exact h
def Rp.lst_inv {ds:List D}{v:V} (h:Rp K H (.lst ds) v):∃a vs,v=.ref a/\H a=some (.lst vs)/\Rps K H ds vs:=by
 cases h with
 |lst h r=>exact⟨_,_,rfl,h,r⟩
def Rp.tup_inv {ds:List D}{v:V} (h:Rp K H (.tup ds) v):∃a vs,v=.ref a/\H a=some (.tup vs)/\Rps K H ds vs:=by
 cases h with
 |tup h r=>exact⟨_,_,rfl,h,r⟩
def TV.part {s:S}{v:V} (h0:Same H0 H') (hm:∀b,Z b->Mut (H b)) (S1:Same H H') (h:TV K Z H0 H H' s v) :
  (∀ds,s.d=.lst ds->∃a vs,v=.ref a/\H' a=some (.lst vs)/\vs.length=ds.length/\∀(i:Nat) d,ds[i]?=some d->∃u,vs[i]?=some u/\TV K Z H0 H H' (s.sub d) u)/\
  (∀ds,s.d=.tup ds->∃a vs,v=.ref a/\H' a=some (.tup vs)/\vs.length=ds.length/\∀(i:Nat) d,ds[i]?=some d->∃u,vs[i]?=some u/\TV K Z H0 H H' (s.sub d) u):=by
 have hm':∀b,Z b->Mut (H' b):=fun b z=>Ko S1 (hm b z);cases s with
 |bor d=>
  have h:=Rp.strip h;refine⟨fun ds e=>?_,fun ds e=>?_⟩<;>rw[show d.strip=_ from e]at h
  ·obtain⟨a,vs,rfl,h,r⟩:=Rp.lst_inv h;exact⟨_,_,rfl,h0 _ _ h,r.len,fun i d e=>let ⟨u,h1,h2⟩:=r.get e;⟨u,h1,argR hm' h0 h2⟩⟩
  ·obtain⟨a,vs,rfl,h,r⟩:=Rp.tup_inv h;exact⟨_,_,rfl,h0 _ _ h,r.len,fun i d e=>let ⟨u,h1,h2⟩:=r.get e;⟨u,h1,argR hm' h0 h2⟩⟩
 |sh d=>
  refine⟨fun ds e=>?_,fun ds e=>?_⟩<;>(have e':d=_:=e;subst e')
  ·obtain⟨a,vs,rfl,h,r⟩:=Rp.lst_inv h;exact⟨_,_,rfl,off_sub _ _ h,r.len,fun i d e=>r.get e⟩
  ·obtain⟨a,vs,rfl,h,r⟩:=Rp.tup_inv h;exact⟨_,_,rfl,off_sub _ _ h,r.len,fun i d e=>r.get e⟩
 |own es=>
  cases es with
  |lst es=>
   refine⟨fun ds e=>?_,fun ds e=>by cases e⟩;cases e
   obtain⟨a,rfl,e0,vs,e,r⟩:=h;exact⟨a,vs,rfl,e,r.len,fun i d e=>let ⟨u,h1,h2⟩:=r.get e;⟨u,h1,Rp.mono (Uo (Same.refl _) fun b _ _ z y=>z (.inl y)) h2⟩⟩
  |lsA x es=>
   refine⟨fun ds e=>?_,fun ds e=>by cases e⟩;cases e
   obtain⟨a,rfl,e0,_,vs,e,r⟩:=h;exact⟨a,vs,rfl,e,r.len,fun i d e=>let ⟨u,h1,h2⟩:=r.get e;⟨u,h1,Rp.mono (Uo (Same.refl _) fun b _ _ z y=>z (.inl y)) h2⟩⟩
  |dK es=>exact⟨(fun ds e=>by cases e),(fun ds e=>by cases e)⟩
  |dT es=>exact⟨(fun ds e=>by cases e),(fun ds e=>by cases e)⟩
  |nst cs=>
   refine⟨(fun ds e=>by cases e),fun ds e=>?_⟩;cases e
   obtain⟨a,rfl,e0,e1,e2,e3⟩:=h;have r:Rps K H' (cs.map fun c=>D.lst c.2) (cs.map fun c=>V.ref c.1):=N1 fun c hc=>let ⟨vs,q1,q2⟩:=e2 c hc;⟨vs,q1,Rps.mono off_sub q2⟩;exact⟨a,_,rfl,off_sub _ _ e1,r.len,fun i d e=>let ⟨u,h1,h2⟩:=r.get e;⟨u,h1,Pm hm' h2⟩⟩
  |ins x C xs cs=>exact⟨(fun ds e=>by cases e),(fun ds e=>by cases e)⟩
 |view es=>
  cases es with
  |lst es=>
   refine⟨fun ds e=>?_,fun ds e=>by cases e⟩;cases e
   obtain⟨a,rfl,vs,e,r⟩:=h;exact⟨a,vs,rfl,e,r.len,fun i d e=>r.get e⟩
  |lsA x es=>
   refine⟨fun ds e=>?_,fun ds e=>by cases e⟩;cases e
   obtain⟨a,rfl,_,vs,e,r⟩:=h;exact⟨a,vs,rfl,e,r.len,fun i d e=>r.get e⟩
  |dK es=>exact⟨(fun ds e=>by cases e),(fun ds e=>by cases e)⟩
  |dT es=>exact⟨(fun ds e=>by cases e),(fun ds e=>by cases e)⟩
  |nst cs=>
   refine⟨(fun ds e=>by cases e),fun ds e=>?_⟩;cases e
   obtain⟨a,rfl,e1,e2,e3⟩:=h;have r:Rps K H' (cs.map fun c=>D.lst c.2) (cs.map fun c=>V.ref c.1):=N1 fun c hc=>let ⟨vs,q1,q2⟩:=e2 c hc;⟨vs,q1,Rps.mono off_sub q2⟩;exact⟨a,_,rfl,off_sub _ _ e1,r.len,fun i d e=>let ⟨u,h1,h2⟩:=r.get e;⟨u,h1,Pm hm' h2⟩⟩
  |ins x C xs cs=>exact⟨(fun ds e=>by cases e),(fun ds e=>by cases e)⟩
 |tmp d=>
  refine⟨fun ds e=>?_,fun ds e=>?_⟩<;>(have e':d=_:=e;subst e')
  ·obtain⟨a,vs,rfl,h,r⟩:=Rp.lst_inv h;exact⟨_,_,rfl,h,r.len,fun i d e=>let ⟨u,h1,h2⟩:=r.get e;⟨u,h1,Pm hm' h2⟩⟩
  ·obtain⟨a,vs,rfl,h,r⟩:=Rp.tup_inv h;exact⟨_,_,rfl,h,r.len,fun i d e=>let ⟨u,h1,h2⟩:=r.get e;⟨u,h1,Pm hm' h2⟩⟩
def Fr(B:Addr->Prop)(H:Hp)(σ:L2.St)(γ:Γ)(H':Hp)(σ':L2.St)(γ':Γ):Prop:=∀b o,H b=some o->¬zof B γ σ b->H' b=some o/\¬zof B γ' σ' b
def Fr.refl:Fr B H σ γ H σ γ:=fun _ _ h z=>⟨h,z⟩
def Fr.trans {H1 H2:Hp}{σ1 σ2:L2.St}{γ1 γ2:Γ} (a:Fr B H σ γ H1 σ1 γ1) (b:Fr B H1 σ1 γ1 H2 σ2 γ2):Fr B H σ γ H2 σ2 γ2:=fun x o h z=>let ⟨h1,z1⟩:=a x o h z;b x o h1 z1
def Fr.grow (S1:Same H H'):Fr B H σ γ H' σ γ:=fun _ _ h z=>⟨S1 _ _ h,z⟩
def Fr.off {H':Hp}{σ':L2.St}{γ':Γ} (f:Fr B H σ γ H' σ' γ'):Same (off (zof B γ σ) H) (Pu.off (zof B γ' σ') H'):=fun b o h=>by
 obtain⟨h1,h2⟩:=Ki h;obtain⟨h3,h4⟩:=f b o h1 h2;exact UQ h3 h4
def UE{α:Type}{l:List α}{i j:Nat}{x y:α}(h:(l.set i x)[j]?=some y):(j=i/\x=y/\i<l.length)\/(j≠i/\l[j]?=some y):=by
 rw[List.getElem?_set]at h;by_cases e:i=j
 ·subst e;rw[Yz rfl]at h;by_cases e2:i<l.length
  ·rw[Yz e2]at h;exact .inl ⟨rfl,Y7 h,e2⟩
  ·rw[Yx e2]at h;cases h
 ·rw[Yx e]at h;exact .inr ⟨fun z=>e z.symm,h⟩
def SJ{α:Type}{l:List α}{i:Nat}{x:α}(h:i<l.length):(l.set i x)[i]?=some x:=by rw[QS h]
def Pn{α:Type}{l:List α}{i j:Nat}{x:α}(h:j≠i):(l.set i x)[j]?=l[j]?:=Vk fun z=>h z.symm
def EnvR.drop (E:EnvR K H0 B H σ γ) (i:Nat):EnvR K H0 B H σ (γ.set i none)/\Fr B H σ γ H σ (γ.set i none):=by
 have hz:∀b,zof B (γ.set i none) σ b->zof B γ σ b:=fun b z=>z.imp id fun⟨j,ds,a,h1,h2,h3⟩=>by
  rcases UE h1 with⟨_,e,_⟩|⟨_,e⟩
  ·cases e
  ·exact⟨j,ds,a,e,h2,h3⟩
 refine⟨⟨E.same,by rw[Wy];exact E.len,E.bm,fun k j a a' ds es b h1 h2=>?_,fun k s h=>?_⟩,fun b o h z=>⟨h,fun y=>z (hz b y)⟩⟩
 ·rcases UE h1 with⟨_,e,_⟩|⟨_,e1⟩
  ·cases e
  ·rcases UE h2 with⟨_,e,_⟩|⟨_,e2⟩
   ·cases e
   ·exact E.own k j a a' ds es b e1 e2
 ·rcases UE h with⟨_,e,_⟩|⟨_,e⟩
  ·cases e
  ·obtain⟨v,h1,h2⟩:=E.slot k s e;refine⟨v,h1,?_⟩;have S1:Same (Pu.off (zof B γ σ) H) (Pu.off (zof B (γ.set i none) σ) H):=Uo (Same.refl _) fun b _ _ z y=>z (hz b y);cases s with
   |bor d=>exact h2
   |sh d=>exact Rp.mono S1 h2
   |own ds=>
    obtain⟨a,e1,e3,e4⟩:=h2;exact⟨a,e1,e3,e4.mono S1 fun _ _ _ q=>q⟩
   |view ds=>exact h2
   |tmp d=>exact h2
def EnvR.put {i:Nat}{s s':S}{v:V} (E:EnvR K H0 B H σ γ) (S1:Same H H') (h:TV K (zof B γ σ) H0 H H' s v) (e:s.slot=some s') (hi:i<γ.length) :
  EnvR K H0 B H' (σ.set i (some v)) (γ.set i (some s'))/\Fr B H σ γ H' (σ.set i (some v)) (γ.set i (some s')):=by
 have hiσ:i<σ.length:=by rw[E.len];exact hi
 have E':=E.grow S1
 have isown:∀ds,s'=.own ds->s=.own ds:=fun ds q=>by
  subst q;cases s with
  |own es=>cases e;rfl
  |bor d=>cases e
  |sh d=>cases e
  |view d=>cases e
  |tmp d=>unfold S.slot at e;cases q:imm d<;>simp[q]at e
 have hown:∀b,zof B (γ.set i (some s')) (σ.set i (some v)) b->zof B γ σ b\/∃ds a,s=.own ds/\v=.ref a/\ds.adr a b:=fun b z=>by
  rcases z with z|⟨j,ds,a,h1,h2,h3⟩
  ·exact .inl (.inl z)
  ·rcases UE h1 with⟨ej,e1,_⟩|⟨nj,e1⟩
   ·subst ej;rw[SJ hiσ]at h2
    have:s'=.own ds:=Y7 e1
    exact .inr ⟨ds,a,isown ds this,Y7 (Y7 h2),h3⟩
   ·rw[Pn nj]at h2;exact .inl (.inr ⟨j,ds,a,e1,h2,h3⟩)
 have fresh:∀ds a b,s=.own ds->v=.ref a->ds.adr a b->H b=none:=fun ds a b es ev hb=>by
  subst es;obtain⟨a',e1,e0,_⟩:=h;rw[ev]at e1;cases e1
  exact e0 b hb
 have hz:∀b o,H b=some o->¬zof B γ σ b->¬zof B (γ.set i (some s')) (σ.set i (some v)) b:=fun b o hb z y=>by
  rcases hown b y with y|⟨ds,a,y1,y2,y3⟩
  ·exact z y
  ·rw[fresh ds a b y1 y2 y3]at hb;cases hb
 have So:Same (off (zof B γ σ) H) (Pu.off (zof B (γ.set i (some s')) (σ.set i (some v))) H'):=Uo S1 hz;refine⟨⟨E'.same,by rw[Wy,Wy];exact E.len,E'.bm,fun k j a a' ds es b h1 h2 h3 h4 h5 h6=>?_,fun k u hk=>?_⟩,fun b o hb z=>⟨S1 b o hb,hz b o hb z⟩⟩
 ·have old:∀(k:Nat) (ds:O) (a b:Addr),γ[k]?=some (some (.own ds))->σ[k]?=some (some (.ref a))->ds.adr a b->∃o,H b=some o:=fun k ds a b e1 e2 e3=>by
   obtain⟨u,q1,a',q2,_,q3⟩:=E.slot k _ e1;rw[e2]at q1;cases q1
   cases q2
   exact KF (q3.mut b e3)
  rcases UE h1 with⟨ek,e1,_⟩|⟨nk,e1⟩
  ·rcases UE h2 with⟨ej,e2,_⟩|⟨nj,e2⟩
   ·rw[ek,ej]
   ·subst ek;rw[SJ hiσ]at h3;rw[Pn nj]at h4;obtain⟨o,ho⟩:=old j es a' b e2 h4 h6;rw[fresh ds a b (isown ds (Y7 e1)) (Y7 (Y7 h3)) h5]at ho;cases ho
  ·rcases UE h2 with⟨ej,e2,_⟩|⟨nj,e2⟩
   ·subst ej;rw[SJ hiσ]at h4;rw[Pn nk]at h3;obtain⟨o,ho⟩:=old k ds a b e1 h3 h5;rw[fresh es a' b (isown es (Y7 e2)) (Y7 (Y7 h4)) h6]at ho;cases ho
   ·rw[Pn nk]at h3;rw[Pn nj]at h4;exact E.own k j a a' ds es b e1 e2 h3 h4 h5 h6
 ·rcases UE hk with⟨ek,e1,_⟩|⟨nk,e1⟩
  ·subst ek
   have:u=s':=(Y7 e1).symm
   subst this;refine⟨v,SJ hiσ,?_⟩;cases s with
   |own ds=>
    cases e
    obtain⟨a,rfl,e0,r⟩:=h;refine⟨a,rfl,fun b hb=>E.same.free (e0 b hb),r.mono (Uo (Same.refl _) fun b o _ z y=>?_) fun _ _ _ q=>q⟩;rcases hown b y with y|⟨_,_,y1,y,y2⟩
    ·exact z (.inl y)
    ·cases y;cases y1;exact z (.inr y2)
   |sh d=>
    cases e
    refine Rp.mono (Uo (Same.refl _) fun b o _ z y=>?_) h;rcases hown b y with y|⟨_,_,y,_⟩
    ·exact z y
    ·cases y
   |bor d=>cases e;exact h
   |view d=>cases e
   |tmp d=>
    unfold S.slot at e;cases q:imm d with
    |false=>simp[q]at e
    |true=>
     simp[q]at e;subst e;refine Rp.off (fun b y=>?_) h q;rcases hown b y with y|⟨_,_,y,_⟩
     ·exact Ko S1 (E.zm b y)
     ·cases y
  ·obtain⟨w,q1,q2⟩:=E.slot k u e1;refine⟨w,by rw[Pn nk];exact q1,?_⟩;cases u with
   |bor d=>exact q2
   |sh d=>exact Rp.mono So q2
   |own ds=>
    obtain⟨a,e1,e3,e4⟩:=q2;exact⟨a,e1,e3,e4.mono So fun b _ x=>S1 b x⟩
   |view ds=>exact q2
   |tmp d=>exact q2
def frz(i:Nat)(γ:Γ):Γ:=match γ[i]? with
 |some (some (.own o))=>γ.set i (some (.sh o.d))
 |_=>γ
def EnvR.frz (E:EnvR K H0 B H σ γ) (hB:∀b,B b->∃o,H0 b=some o) (i:Nat):EnvR K H0 B H σ (frz i γ)/\Fr B H σ γ H σ (Pu.frz i γ):=by
 unfold Pu.frz;split
 ·rename_i ds hi;have hlt:i<γ.length:=(YQ.mp hi).1
  have hz:∀b,zof B (γ.set i (some (.sh ds.d))) σ b->zof B γ σ b:=fun b z=>z.imp id fun⟨j,es,a,h1,h2,h3⟩=>by
   rcases UE h1 with⟨_,e,_⟩|⟨_,e⟩
   ·cases e
   ·exact⟨j,es,a,e,h2,h3⟩
  have S1:Same (Pu.off (zof B γ σ) H) (Pu.off (zof B (γ.set i (some (.sh ds.d))) σ) H):=Uo (Same.refl _) fun b _ _ z y=>z (hz b y);refine⟨⟨E.same,by rw[Wy];exact E.len,E.bm,fun k j a a' es es' b h1 h2=>?_,fun k s h=>?_⟩,fun b o h z=>⟨h,fun y=>z (hz b y)⟩⟩
  ·rcases UE h1 with⟨_,e,_⟩|⟨_,e1⟩
   ·cases e
   ·rcases UE h2 with⟨_,e,_⟩|⟨_,e2⟩
    ·cases e
    ·exact E.own k j a a' es es' b e1 e2
  ·rcases UE h with⟨ek,e,_⟩|⟨nk,e⟩
   ·subst ek
    have:=Y7 e
    subst this;obtain⟨v,h1,a,rfl,h3,h4⟩:=E.slot k _ hi;refine⟨_,h1,h4.rpIn S1 fun b hb x h2=>UQ h2 fun z=>?_⟩;rcases z with z|⟨j,es,a',e1,e2,e3⟩
    ·obtain⟨o,ho⟩:=hB b z;rw[h3 b hb]at ho;cases ho
    ·rcases UE e1 with⟨_,q,_⟩|⟨nj,q⟩
     ·cases q
     ·exact nj (E.own j k a' a es ds b q hi e2 h1 e3 hb)
   ·obtain⟨v,h1,h2⟩:=E.slot k s e;refine⟨v,h1,?_⟩;cases s with
    |bor d=>exact h2
    |sh d=>exact Rp.mono S1 h2
    |own ds=>
     obtain⟨a,e1,e3,e4⟩:=h2;exact⟨a,e1,e3,e4.mono S1 fun _ _ _ q=>q⟩
    |view ds=>exact h2
    |tmp d=>exact h2
 ·exact⟨E,Fr.refl⟩
def EnvR.change {i:Nat}{a:Addr}{o o':O} (E:EnvR K H0 B H σ γ) (hi:γ[i]?=some (some (.own o))) (ha:σ[i]?=some (some (.ref a)))
  (hH:∀b x,H b=some x->¬o.adr a b->H' b=some x) (hm:∀b,o.adr a b->Mut (H' b)) (hadr:∀b,o'.adr a b->o.adr a b\/H b=none) (r:OR K (Pu.off (zof B (γ.set i (some (.own o'))) σ) H') H' a o') :
  EnvR K H0 B H' σ (γ.set i (some (.own o')))/\Fr B H σ γ H' σ (γ.set i (some (.own o'))):=by
 have hlt:i<γ.length:=(YQ.mp hi).1;obtain⟨v,h1,a',rfl,h3,h4⟩:=E.slot i _ hi;rw[ha]at h1;cases h1
 have za:∀b,o.adr a b->zof B γ σ b:=fun b hb=>.inr ⟨i,o,a,hi,ha,hb⟩
 have hz:∀b x,H b=some x->zof B (γ.set i (some (.own o'))) σ b->zof B γ σ b:=fun b x hx z=>by
  rcases z with z|⟨j,fs,a',e1,e2,e3⟩
  ·exact .inl z
  ·rcases UE e1 with⟨ej,q,_⟩|⟨_,e⟩
   ·subst ej;cases q
    rw[ha]at e2;cases e2
    rcases hadr b e3 with k|k
    ·exact za b k
    ·rw[k]at hx;cases hx
   ·exact .inr ⟨j,fs,a',e,e2,e3⟩
 have S1:Same (Pu.off (zof B γ σ) H) (Pu.off (zof B (γ.set i (some (.own o'))) σ) H'):=fun b x h=>by
  obtain⟨q1,q2⟩:=Ki h;exact UQ (hH b x q1 fun k=>q2 (za b k)) fun z=>q2 (hz b x q1 z)
 have old:∀(k:Nat) (ds:O) (a b:Addr),γ[k]?=some (some (.own ds))->σ[k]?=some (some (.ref a))->ds.adr a b->∃o,H b=some o:=fun k ds a b e1 e2 e3=>by
  obtain⟨u,q1,a',q2,_,q3⟩:=E.slot k _ e1;rw[e2]at q1;cases q1
  cases q2
  exact KF (q3.mut b e3)
 refine⟨⟨fun b x h=>?_,by rw[Wy];exact E.len,fun b hb=>?_,fun k j x x' fs fs' b e1 e2 e3 e4 e5 e6=>?_,fun k s h=>?_⟩,fun b x h z=>⟨?_,fun y=>z (hz b x h y)⟩⟩
 ·exact hH b x (E.same b x h) fun k=>by rw[h3 b k]at h;cases h
 ·by_cases k:o.adr a b
  ·exact hm b k
  ·have:=E.bm b hb
   obtain⟨x,hx⟩:=KF this;rw[hH b x hx k,←hx];exact this
 ·rcases UE e1 with⟨ek,q1,_⟩|⟨nk,q1⟩
  ·rcases UE e2 with⟨ej,_,_⟩|⟨nj,q2⟩
   ·rw[ek,ej]
   ·subst ek;cases q1
    rw[ha]at e3;cases e3
    rcases hadr b e5 with w|w
    ·exact E.own k j _ _ _ _ b hi q2 ha e4 w e6
    ·obtain⟨u,hu⟩:=old j fs' x' b q2 e4 e6;rw[w]at hu;cases hu
  ·rcases UE e2 with⟨ej,q2,_⟩|⟨nj,q2⟩
   ·subst ej;cases q2
    rw[ha]at e4;cases e4
    rcases hadr b e6 with w|w
    ·exact E.own k j _ _ _ _ b q1 hi e3 ha e5 w
    ·obtain⟨u,hu⟩:=old k fs x b q1 e3 e5;rw[w]at hu;cases hu
   ·exact E.own k j x x' fs fs' b q1 q2 e3 e4 e5 e6
 ·rcases UE h with⟨ek,e,_⟩|⟨nk,e⟩
  ·subst ek
   have:=Y7 e
   subst this;exact⟨_,ha,a,rfl,fun b hb=>(hadr b hb).elim (h3 b) fun w=>E.same.free w,r⟩
  ·obtain⟨v,q1,q2⟩:=E.slot k s e;refine⟨v,q1,?_⟩;cases s with
   |bor d=>exact q2
   |sh d=>exact Rp.mono S1 q2
   |own fs=>
    obtain⟨x,rfl,e3,e4⟩:=q2;exact⟨x,rfl,e3,e4.mono S1 fun b hb y e2=>hH b y e2 fun w=>nk (E.own k i x a fs o b e hi q1 ha hb w)⟩
   |view ds=>exact q2
   |tmp d=>exact q2
 ·exact hH b x h fun k=>z (za b k)
def EnvR.mutate {i:Nat}{a:Addr}{ds es:O}{us:HO} (E:EnvR K H0 B H σ γ) (hi:γ[i]?=some (some (.own ds))) (ha:σ[i]?=some (some (.ref a))) (hu:Mut (some us)) (r:∀F H':Hp,Same (Pu.off (zof B γ σ) H) F->H' a=some us->OR K F H' a es)
  (k1:ds.adr a=fun b=>b=a:=by rfl) (k2:es.adr a=fun b=>b=a:=by rfl) :
  EnvR K H0 B (upd H a us) σ (γ.set i (some (.own es)))/\Fr B H σ γ (upd H a us) σ (γ.set i (some (.own es))):=by
 refine E.change (o:=ds) (o':=es) hi ha (fun b x h n=>by rw[Uv (fun z=>n (by rw[k1];exact z))];exact h) (fun b h=>by rw[k1]at h;rw[show b=a from h,UJ];exact hu) (fun b h=>.inl (by rw[k1];rw[k2]at h;exact h)) (r _ _ ?_ UJ)
 intro b x h;obtain⟨q1,q2⟩:=Ki h;have nb:b≠a:=fun z=>q2 (.inr ⟨i,ds,a,hi,ha,by rw[k1];exact z⟩);refine UQ (by rw[Uv nb];exact q1) fun z=>q2 ?_;rcases z with z|⟨j,fs,a',e1,e2,e3⟩
 ·exact .inl z
 ·rcases UE e1 with⟨ej,q,_⟩|⟨_,e⟩
  ·subst ej;cases q
   rw[ha]at e2;cases e2
   rw[k2]at e3;exact absurd e3 nb
  ·exact .inr ⟨j,fs,a',e,e2,e3⟩
end
end Pu
namespace Pu
open PySem PySem.Spec PyProof.Rows L2 Own
abbrev XR:=Str->Prop
abbrev PTE:=Γ->(S->Prop)->XR->Prop
abbrev PTT:=Γ->(Bool->Prop)->XR->Prop
abbrev PTA:=Γ->(List S->Prop)->XR->Prop
abbrev PTO:=Γ->(Option Int->Prop)->XR->Prop
structure PEnds where
 nx:Γ->Prop
 rt:S->Prop
 ex:Γ->Str->Prop
 bk:Γ->Prop:=fun _=>False
 ct:Γ->Prop:=fun _=>False
 rv:Γ->D->Prop:=fun _ _=>False
abbrev PTS:=PEnds->Γ->Prop
abbrev PTG:=S->Γ->(Γ->Prop)->Prop
abbrev PTGs:=List S->Γ->(Γ->Prop)->Prop
inductive TVs (K:Za) (Z:Addr->Prop) (H0 H H':Hp):List S->List V->Prop
 |nil:TVs K Z H0 H H' [] []
 |cons {s:S} {v:V} {ss:List S} {vs:List V}:TV K Z H0 H H' s v->TVs K Z H0 H H' ss vs->TVs K Z H0 H H' (s::ss) (v::vs)
section
variable (K:Za) (mg:Str->Option Value) (E:L2.St->XK)
def SndE(t:TE)(p:PTE):Prop:=∀(H0:Hp) (B:Addr->Prop) (H:Hp) (σ:L2.St) (γ:Γ) (R:S->Prop) (X:XR) (Q:VK),EnvR K H0 B H σ γ->p γ R X->
 (∀s v H',R s->Same H H'->TV K (zof B γ σ) H0 H H' s v->Q v H')->(∀c H',X c->Same H H'->E σ (.ref (ExcR.JU mg c)) none H')->t σ H Q
def SndT(t:TT)(p:PTT):Prop:=∀(H0:Hp) (B:Addr->Prop) (H:Hp) (σ:L2.St) (γ:Γ) (R:Bool->Prop) (X:XR) (Q:Bool->Hp->Prop),EnvR K H0 B H σ γ->p γ R X->
 (∀b H',R b->Same H H'->Q b H')->(∀c H',X c->Same H H'->E σ (.ref (ExcR.JU mg c)) none H')->t σ H Q
def SndA(t:TA)(p:PTA):Prop:=∀(H0:Hp) (B:Addr->Prop) (H:Hp) (σ:L2.St) (γ:Γ) (R:List S->Prop) (X:XR) (Q:List V->Hp->Prop),EnvR K H0 B H σ γ->p γ R X->
 (∀ss vs H',R ss->Same H H'->TVs K (zof B γ σ) H0 H H' ss vs->Q vs H')->(∀c H',X c->Same H H'->E σ (.ref (ExcR.JU mg c)) none H')->t σ H Q
def SndO(t:TO)(p:PTO):Prop:=∀(H0:Hp) (B:Addr->Prop) (H:Hp) (σ:L2.St) (γ:Γ) (R:Option Int->Prop) (X:XR) (Q:Option Int->Hp->Prop),EnvR K H0 B H σ γ->p γ R X->
 (∀o H',R o->Same H H'->Q o H')->(∀c H',X c->Same H H'->E σ (.ref (ExcR.JU mg c)) none H')->t σ H Q
structure EndR (H0:Hp) (B:Addr->Prop) (H:Hp) (σ:L2.St) (γ:Γ) (R:PEnds) (D:Ends):Prop where
 nx:∀σ' γ' H',R.nx γ'->EnvR K H0 B H' σ' γ'->Fr B H σ γ H' σ' γ'->D.nx σ' H'
 rt:∀s v H',R.rt s->Same H0 H'->TV K B H0 H0 H' s v->D.rt v H'
 ex:∀σ' γ' c H',R.ex γ' c->EnvR K H0 B H' σ' γ'->Fr B H σ γ H' σ' γ'->E σ' (.ref (ExcR.JU mg c)) none H'
 bk:∀σ' γ' H',R.bk γ'->EnvR K H0 B H' σ' γ'->Fr B H σ γ H' σ' γ'->D.bk σ' H'
 ct:∀σ' γ' H',R.ct γ'->EnvR K H0 B H' σ' γ'->Fr B H σ γ H' σ' γ'->D.ct σ' H'
 rv:∀σ' γ' d v H',R.rv γ' d->EnvR K H0 B H' σ' γ'->Fr B H σ γ H' σ' γ'->Rp K (off (zof B γ' σ') H') d v->D.rt v H'
def SndS(t:TS)(p:PTS):Prop:=∀(H0:Hp) (B:Addr->Prop) (H:Hp) (σ:L2.St) (γ:Γ) (R:PEnds) (D:Ends),(∀b,B b->∃o,H0 b=some o)->EnvR K H0 B H σ γ->p R γ->EndR K mg E H0 B H σ γ R D->t D σ H
end
section
variable {K:Za}{mg:Str->Option Value}{E:L2.St->XK}{H0 H H1 H':Hp}{B Z Z':Addr->Prop}{σ:L2.St}{γ:Γ}
def TVs.weakG {H1 H2:Hp}:∀{ss:List S}{vs:List V},Same H H1->TVs K Z H0 H1 H2 ss vs->TVs K Z H0 H H2 ss vs
 |_,_,_,.nil=>.nil
 |_,_,S1,.cons h r=>.cons (TV.weak S1 (fun _ z=>z) h) (TVs.weakG S1 r)
def TVs.rps (h0:Same H0 H'):∀{ss:List S}{vs:List V},TVs K Z H0 H H' ss vs->Rps K H' (ss.map S.d) vs
 |_,_,.nil=>.nil
 |_,_,.cons h r=>.cons (h.rp h0) (TVs.rps h0 r)
def TVs.shd {ds:List D} (h0:Same H0 H') (hm:∀b,Z b->Mut (H b)) (S1:Same H H'):∀{ss:List S}{vs:List V}{ds:List D},TVs K Z H0 H H' ss vs->ss.map S.shd=ds.map some->Rps K (off Z H') ds vs
 |_,_,[],.nil,_=>.nil
 |_,_,_::_,.nil,e=>by cases e
 |_,_,[],.cons _ _,e=>by cases e
 |_,_,d::ds,.cons h r,e=>by
  rw[YC,YC,WR]at e;exact .cons (h.shd h0 hm S1 e.1) (TVs.shd (ds:=ds) h0 hm S1 r e.2)
def Rp.int_inv {i:Int}{v:V} (h:Rp K H (.int i) v):v=.int i:=by cases h;rfl
def Rp.bl_inv {b:Bool}{v:V} (h:Rp K H (.bl b) v):v=.bl b:=by cases h;rfl
def Rp.str_inv {x:Str}{v:V} (h:Rp K H (.str x) v):v=.str x:=by cases h;rfl
def Rp.non_inv {v:V} (h:Rp K H .non v):v=.non:=by cases h;rfl
def Rp.ty_inv {n:String}{v:V} (h:Rp K H (.ty n) v):v=.ty n:=by cases h;rfl
def pVar(i:Nat):PTE:=fun γ R _=>match γ[i]? with
 |some (some (.own ds))=>R (.view ds)
 |some (some s)=>R s
 |_=>False
def JK(i:Nat):SndE K mg E (tVar i) (pVar i):=by
 intro H0 B H σ γ R X Q env h q _;unfold pVar at h;split at h
 ·rename_i ds e;obtain⟨v,h1,a,rfl,h3,h4⟩:=env.slot i _ e;exact⟨_,h1,q _ _ H h (Same.refl _) ⟨a,rfl,h4⟩⟩
 ·rename_i s ns e;obtain⟨v,h1,h2⟩:=env.slot i _ e;refine⟨v,h1,q _ _ H h (Same.refl _) ?_⟩;cases s with
  |bor d=>exact h2
  |sh d=>exact h2
  |own ds=>exact absurd rfl (ns ds)
  |view ds=>exact h2.elim
  |tmp d=>exact h2.elim
 ·exact h.elim
def pC(d:D):PTE:=fun _ R _=>R (.sh d)
def se_c{d:D}{v:V}(h:∀H,Rp K H d v):SndE K mg E (tC v) (pC d):=by
 intro H0 B H σ γ R X Q env p q _;exact q _ _ H p (Same.refl _) (h _)
def JL{i:Int}:SndE K mg E (tC (.int i)) (pC (.int i)):=se_c fun _=>.int i
def UF{b:Bool}:SndE K mg E (tC (.bl b)) (pC (.bl b)):=se_c fun _=>.bl b
def A2:SndE K mg E (tC .non) (pC .non):=se_c fun _=>.non
def U7{x:Str}:SndE K mg E (tC (.str x)) (pC (.str x)):=se_c fun _=>.str x
def KM{n:String}:SndE K mg E (tC (.ty n)) (pC (.ty n)):=se_c fun _=>.ty n
def p2(a b:PTE)(f:S->S->(S->Prop)->Prop):PTE:=fun γ R X=>a γ (fun x=>b γ (fun y=>f x y R) X) X
def se_2{r:R2}{ta tb:TE}{a b:PTE}{f:S->S->(S->Prop)->Prop}(ha:SndE K mg E ta a)(hb:SndE K mg E tb b)(hr:∀(H0 H H2:Hp) (Z:Addr->Prop) (x y:S) (v u:V) (R:S->Prop) (Q:VK),Same H0 H2->Same H H2->(∀b,Z b->Mut (H b))->TV K Z H0 H H2 x v->TV K Z H0 H H2 y u->f x y R->(∀s z H',R s->Same H2 H'->TV K Z H0 H H' s z->Q z H')->r v u H2 Q) :
  SndE K mg E (tOp r ta tb) (p2 a b f):=by
 intro H0 B H σ γ R X Q env p q qx;refine ha H0 B H σ γ _ X _ env p (fun x v H1 h1 S1 t1=>?_) qx;have env1:=env.grow S1;refine hb H0 B H1 σ γ _ X _ env1 h1 (fun y u H2 h2 S2 t2=>?_) fun c H' hc S'=>qx c H' hc (S1.trans S');exact hr H0 H H2 _ x y v u R Q (env1.same.trans S2) (S1.trans S2) env.zm (t1.grow S2) (TV.weak S1 (fun _ z=>z) t2) h2 fun s z H' hs S3 t3=>q s z H' hs ((S1.trans S2).trans S3) t3
def fI0(g:Int->Int->D):S->S->(S->Prop)->Prop:=fun x y R=>match x.d,y.d with
 | .int i,.int j=>R (.sh (g i j))
 |_,_=>False
def fI(C:Int->Int->Prop)(g:Int->Int->D):S->S->(S->Prop)->Prop:=fun x y R=>match x.d,y.d with
 | .int i,.int j=>C i j/\R (.sh (g i j))
 |_,_=>False
def Tz{g:Int->Int->V}{g':Int->Int->D}{ta tb:TE}{a b:PTE}(hg:∀H i j,Rp K H (g' i j) (g i j))(ha:SndE K mg E ta a)(hb:SndE K mg E tb b):SndE K mg E (tOp (rI0 g) ta tb) (p2 a b (fI0 g')):=by
 refine se_2 ha hb fun H0 H H2 Z x y v u R Q s0 s1 hm tx ty h q=>?_;unfold fI0 at h;have rx:=tx.rp s0;have ry:=ty.rp s0;split at h
 ·rename_i i j e1 e2;rw[e1]at rx;rw[e2]at ry;exact⟨i,j,rx.int_inv,ry.int_inv,q _ _ H2 h (Same.refl _) (hg _ i j)⟩
 ·exact h.elim
def se_I{C:Int->Int->Prop}{g:Int->Int->V}{g':Int->Int->D}{ta tb:TE}{a b:PTE}(hg:∀H i j,Rp K H (g' i j) (g i j))(ha:SndE K mg E ta a)(hb:SndE K mg E tb b):SndE K mg E (tOp (rI C g) ta tb) (p2 a b (fI C g')):=by
 refine se_2 ha hb fun H0 H H2 Z x y v u R Q s0 s1 hm tx ty h q=>?_;unfold fI at h;have rx:=tx.rp s0;have ry:=ty.rp s0;split at h
 ·rename_i i j e1 e2;rw[e1]at rx;rw[e2]at ry;exact⟨i,j,rx.int_inv,ry.int_inv,h.1,q _ _ H2 h.2 (Same.refl _) (hg _ i j)⟩
 ·exact h.elim
section
variable {ta tb tc:TE}{a b c:PTE}
def Ut(ha:SndE K mg E ta a)(hb:SndE K mg E tb b):SndE K mg E (tOp (rI0 fun i j=>.int (i+j)) ta tb) (p2 a b (fI0 fun i j=>.int (i+j))):=Tz (fun _ _ _=>.int _) ha hb
def U5(ha:SndE K mg E ta a)(hb:SndE K mg E tb b):SndE K mg E (tOp (rI0 fun i j=>.int (i-j)) ta tb) (p2 a b (fI0 fun i j=>.int (i-j))):=Tz (fun _ _ _=>.int _) ha hb
def KU(ha:SndE K mg E ta a)(hb:SndE K mg E tb b):SndE K mg E (tOp (rI CMul fun i j=>.int (i*j)) ta tb) (p2 a b (fI CMul fun i j=>.int (i*j))):=se_I (fun _ _ _=>.int _) ha hb
def Xb(ha:SndE K mg E ta a)(hb:SndE K mg E tb b):SndE K mg E (tOp (rI CDiv fun i j=>.int (i / j)) ta tb) (p2 a b (fI CDiv fun i j=>.int (i / j))):=se_I (fun _ _ _=>.int _) ha hb
def Ux(ha:SndE K mg E ta a)(hb:SndE K mg E tb b):SndE K mg E (tOp (rI (fun _ j=>0<j) fun i j=>.int (i % j)) ta tb) (p2 a b (fI (fun _ j=>0<j) fun i j=>.int (i % j))):=se_I (fun _ _ _=>.int _) ha hb
def FK(ha:SndE K mg E ta a)(hb:SndE K mg E tb b):SndE K mg E (tOp (rI CPow fun i j=>.int (i ^ j.toNat)) ta tb) (p2 a b (fI CPow fun i j=>.int (i ^ j.toNat))):=se_I (fun _ _ _=>.int _) ha hb
def X8(ha:SndE K mg E ta a)(hb:SndE K mg E tb b):SndE K mg E (tOp (rI0 fun i j=>.bl (decide (i<j))) ta tb) (p2 a b (fI0 fun i j=>.bl (decide (i<j)))):=Tz (fun _ _ _=>.bl _) ha hb
def Ze9(ha:SndE K mg E ta a)(hb:SndE K mg E tb b):SndE K mg E (tOp (rI0 fun i j=>.bl (decide (i<=j))) ta tb) (p2 a b (fI0 fun i j=>.bl (decide (i<=j)))):=Tz (fun _ _ _=>.bl _) ha hb
def Xq(ha:SndE K mg E ta a)(hb:SndE K mg E tb b):SndE K mg E (tOp (rI0 fun i j=>.bl (decide (j<i))) ta tb) (p2 a b (fI0 fun i j=>.bl (decide (j<i)))):=Tz (fun _ _ _=>.bl _) ha hb
def PJ(ha:SndE K mg E ta a)(hb:SndE K mg E tb b):SndE K mg E (tOp (rI0 fun i j=>.bl (decide (j<=i))) ta tb) (p2 a b (fI0 fun i j=>.bl (decide (j<=i)))):=Tz (fun _ _ _=>.bl _) ha hb
def fEq(neg:Bool):S->S->(S->Prop)->Prop:=fun x y R=>match x.d,y.d with
 | .int i,.int j=>R (.sh (.bl (if neg then !decide (i=j)else decide (i=j))))
 | .str i,.str j=>R (.sh (.bl (if neg then !decide (i=j)else decide (i=j))))
 | .bl i,.bl j=>R (.sh (.bl (if neg then !decide (i=j)else decide (i=j))))
 |_,_=>False
def PX{α β:Type}[DecidableEq α][DecidableEq β]{f:α->β}(hf:∀a b,f a=f b->a=b)(a b:α):decide (f a=f b)=decide (a=b):=by
 by_cases e:a=b
 ·rw[Yy e,Yy (Wj f e)]
 ·rw[YH e,YH fun z=>e (hf a b z)]
def fIx:S->S->(S->Prop)->Prop:=fun x y R=>match x.d,y.d with
 | .lst ds,.int k=>∃d,atI ds k=some d/\R (x.sub d)
 | .tup ds,.int k=>∃d,atI ds k=some d/\R (x.sub d)
 | .scr ns,.int k=>∃i,atI ns k=some i/\R (.sh (.int i))
 |_,_=>False
def Dr{ds:List D}{vs:List V}{k:Int}{d:D}{P:D->V->Prop}(hl:vs.length=ds.length)(h:∀(i:Nat) d,ds[i]?=some d->∃u,vs[i]?=some u/\P d u)(e:atI ds k=some d):∃u,atI vs k=some u/\P d u:=by
 unfold atI at e ⊢;rw[hl];cases q:ixN ds.length k with
 |none=>rw[q]at e;cases e
 |some j=>
  rw[q]at e;exact h j d e
def JP(ha:SndE K mg E ta a)(hb:SndE K mg E tb b):SndE K mg E (tOp (fun x y H Q=>rIxL K x y H Q\/rIxT K x y H Q) ta tb) (p2 a b fIx):=by
 refine se_2 ha hb fun H0 H H2 Z x y v u R Q s0 s1 hm tx ty h q=>?_;unfold fIx at h;have ry:=ty.rp s0;obtain⟨pl,pt⟩:=tx.part s0 hm s1;split at h
 ·rename_i ds k e1 e2;rw[e2]at ry;obtain⟨d,hd,hR⟩:=h;obtain⟨l,vs,rfl,hl,hn,hp⟩:=pl ds e1;obtain⟨z,hz,tz⟩:=Dr hn hp hd;exact .inl ⟨l,vs,k,z,rfl,ry.int_inv,SqL.of hl,hz,q _ _ H2 hR (Same.refl _) tz⟩
 ·rename_i ds k e1 e2;rw[e2]at ry;obtain⟨d,hd,hR⟩:=h;obtain⟨l,vs,rfl,hl,hn,hp⟩:=pt ds e1;obtain⟨z,hz,tz⟩:=Dr hn hp hd;exact .inr ⟨l,vs,k,z,rfl,ry.int_inv,SqT.of hl,hz,q _ _ H2 hR (Same.refl _) tz⟩
 ·rename_i ns k e1 e2;rw[e2]at ry;obtain⟨i,hi,hR⟩:=h;have rx:=tx.rp s0;rw[e1]at rx;cases rx with
  |scr hs=>exact .inl ⟨_,_,k,.int i,rfl,ry.int_inv,hs,K6 hi,q _ _ H2 hR (Same.refl _) (.int i)⟩
 ·exact h.elim
def Zev(a b:PTE):PTE:=fun γ R X=>a γ (fun x=>match x.d with | .bl c=>if c=true then b γ R X else R (.sh (.bl false))|_=>False) X
def Lj(a:PTE):PTE:=fun γ R X=>a γ (fun x=>match x.d with | .bl c=>R (.sh (.bl (!c)))|_=>False) X
def Np(ha:SndE K mg E ta a)(hb:SndE K mg E tb b):SndE K mg E (IA ta tb) (Zev a b):=by
 intro H0 B H σ γ R X Q env p q qx;refine ha H0 B H σ γ _ X _ env p (fun x v H1 h1 S1 t1=>?_) qx;have env1:=env.grow S1;have rx:=t1.rp env1.same;split at h1
 ·rename_i c e1;rw[e1]at rx;refine⟨c,rx.bl_inv,?_⟩;split at h1
  ·rename_i hc;rw[Yz hc];exact hb H0 B H1 σ γ _ X _ env1 h1 (fun y u H2 h2 S2 t2=>q y u H2 h2 (S1.trans S2) (TV.weak S1 (fun _ z=>z) t2)) fun c H' hc S'=>qx c H' hc (S1.trans S')
  ·rename_i hc;rw[Yx hc];exact q _ _ H1 h1 S1 (.bl _)
 ·exact h1.elim
def Fj(ha:SndE K mg E ta a):SndE K mg E (Gk ta) (Lj a):=by
 intro H0 B H σ γ R X Q env p q qx;refine ha H0 B H σ γ _ X _ env p (fun x v H1 h1 S1 t1=>?_) qx;have rx:=t1.rp (env.grow S1).same;split at h1
 ·rename_i c e1;rw[e1]at rx;exact⟨c,rx.bl_inv,q _ _ H1 h1 S1 (.bl _)⟩
 ·exact h1.elim
def pNeg(a:PTE):PTE:=fun γ R X=>a γ (fun x=>match x.d with | .int i=>R (.sh (.int (-i)))|_=>False) X
def Xw(ha:SndE K mg E ta a):SndE K mg E (tUn (rU fun i=>.int (-i)) ta) (pNeg a):=by
 intro H0 B H σ γ R X Q env p q qx;refine ha H0 B H σ γ _ X _ env p (fun x v H1 h1 S1 t1=>?_) qx;have rx:=t1.rp (env.grow S1).same;split at h1
 ·rename_i c e1;rw[e1]at rx;exact⟨c,rx.int_inv,q _ _ H1 h1 S1 (.int _)⟩
 ·exact h1.elim
def EC(a:PTE):PTT:=fun γ R X=>a γ (fun x=>match x.d with | .bl c=>R c|_=>False) X
def JX(ha:SndE K mg E ta a):SndT K mg E (Sw ta) (EC a):=by
 intro H0 B H σ γ R X Q env p q qx;refine ha H0 B H σ γ _ X _ env p (fun x v H1 h1 S1 t1=>?_) qx;have rx:=t1.rp (env.grow S1).same;split at h1
 ·rename_i c e1;rw[e1]at rx;exact⟨c,rx.bl_inv,q _ H1 h1 S1⟩
 ·exact h1.elim
def st_b(ha:SndE K mg E ta a):SndT K mg E (tB ta) (EC a):=JX ha
variable {sa sb:TT}{pa pb:PTT}
def pAnd(a b:PTT):PTT:=fun γ R X=>a γ (fun c=>if c=true then b γ R X else R false) X
def pOr(a b:PTT):PTT:=fun γ R X=>a γ (fun c=>if c=true then R true else b γ R X) X
def pNot(a:PTT):PTT:=fun γ R X=>a γ (fun c=>R (!c)) X
def P6(ha:SndT K mg E sa pa)(hb:SndT K mg E sb pb):SndT K mg E (tAnd sa sb) (pAnd pa pb):=by
 intro H0 B H σ γ R X Q env p q qx;refine ha H0 B H σ γ _ X _ env p (fun c H1 h1 S1=>?_) qx;split at h1
 ·rename_i hc;rw[Yz hc];exact hb H0 B H1 σ γ _ X _ (env.grow S1) h1 (fun y H2 h2 S2=>q y H2 h2 (S1.trans S2)) fun c H' hc S'=>qx c H' hc (S1.trans S')
 ·rename_i hc;rw[Yx hc];exact q _ H1 h1 S1
def UP(ha:SndT K mg E sa pa)(hb:SndT K mg E sb pb):SndT K mg E (tOr sa sb) (pOr pa pb):=by
 intro H0 B H σ γ R X Q env p q qx;refine ha H0 B H σ γ _ X _ env p (fun c H1 h1 S1=>?_) qx;split at h1
 ·rename_i hc;rw[Yz hc];exact q _ H1 h1 S1
 ·rename_i hc;rw[Yx hc];exact hb H0 B H1 σ γ _ X _ (env.grow S1) h1 (fun y H2 h2 S2=>q y H2 h2 (S1.trans S2)) fun c H' hc S'=>qx c H' hc (S1.trans S')
def Xr(ha:SndT K mg E sa pa):SndT K mg E (tNot sa) (pNot pa):=by
 intro H0 B H σ γ R X Q env p q qx;exact ha H0 B H σ γ _ X _ env p (fun c H1 h1 S1=>q _ H1 h1 S1) qx
end
def pNil:PTA:=fun _ R _=>R []
def P4(a:PTE)(r:PTA):PTA:=fun γ R X=>a γ (fun s=>r γ (fun ss=>R (s::ss)) X) X
def Um:SndA K mg E tNil pNil:=by
 intro H0 B H σ γ R X Q env p q _;exact q _ _ H p (Same.refl _) .nil
def Uh{te:TE}{ta:TA}{a:PTE}{r:PTA}(ha:SndE K mg E te a)(hr:SndA K mg E ta r):SndA K mg E (Xc te ta) (P4 a r):=by
 intro H0 B H σ γ R X Q env p q qx;refine ha H0 B H σ γ _ X _ env p (fun s v H1 h1 S1 t1=>?_) qx;refine hr H0 B H1 σ γ _ X _ (env.grow S1) h1 (fun ss vs H2 h2 S2 t2=>?_) fun c H' hc S'=>qx c H' hc (S1.trans S');exact q _ _ H2 h2 (S1.trans S2) (.cons (t1.grow S2) (TVs.weakG S1 t2))
def shds:List S->Option (List D)
 |[]=>some []
 |s::r=>match s.shd,shds r with
  |some d,some ds=>some (d::ds)
  |_,_=>none
def FA:∀{ss:List S}{ds:List D},shds ss=some ds->ss.map S.shd=ds.map some
 |[],ds,h=>by cases h;rfl
 |s::r,ds,h=>by
  unfold shds at h;split at h
  ·rename_i d es e1 e2;cases h
   rw[YC,YC,e1,FA e2]
  ·cases h
def pTup(r:PTA):PTE:=fun γ R X=>r γ (fun ss=>match shds ss with|some ds=>ds.length<=1000/\R (.sh (.tup ds))|none=>False) X
def pLst(r:PTA):PTE:=fun γ R X=>r γ (fun ss=>match shds ss with|some ds=>ds.length<=1000/\R (.own ds)|none=>False) X
def BG{n:Nat}(h:n<=1000):n<=sizeLine:=QD (RC h)
def Us{ta:TA}{r:PTA}(hr:SndA K mg E ta r):SndE K mg E (tTup ta) (pTup r):=by
 intro H0 B H σ γ R X Q env p q qx;refine hr H0 B H σ γ _ X _ env p (fun ss vs H1 h1 S1 t1=>?_) qx;split at h1
 ·rename_i ds e;have env1:=env.grow S1;have rp:=t1.shd (ds:=ds) env1.same env.zm S1 (FA e);refine⟨by rw[rp.len];exact BG h1.1,fun l nl=>?_⟩;have S2:=Xe (o:=.tup vs) nl;refine q _ _ _ h1.2 (S1.trans S2) (.tup (UQ UJ fun z=>?_) (Rps.mono (Uo S2 fun _ _ _ z=>z) rp))
  have:=env1.zm l z
  rw[nl]at this;exact this
 ·exact h1.elim
def KR{H H1:Hp}{l:Addr}{vs:List V}{ds:List D}(S1:Same H H1)(nl:H1 l=none)(rp:Rps K (off Z H1) ds vs):TV K Z H0 H (upd H1 l (.lst vs)) (.own ds) (.ref l):=
 ⟨l,rfl,(fun _ e=>e▸S1.free nl),vs,UJ,Rps.mono (Uo (Xe nl) fun b o hb z y=>y.elim z fun e=>by rw[e,nl]at hb;cases hb) rp⟩
def Ui{ta:TA}{r:PTA}(hr:SndA K mg E ta r):SndE K mg E (tLst ta) (pLst r):=by
 intro H0 B H σ γ R X Q env p q qx;refine hr H0 B H σ γ _ X _ env p (fun ss vs H1 h1 S1 t1=>?_) qx;split at h1
 ·rename_i ds e;have env1:=env.grow S1;have rp:=t1.shd (ds:=ds) env1.same env.zm S1 (FA e);refine⟨by rw[rp.len];exact BG h1.1,fun l nl=>?_⟩;exact q _ _ _ h1.2 (S1.trans (Xe nl)) (KR S1 nl rp)
 ·exact h1.elim
abbrev Pc:=List D->(S->Prop)->XR->Prop
def spOf(mg:Str->Option Value)(c:Pc)(K:Za):Sp:=fun vs H Q E=>∃ds R X,Rps K H ds vs/\c ds R X/\(∀s v H',R s->Same H H'->TV K (fun b=>Mut (H b)) H H H' s v->Q v H')/\∀e H',X e->Same H H'->E (.ref (ExcR.JU mg e)) none H'
def S.back:S->S
 | .bor d=>argT d | .view o=>.tmp o.d|s=>s
def TV.back {s:S}{v:V} (env:EnvR K H0 B H1 σ γ) (S1:Same H H1) (S2:Same H1 H') (h:TV K (fun b=>Mut (H1 b)) H1 H1 H' s v):TV K (zof B γ σ) H0 H H' s.back v:=by
 cases s with
 |bor d=>exact Pm (fun b z=>Ko S2 (env.zm b z)) (Rp.mono S2 h)
 |sh d=>exact Rp.mono (Uo (Same.refl _) fun b _ _ z y=>z (env.zm b y)) h
 |own ds=>
  obtain⟨a,rfl,e0,r⟩:=h;exact⟨a,rfl,(fun b hb=>S1.free (e0 b hb)),r.mono (Uo (Same.refl _) fun b _ _ z y=>z (y.imp (env.zm b) id)) fun _ _ _ q=>q⟩
 |view ds=>
  obtain⟨a,rfl,r⟩:=h;exact r.rp off_sub
 |tmp d=>exact h
def Zfu(c:Pc)(r:PTA):PTE:=fun γ R X=>r γ (fun ss=>c (ss.map S.d) (fun s=>R s.back) fun _=>False) X
def R3(c:Pc)(r:PTA):PTE:=fun γ R X=>r γ (fun ss=>c (ss.map S.d) (fun s=>R s.back) X) X
def JZ{c:Pc}{ta:TA}{r:PTA}(hr:SndA K mg E ta r):SndE K mg E (Ph (spOf mg c K) [] E0 ta) (Zfu c r):=by
 intro H0 B H σ γ R X Q env p q qx;refine hr H0 B H σ γ _ X _ env p (fun ss vs H1 h1 S1 t1=>?_) qx;rw[Wl];have env1:=env.grow S1;exact⟨_,_,_,t1.rps env1.same,h1,fun s v H' hs S2 tv=>q _ _ H' hs (S1.trans S2) (tv.back env1 S1 S2),fun _ _ z=>z.elim⟩
def X5{c:Pc}{ta:TA}{r:PTA}{Ec:XK}(hr:SndA K mg (fun _=>Ec) ta r):SndE K mg (fun _=>Ec) (Ph (spOf mg c K) [] Ec ta) (R3 c r):=by
 intro H0 B H σ γ R X Q env p q qx;refine hr H0 B H σ γ _ X _ env p (fun ss vs H1 h1 S1 t1=>?_) qx;rw[Wl];have env1:=env.grow S1;exact⟨_,_,X,t1.rps env1.same,h1,fun s v H' hs S2 tv=>q _ _ H' hs (S1.trans S2) (tv.back env1 S1 S2),fun e H' he S2=>qx e H' he (S1.trans S2)⟩
end
section
variable {K:Za}{mg:Str->Option Value}{E:L2.St->XK}{H0 H H1 H':Hp}{B Z Z':Addr->Prop}{σ:L2.St}{γ:Γ}
def EnvR.set {i:Nat}{s s':S}{v:V} (Ev:EnvR K H0 B H σ γ) (S1:Same H H') (h:TV K (zof B γ σ) H0 H H' s v) (e:s.slot=some s') :
  EnvR K H0 B H' (σ.set i (some v)) (γ.set i (some s'))/\Fr B H σ γ H' (σ.set i (some v)) (γ.set i (some s')):=by
 by_cases hi:i<γ.length
 ·exact Ev.put S1 h e hi
 ·rw[List.set_eq_of_length_le (by rw[Ev.len];omega),List.set_eq_of_length_le (by omega)];exact⟨Ev.grow S1,Fr.grow S1⟩
def Upd(is:List Nat)(σ σ':L2.St):Prop:=(∀j,j∉is->σ'[j]?=σ[j]?)/\σ'.length=σ.length
def Pp(K:Za)(is:List Nat)(t:TG)(p:PTG):Prop:=∀(H0:Hp) (B:Addr->Prop) (H H':Hp) (σ:L2.St) (γ:Γ) (s:S) (v:V) (R:Γ->Prop) (Q:L2.St->Hp->Prop),EnvR K H0 B H σ γ->Same H H'->TV K (zof B γ σ) H0 H H' s v->p s γ R->
 (∀σ' γ',R γ'->EnvR K H0 B H' σ' γ'->Fr B H σ γ H' σ' γ'->Upd is σ σ'->Q σ' H')->t v σ H' Q
def EN(i:Nat):PTG:=fun s γ R=>match s.slot with|some s'=>R (γ.set i (some s'))|none=>False
def JR(i:Nat):Pp K [i] (PN i) (EN i):=by
 intro H0 B H H' σ γ s v R Q env S1 tv p q;unfold EN at p;split at p
 ·rename_i s' e;obtain⟨e1,f1⟩:=env.set (i:=i) S1 tv e;exact q _ _ p e1 f1 ⟨fun j hj=>Pn fun z=>hj (by rw[z];exact Y5.mpr rfl),Wy⟩
 ·exact p.elim
def Lh:PTGs:=fun ss γ R=>match ss with|[]=>R γ|_=>False
def Zew(g:PTG)(r:PTGs):PTGs:=fun ss γ R=>match ss with|s::t=>g s γ fun γ'=>r t γ' R|[]=>False
def TV.notown {s:S}{v:V}{σ':L2.St}{γ':Γ}{Hb:Hp} (f:Fr B H σ γ H' σ' γ') (hb:Same H H') (n:∀ds,s≠.own ds) (nv:∀ds,s≠.view ds) (h:TV K (zof B γ σ) H0 Hb H s v):TV K (zof B γ' σ') H0 H' H' s v:=by
 cases s with
 |bor d=>exact h
 |sh d=>exact Rp.mono f.off h
 |own ds=>exact absurd rfl (n ds)
 |view ds=>exact absurd rfl (nv ds)
 |tmp d=>exact Rp.mono hb h
def TVs.notown {σ':L2.St}{γ':Γ}{Hb:Hp} (f:Fr B H σ γ H σ' γ'):∀{ss:List S}{vs:List V},(∀s∈ss,∀ds,s≠.own ds/\s≠.view ds)->TVs K (zof B γ σ) H0 Hb H ss vs->TVs K (zof B γ' σ') H0 H H ss vs
 |_,_,_,.nil=>.nil
 |_,_,n,.cons h r=>.cons (h.notown f (Same.refl _) (fun ds=>(n _ YO ds).1) fun ds=>(n _ YO ds).2) (TVs.notown f (fun s hs=>n s (YJ _ hs)) r)
def AW(d:D):arg d=.sh d\/arg d=.bor d:=by unfold arg;cases imm d<;>simp
def BE(d:D):argT d=.sh d\/argT d=.tmp d:=by unfold argT;cases imm d<;>simp
def Dl(s:S)(d:D):∀ds,s.sub d≠.own ds/\s.sub d≠.view ds:=fun ds=>by
 cases s with
 |bor b=>rcases AW d with e|e<;>(show arg d≠_/\arg d≠_;rw[e];exact⟨(fun z=>by cases z),(fun z=>by cases z)⟩)
 |tmp b=>rcases BE d with e|e<;>(show argT d≠_/\argT d≠_;rw[e];exact⟨(fun z=>by cases z),(fun z=>by cases z)⟩)
 |sh b=>exact⟨(fun z=>by cases z),(fun z=>by cases z)⟩
 |own b=>
  cases b with
  |nst cs=>rcases BE d with e|e<;>(show argT d≠_/\argT d≠_;rw[e];exact⟨(fun z=>by cases z),(fun z=>by cases z)⟩)
  |_=>exact⟨(fun z=>by cases z),(fun z=>by cases z)⟩
 |view b=>
  cases b with
  |nst cs=>rcases BE d with e|e<;>(show argT d≠_/\argT d≠_;rw[e];exact⟨(fun z=>by cases z),(fun z=>by cases z)⟩)
  |_=>exact⟨(fun z=>by cases z),(fun z=>by cases z)⟩
def NX(K:Za)(is:List Nat)(t:TGs)(p:PTGs):Prop:=∀(H0:Hp) (B:Addr->Prop) (H:Hp) (σ:L2.St) (γ:Γ) (ss:List S) (vs:List V) (R:Γ->Prop) (Q:L2.St->Hp->Prop),EnvR K H0 B H σ γ->TVs K (zof B γ σ) H0 H H ss vs->(∀s∈ss,∀ds,s≠.own ds/\s≠.view ds)->p ss γ R->
 (∀σ' γ',R γ'->EnvR K H0 B H σ' γ'->Fr B H σ γ H σ' γ'->Upd is σ σ'->Q σ' H)->t vs σ H Q
def Tq:NX K [] gNil Lh:=by
 intro H0 B H σ γ ss vs R Q env tv no p q;cases tv with
 |nil=>exact⟨rfl,q _ _ p env Fr.refl ⟨fun _ _=>rfl,rfl⟩⟩
 |cons _ _=>exact p.elim
def Kj{is js:List Nat}{g:TG}{r:TGs}{pg:PTG}{pr:PTGs}(hg:Pp K is g pg)(hr:NX K js r pr):NX K (is++js) (D8 g r) (Zew pg pr):=by
 intro H0 B H σ γ ss vs R Q env tv no p q;cases tv with
 |nil=>exact p.elim
 |cons h t=>
  refine⟨_,_,rfl,hg H0 B H H σ γ _ _ _ _ env (Same.refl _) h p fun σ1 γ1 p1 e1 f1 k1=>?_⟩;refine hr H0 B H σ1 γ1 _ _ _ _ e1 (TVs.notown f1 (fun s hs=>no s (YJ _ hs)) t) (fun s hs=>no s (YJ _ hs)) p1 fun σ2 γ2 p2 e2 f2 k2=>?_;exact q σ2 γ2 p2 e2 (f1.trans f2) ⟨fun j hj=>(k2.1 j fun z=>hj (Wa _ z)).trans (k1.1 j fun z=>hj (Qk _ z)),k2.2.trans k1.2⟩
def GS(n:Nat)(r:PTGs):PTG:=fun s γ R=>match s.d with | .tup ds=>ds.length=n/\r (ds.map s.sub) γ R|_=>False
def TVs.of_part {ds:List D}{s:S}:∀{vs:List V}{ds:List D},vs.length=ds.length->(∀(i:Nat) d,ds[i]?=some d->∃u,vs[i]?=some u/\TV K Z H0 H H' (s.sub d) u)->TVs K Z H0 H H' (ds.map s.sub) vs
 |[],[],_,_=>.nil
 |[],_::_,e,_=>by cases e
 |_::_,[],e,_=>by cases e
 |v::vs,d::ds,e,h=>by
  obtain⟨u,h1,h2⟩:=h 0 d rfl;cases h1
  exact .cons h2 (TVs.of_part (ds:=ds) (by simpa using e) fun i d' hd=>by simpa using h (i+1) d' (by simpa using hd))
def Tj{n:Nat}{is:List Nat}{r:TGs}{pr:PTGs}(hr:NX K is r pr):Pp K is (gTup K n r) (GS n pr):=by
 intro H0 B H H' σ γ s v R Q env S1 tv p q;unfold GS at p;have env1:=env.grow S1;obtain⟨_,pt⟩:=tv.part env1.same env.zm S1;split at p
 ·rename_i ds e;obtain⟨a,vs,rfl,ha,hn,hp⟩:=pt ds e;refine⟨a,vs,rfl,SqT.of ha,hn.trans p.1,?_⟩;have tvs:=TVs.of_part (ds:=ds) hn hp;refine hr H0 B H' σ γ _ vs R Q env1 (TVs.notown (Fr.refl) (fun s' hs ds=>?_) tvs) (fun s' hs ds=>?_) p.2 fun σ' γ' hR e1 f1 k1=>q σ' γ' hR e1 (Fr.trans (Fr.grow S1) f1) k1
  ·obtain⟨d,_,rfl⟩:=YX.mp hs;exact Dl s d ds
  ·obtain⟨d,_,rfl⟩:=YX.mp hs;exact Dl s d ds
 ·exact p.elim
def EndR.from {R:PEnds}{D:Ends}{σ1:L2.St}{γ1:Γ} (e:EndR K mg E H0 B H σ γ R D) (f:Fr B H σ γ H1 σ1 γ1):EndR K mg E H0 B H1 σ1 γ1 R D:=
 ⟨fun σ' γ' H' h1 h2 h3=>e.nx σ' γ' H' h1 h2 (f.trans h3),e.rt,fun σ' γ' c H' h1 h2 h3=>e.ex σ' γ' c H' h1 h2 (f.trans h3),fun σ' γ' H' h1 h2 h3=>e.bk σ' γ' H' h1 h2 (f.trans h3),fun σ' γ' H' h1 h2 h3=>e.ct σ' γ' H' h1 h2 (f.trans h3),fun σ' γ' d v H' h1 h2 h3=>e.rv σ' γ' d v H' h1 h2 (f.trans h3)⟩
variable {te:TE}{a:PTE}{tt:TT}{c:PTT}{t u:TS}{p q:PTS}
def R4:PTS:=fun R γ=>R.nx γ
def Uc:SndS K mg E Gg R4:=fun _ _ _ _ _ _ _ _ env h e=>e.nx _ _ _ h env Fr.refl
def pSeq(p q:PTS):PTS:=fun R γ=>p {R with nx:=q R} γ
def JN(hp:SndS K mg E t p)(hq:SndS K mg E u q):SndS K mg E (tSeq t u) (pSeq p q):=by
 intro H0 B H σ γ R D hB env h e;refine hp H0 B H σ γ _ _ hB env h ⟨fun σ' γ' H' h1 e1 f1=>?_,e.rt,e.ex,e.bk,e.ct,e.rv⟩;exact hq H0 B H' σ' γ' R D hB e1 h1 (e.from f1)
structure JoinW (p q:PTS) (R:PEnds) (γ:Γ):Prop where
 w:∃J:Γ->Prop,p {R with nx:=J} γ/\∀γ',J γ'->q R γ'
def OH(p q:PTS):PTS:=fun R γ=>JoinW p q R γ
def N4(hp:SndS K mg E t p)(hq:SndS K mg E u q):SndS K mg E (Gv t u) (OH p q):=by
 intro H0 B H σ γ R D hB env h e;obtain⟨J,h,k⟩:=h.w;refine⟨fun σ' H'=>∃γ',J γ'/\EnvR K H0 B H' σ' γ'/\Fr B H σ γ H' σ' γ',hp H0 B H σ γ _ _ hB env h ⟨fun σ' γ' H' h1 e1 f1=>⟨γ',h1,e1,f1⟩,e.rt,e.ex,e.bk,e.ct,e.rv⟩,?_⟩;rintro σ' H' ⟨γ',h1,e1,f1⟩;exact hq H0 B H' σ' γ' R D hB e1 (k γ' h1) (e.from f1)
def pFrz(i:Nat)(p:PTS):PTS:=fun R γ=>p R (frz i γ)
def Ud(i:Nat)(hp:SndS K mg E t p):SndS K mg E t (pFrz i p):=by
 intro H0 B H σ γ R D hB env h e;obtain⟨e1,f1⟩:=env.frz hB i;exact hp H0 B H σ _ R D hB e1 h (e.from f1)
def pAsg(a:PTE)(g:PTG):PTS:=fun R γ=>a γ (fun s=>g s γ R.nx) (R.ex γ)
def JW{is:List Nat}{g:TG}{pg:PTG}(ha:SndE K mg E te a)(hg:Pp K is g pg):SndS K mg E (tAsg te g) (pAsg a pg):=by
 intro H0 B H σ γ R D hB env h e;refine ha H0 B H σ γ _ _ _ env h (fun s v H1 h1 S1 t1=>?_) fun c H' hc S'=>e.ex σ γ c H' hc (env.grow S') (Fr.grow S');exact hg H0 B H H1 σ γ s v _ _ env S1 t1 h1 fun σ' γ' h2 e2 f2 _=>e.nx σ' γ' H1 h2 e2 f2
def pAug(i:Nat)(f:Int->Int->Int)(a:PTE):PTS:=fun R γ=>match γ[i]? with
 |some (some (.sh (.int x)))=>a γ (fun y=>match y.d with | .int j=>R.nx (γ.set i (some (.sh (.int (f x j)))))|_=>False) (R.ex γ)
 |_=>False
def Bg{i:Nat}{f:Int->Int->Int}(ha:SndE K mg E te a):SndS K mg E (tAug i te (ipI f)) (pAug i f a):=by
 intro H0 B H σ γ R D hB env h e;unfold pAug at h;split at h
 ·rename_i x hx;obtain⟨v,h1,h2⟩:=env.slot i _ hx;refine⟨v,h1,ha H0 B H σ γ _ _ _ env h (fun y u H1 h3 S1 t1=>?_) fun c H' hc S'=>e.ex σ γ c H' hc (env.grow S') (Fr.grow S')⟩;have rx:=t1.rp (env.grow S1).same;split at h3
  ·rename_i j ej;rw[ej]at rx;refine⟨x,j,Rp.int_inv h2,rx.int_inv,?_⟩;obtain⟨e1,f1⟩:=env.set (i:=i) (s:=.sh (.int (f x j))) (v:=.int (f x j)) S1 (.int _) rfl;exact e.nx _ _ H1 h3 e1 f1
  ·exact h3.elim
 ·exact h.elim
def pRet(a:PTE):PTS:=fun R γ=>a γ R.rt (R.ex γ)
def JY(ha:SndE K mg E te a):SndS K mg E (tRet te) (pRet a):=by
 intro H0 B H σ γ R D hB env h e;refine ha H0 B H σ γ _ _ _ env h (fun s v H1 h1 S1 t1=>?_) fun c H' hc S'=>e.ex σ γ c H' hc (env.grow S') (Fr.grow S');exact e.rt s v H1 h1 (env.same.trans S1) (TV.weak env.same (fun b z=>.inl z) t1)
def ID(i:Nat):PTS:=fun R γ=>match γ[i]? with|some (some s)=>R.rt s|_=>False
def XB(i:Nat):SndS K mg E (tRet (tVar i)) (ID i):=by
 intro H0 B H σ γ R D hB env h e;unfold ID at h;split at h
 ·rename_i s hs;obtain⟨v,h1,h2⟩:=env.slot i _ hs;refine⟨v,h1,e.rt s v H h env.same ?_⟩;cases s with
  |bor d=>exact h2
  |sh d=>exact Rp.mono (Uo (Same.refl _) fun b _ _ z y=>z (.inl y)) h2
  |own ds=>
   obtain⟨l,rfl,e2,e3⟩:=h2;exact⟨l,rfl,e2,e3.mono (Uo (Same.refl _) fun b _ _ z y=>z (y.elim .inl fun w=>.inr ⟨i,ds,l,hs,h1,w⟩)) fun _ _ _ q=>q⟩
  |view ds=>exact h2.elim
  |tmp d=>exact h2.elim
 ·exact h.elim
def pIfS(c:PTT)(p q:PTS):PTS:=fun R γ=>c γ (fun b=>if b=true then p R γ else q R γ) (R.ex γ)
def Ue(hc:SndT K mg E tt c)(hp:SndS K mg E t p)(hq:SndS K mg E u q):SndS K mg E (tIfS tt t u) (pIfS c p q):=by
 intro H0 B H σ γ R D hB env h e;refine hc H0 B H σ γ _ _ _ env h (fun b H1 h1 S1=>?_) fun c H' hc S'=>e.ex σ γ c H' hc (env.grow S') (Fr.grow S');split at h1
 ·rename_i hb;rw[Yz hb];exact hp H0 B H1 σ γ R D hB (env.grow S1) h1 (e.from (Fr.grow S1))
 ·rename_i hb;rw[Yx hb];exact hq H0 B H1 σ γ R D hB (env.grow S1) h1 (e.from (Fr.grow S1))
def Lc(a:PTE):PTS:=fun R γ=>a γ (fun _=>R.nx γ) (R.ex γ)
def Xn(ha:SndE K mg E te a):SndS K mg E (NC te) (Lc a):=by
 intro H0 B H σ γ R D hB env h e;exact ha H0 B H σ γ _ _ _ env h (fun s v H1 h1 S1 t1=>e.nx σ γ H1 h1 (env.grow S1) (Fr.grow S1)) fun c H' hc S'=>e.ex σ γ c H' hc (env.grow S') (Fr.grow S')
def MF:PTS:=fun _ _=>False
def Zes:SndS K mg E CW MF:=fun _ _ _ _ _ _ _ _ _ h _=>h
def Zai(x:Str)(r:PTA):PTS:=fun R γ=>r γ (fun ss=>ss.length<=1000/\R.ex γ x) (R.ex γ)
def TVs.len:∀{ss:List S}{vs:List V},TVs K Z H0 H H' ss vs->vs.length=ss.length
 |_,_,.nil=>rfl
 |_,_,.cons _ r=>Wj (· + 1) (TVs.len r)
def X3{x:Str}{ta:TA}{r:PTA}{Ec:XK}(hr:SndA K mg (fun _=>Ec) ta r):SndS K mg (fun _=>Ec) (ExcR.GG (ExcR.JU mg x) Ec ta) (Zai x r):=by
 intro H0 B H σ γ R D hB env h e;refine hr H0 B H σ γ _ _ _ env h (fun ss vs H1 h1 S1 t1=>⟨?_,?_⟩) fun c H' hc S'=>e.ex σ γ c H' hc (env.grow S') (Fr.grow S')
 ·rw[t1.len];exact BG h1.1
 ·exact e.ex σ γ x H1 h1.2 (env.grow S1) (Fr.grow S1)
def fPar(i j:Nat)(γ:Γ)(R:Γ->Prop):List S->Prop
 |[.sh d,.sh e]=>R ((γ.set i (some (.sh d))).set j (some (.sh e)))
 |_=>False
def clr:List Nat->Γ->Γ
 |[],γ=>γ
 |i::r,γ=>clr r (γ.set i none)
def EnvR.clr:∀(is:List Nat) {γ:Γ},EnvR K H0 B H σ γ->EnvR K H0 B H σ (clr is γ)/\Fr B H σ γ H σ (Pu.clr is γ)
 |[],_,e=>⟨e,Fr.refl⟩
 |i::r,γ,e=>by
  obtain⟨e1,f1⟩:=e.drop i;obtain⟨e2,f2⟩:=EnvR.clr r e1;exact⟨e2,f1.trans f2⟩
def Later(H0:Hp)(Z:Addr->Prop)(H1:Hp)(Z':Addr->Prop)(H':Hp):Prop:=Same H0 H'/\(∀b,Z' b->Mut (H' b))/\∀b o,H1 b=some o->¬Z b->H' b=some o/\¬Z' b
def Later.of {σ':L2.St}{γ':Γ} (e:EnvR K H0 B H' σ' γ') (f:Fr B H1 σ γ H' σ' γ'):Later H0 (zof B γ σ) H1 (zof B γ' σ') H':=⟨e.same,e.zm,f⟩
def Later.off (l:Later H0 Z H1 Z' H'):Same (off Z H1) (Pu.off Z' H'):=fun b o h=>by
 obtain⟨h1,h2⟩:=Ki h;obtain⟨h3,h4⟩:=l.2.2 b o h1 h2;exact UQ h3 h4
structure ItOk (K:Za) (H0:Hp) (B:Addr->Prop) (H1:Hp) (σ:L2.St) (γ:Γ) (J:It) (n:Nat) (item:Nat->S):Prop where
 go:∀(i:Nat) (H':Hp) (Z':Addr->Prop),i<n->Later H0 (zof B γ σ) H1 Z' H'->J.go i H'/\∀x H'',J.yld i H' x H''->Same H' H''/\TV K Z' H0 H' H'' (item i) x
 stop:∀(H':Hp) (Z':Addr->Prop),Later H0 (zof B γ σ) H1 Z' H'->J.stop n H'
abbrev PTI:=Γ->(Nat->(Nat->S)->Prop)->XR->Prop
def SndI(K:Za)(mg:Str->Option Value)(E:L2.St->XK)(wi:TI)(it:PTI):Prop:=∀(H0:Hp) (B:Addr->Prop) (H:Hp) (σ:L2.St) (γ:Γ) (R:Nat->(Nat->S)->Prop) (X:XR) (Q:It->Hp->Prop),EnvR K H0 B H σ γ->it γ R X->
 (∀n item J H1,R n item->Same H H1->ItOk K H0 B H1 σ γ J n item->Q J H1)->(∀c H',X c->Same H H'->E σ (.ref (ExcR.JU mg c)) none H')->wi σ H Q
structure ForW (js:List Nat) (γ:Γ) (g:PTG) (body:PTS) (R:PEnds) (n:Nat) (item:Nat->S):Prop where
 w:∃inv:Nat->Γ->Prop,inv 0 (clr js γ)/\
 (∀i γ',i<n->inv i γ'->g (item i) γ' fun γ2=>body {R with nx:=fun γ3=>inv (i+1) (clr js γ3),ct:=fun γ3=>inv (i+1) (clr js γ3),bk:=R.nx} γ2)/\∀γ',inv n γ'->R.nx γ'
def pFor(js:List Nat)(it:PTI)(g:PTG)(body:PTS):PTS:=fun R γ=>it γ (fun n item=>ForW js γ g body R n item) (R.ex γ)
def UM{is:List Nat}{wi:TI}{g:TG}{it:PTI}{pg:PTG}(js:List Nat)(hi:SndI K mg E wi it)(hg:Pp K is g pg)(hb:SndS K mg E t p):SndS K mg E (tFor wi g t) (pFor js it pg p):=by
 intro H0 B H σ γ R D hB env h e;refine hi H0 B H σ γ _ _ _ env h (fun n item J H1 h1 S1 ok=>?_) fun c H' hc S'=>e.ex σ γ c H' hc (env.grow S') (Fr.grow S');obtain⟨inv,h0,hs,hd⟩:=h1.w;have env1:=env.grow S1;refine⟨fun i m σ' H'=>m=n-i/\i<=n/\∃γ',inv i γ'/\EnvR K H0 B H' σ' γ'/\Fr B H1 σ γ H' σ' γ',⟨n,by simp,WA _,_,h0,(env1.clr js).1,(env1.clr js).2⟩,?_⟩;rintro i m σ' H' ⟨rfl,hin,γ',hi',e',f'⟩;by_cases hlt:i<n
 ·obtain⟨go,yl⟩:=ok.go i H' _ hlt (Later.of e' f');refine .inr ⟨go,fun σ2 H2=>∃γ2,inv (i+1) γ2/\EnvR K H0 B H2 σ2 γ2/\Fr B H1 σ γ H2 σ2 γ2,fun σ2 H2 ⟨γ2,a1,a2,a3⟩=>⟨n-(i+1),by omega,rfl,hlt,γ2,a1,a2,a3⟩,fun x H'' y=>?_⟩;obtain⟨S2,tv⟩:=yl x H'' y;refine hg H0 B H' H'' σ' γ' _ _ _ _ e' S2 tv (hs i γ' hlt hi') fun σ2 γ2 q2 e2 f2 _=>?_;have fall:=f'.trans f2;refine hb H0 B H'' σ2 γ2 _ _ hB e2 q2 ⟨fun σ3 γ3 H3 q3 e3 f3=>?_,e.rt,fun σ3 γ3 c H3 q3 e3 f3=>e.ex σ3 γ3 c H3 q3 e3 ((Fr.grow S1).trans (fall.trans f3)),fun σ3 γ3 H3 q3 e3 f3=>e.nx σ3 γ3 H3 q3 e3 ((Fr.grow S1).trans (fall.trans f3)),fun σ3 γ3 H3 q3 e3 f3=>?_,fun σ3 γ3 d v H3 q3 e3 f3=>e.rv σ3 γ3 d v H3 q3 e3 ((Fr.grow S1).trans (fall.trans f3))⟩
  ·exact⟨_,q3,(e3.clr js).1,(fall.trans f3).trans (e3.clr js).2⟩
  ·exact⟨_,q3,(e3.clr js).1,(fall.trans f3).trans (e3.clr js).2⟩
 ·have:i=n:=by omega
  subst this;exact .inl ⟨ok.stop H' _ (Later.of e' f'),e.nx σ' γ' H' (hd γ' hi') e' ((Fr.grow S1).trans f')⟩
def S.fix:S->Bool
 | .bor _=>true | .sh _=>true | .own _=>true|_=>false
def pIL(a:PTE):PTI:=fun γ R X=>a γ (fun s=>match s.d with
 | .lst ds=>s.fix=true/\R ds.length fun i=>s.sub (ds.getD i .non)
 | .scr ns=>s.fix=true/\R ns.length fun i=>.sh (.int (ns.getD i 0))
 |_=>False) X
def TV.last {s:S}{v:V}{ds:List D} (env:EnvR K H0 B H σ γ) (S1:Same H H1) (tv:TV K (zof B γ σ) H0 H H1 s v) (hf:s.fix=true) (hd:s.d=.lst ds):∃l vs,v=.ref l/\vs.length=ds.length/\
  ∀(H':Hp) (Z':Addr->Prop),Later H0 (zof B γ σ) H1 Z' H'->H' l=some (.lst vs)/\∀(i:Nat) d,ds[i]?=some d->∃u,vs[i]?=some u/\TV K Z' H0 H' H' (s.sub d) u:=by
 have env1:=env.grow S1
 have key:∀{s:S},(∀d,s.sub d=.sh d)->Rp K (Pu.off (zof B γ σ) H1) (.lst ds) v->∃l vs,v=.ref l/\vs.length=ds.length/\
   ∀(H':Hp) (Z':Addr->Prop),Later H0 (zof B γ σ) H1 Z' H'->H' l=some (.lst vs)/\∀(i:Nat) d,ds[i]?=some d->∃u,vs[i]?=some u/\TV K Z' H0 H' H' (s.sub d) u:=fun hs h=>by
  obtain⟨l,vs,rfl,h1,h2⟩:=Rp.lst_inv h;refine⟨l,vs,rfl,h2.len,fun H' Z' lt=>⟨off_sub _ _ (lt.off _ _ h1),fun i d hi=>?_⟩⟩;obtain⟨u,h3,h4⟩:=h2.get hi;refine⟨u,h3,?_⟩;rw[hs];exact Rp.mono lt.off h4
 cases s with
 |bor d=>
  have tv:=Rp.strip tv;rw[show d.strip=.lst ds from hd]at tv
  obtain⟨l,vs,rfl,h1,h2⟩:=Rp.lst_inv tv;refine⟨l,vs,rfl,h2.len,fun H' Z' lt=>⟨lt.1 _ _ h1,fun i d hi=>?_⟩⟩;obtain⟨u,h3,h4⟩:=h2.get hi;exact⟨u,h3,argR lt.2.1 lt.1 h4⟩
 |sh d=>
  have:d=.lst ds:=hd
  subst this;exact key (fun _=>rfl) tv
 |own es=>
  cases es with
  |lst es=>
   cases hd
   exact key (fun _=>rfl) (tv.shd env1.same env.zm S1 rfl)
  |lsA x es=>
   cases hd
   exact key (fun _=>rfl) (tv.shd env1.same env.zm S1 rfl)
  |dK es=>cases hd
  |dT es=>cases hd
  |ins x C xs cs=>cases hd
  |nst cs=>cases hd
 |view es=>cases hf
 |tmp d=>cases hf
def X2{te:TE}{a:PTE}(ha:SndE K mg E te a):SndI K mg E (SK K te) (pIL a):=by
 intro H0 B H σ γ R X Q env h q qx;refine ha H0 B H σ γ _ X _ env h (fun s v H1 h1 S1 t1=>?_) qx;have env1:=env.grow S1;split at h1
 ·rename_i ds ed;obtain⟨l,vs,rfl,hn,hl⟩:=t1.last env S1 h1.1 ed;obtain⟨hl1,_⟩:=hl H1 _ (Later.of env1 Fr.refl);refine⟨l,rfl,⟨vs,SqL.of hl1⟩,q _ _ _ H1 h1.2 S1 ⟨fun i H' Z' hi lt=>?_,fun H' Z' lt=>?_⟩⟩
  ·obtain⟨k1,k2⟩:=hl H' Z' lt;have hd:ds[i]?=some (ds.getD i .non):=by rw[Yw,Yt hi];rfl
   obtain⟨u,hu,tu⟩:=k2 i _ hd;refine⟨⟨vs,u,SqL.of k1,hu⟩,fun x H'' y=>?_⟩;obtain⟨rfl,y⟩:=y
   have:=y vs (SqL.of k1)
   rw[hu]at this;cases this
   exact⟨Same.refl _,tu⟩
  ·exact⟨vs,SqL.of (hl H' Z' lt).1,by omega⟩
 ·rename_i ns ed
  have hs:∃l,v=.ref l/\∀(H':Hp) (Z':Addr->Prop),Later H0 (zof B γ σ) H1 Z' H'->SqL K H' l (ns.map V.int):=by
   cases s with
   |bor d=>
    have t1:=Rp.strip t1;rw[show d.strip=.scr ns from ed]at t1
    cases t1 with
    |scr hs=>exact⟨_,rfl,fun H' Z' lt=>lt.1.seq hs⟩
   |sh d=>
    have:d=.scr ns:=ed
    subst this;cases t1 with
    |scr hs=>exact⟨_,rfl,fun H' Z' lt=>off_sub.seq (lt.off.seq hs)⟩
   |own es=>cases es<;>cases ed
   |view es=>cases es<;>cases ed
   |tmp d=>cases h1.1
  obtain⟨l,rfl,hl⟩:=hs;refine⟨l,rfl,⟨_,hl H1 _ (Later.of env1 Fr.refl)⟩,q _ _ _ H1 h1.2 S1 ⟨fun i H' Z' hi lt=>?_,fun H' Z' lt=>?_⟩⟩
  ·have k1:=hl H' Z' lt
   have hu:(ns.map V.int)[i]?=some (.int (ns.getD i 0)):=by
    rw[Y6,Yt hi,Yw,Yt hi];rfl
   refine⟨⟨_,_,k1,hu⟩,fun x H'' y=>?_⟩;obtain⟨rfl,y⟩:=y
   have:=y _ k1
   rw[hu]at this;cases this
   exact⟨Same.refl _,.int _⟩
  ·exact⟨_,hl H' Z' lt,by rw[Yu];exact Y3 _⟩
 ·exact h1.elim
def fR1(R:Nat->(Nat->S)->Prop):List D->Prop
 |[.int j]=>(-(2 ^ 62)<=j/\j<2 ^ 62)/\R j.toNat fun i=>.sh (.int (0+(i:Int)))
 |_=>False
def fR2(R:Nat->(Nat->S)->Prop):List D->Prop
 |[.int i,.int j]=>(-(2 ^ 62)<=i/\i<2 ^ 62/\-(2 ^ 62)<=j/\j<2 ^ 62)/\R (j-i).toNat fun k=>.sh (.int (i+(k:Int)))
 |_=>False
def pIR1(r:PTA):PTI:=fun γ R X=>r γ (fun ss=>fR1 R (ss.map S.d)) X
def pIR2(r:PTA):PTI:=fun γ R X=>r γ (fun ss=>fR2 R (ss.map S.d)) X
def Rps.one_inv {d:D}{vs:List V} (h:Rps K H [d] vs):∃v,vs=[v]/\Rp K H d v:=by
 cases h with
 |cons h r=>cases r;exact⟨_,rfl,h⟩
def Rps.two_inv {d e:D}{vs:List V} (h:Rps K H [d,e] vs):∃v u,vs=[v,u]/\Rp K H d v/\Rp K H e u:=by
 cases h with
 |cons h r=>cases r with|cons h2 r=>cases r;exact⟨_,_,rfl,h,h2⟩
def GF{lo:Int}{n:Nat}:ItOk K H0 B H1 σ γ (Itr lo n) n fun i=>.sh (.int (lo+(i:Int))):=by
 refine⟨fun i H' Z' hi lt=>⟨hi,fun x H'' y=>?_⟩,fun H' Z' lt=>Y3 _⟩;obtain⟨e,y⟩:=y;subst e y;exact⟨Same.refl _,.int _⟩
def Ks{ta:TA}{r:PTA}(hr:SndA K mg E ta r):SndI K mg E (CS ta) (pIR1 r):=by
 intro H0 B H σ γ R X Q env h q qx;refine hr H0 B H σ γ _ X _ env h (fun ss vs H1 h1 S1 t1=>?_) qx;have rv:=t1.rps (env.grow S1).same;unfold fR1 at h1;split at h1
 ·rename_i j ej;rw[ej]at rv;obtain⟨v,rfl,r1⟩:=rv.one_inv;rw[r1.int_inv];exact⟨j,rfl,h1.1.1,h1.1.2,q _ _ _ H1 h1.2 S1 GF⟩
 ·exact h1.elim
def HV{ta:TA}{r:PTA}(hr:SndA K mg E ta r):SndI K mg E (Ig ta) (pIR2 r):=by
 intro H0 B H σ γ R X Q env h q qx;refine hr H0 B H σ γ _ X _ env h (fun ss vs H1 h1 S1 t1=>?_) qx;have rv:=t1.rps (env.grow S1).same;unfold fR2 at h1;split at h1
 ·rename_i i j ej;rw[ej]at rv;obtain⟨v,u,rfl,r1,r2⟩:=rv.two_inv;rw[r1.int_inv,r2.int_inv];exact⟨i,j,rfl,h1.1,q _ _ _ H1 h1.2 S1 GF⟩
 ·exact h1.elim
structure WhileW (js:List Nat) (γ:Γ) (c:PTT) (body:PTS) (R:PEnds):Prop where
 w:∃(inv:Γ->Prop) (μ:Γ->Nat),inv (clr js γ)/\∀γ',inv γ'->c γ' (fun b=>if b=true then
  body {R with nx:=fun γ3=>inv (clr js γ3)/\μ (clr js γ3)<μ γ',ct:=fun γ3=>inv (clr js γ3)/\μ (clr js γ3)<μ γ',bk:=R.nx} γ' else R.nx γ') (R.ex γ')
def Zhl(js:List Nat)(c:PTT)(body:PTS):PTS:=fun R γ=>WhileW js γ c body R
def NL(js:List Nat)(hc:SndT K mg E tt c)(hb:SndS K mg E t p):SndS K mg E (G6 tt t) (Zhl js c p):=by
 intro H0 B H σ γ R D hB env h e;obtain⟨inv,μ,h0,hs⟩:=h.w;refine⟨fun m σ' H'=>∃γ',m=μ γ'/\inv γ'/\EnvR K H0 B H' σ' γ'/\Fr B H σ γ H' σ' γ',⟨_,_,rfl,h0,(env.clr js).1,(env.clr js).2⟩,?_⟩;rintro m σ' H' ⟨γ',rfl,hi,e',f'⟩;refine hc H0 B H' σ' γ' _ _ _ e' (hs γ' hi) (fun b H1 h1 S1=>?_) fun c H'' hc S'=>e.ex σ' γ' c H'' hc (e'.grow S') (f'.trans (Fr.grow S'));have e1:=e'.grow S1;have f1:=f'.trans (Fr.grow S1);cases b with
 |false=>
  rw[Yx YG]at h1 ⊢;exact e.nx σ' γ' H1 h1 e1 f1
 |true=>
  rw[Yz rfl]at h1 ⊢;refine⟨fun σ2 H2=>∃γ2,μ γ2<μ γ'/\inv γ2/\EnvR K H0 B H2 σ2 γ2/\Fr B H σ γ H2 σ2 γ2,fun σ2 H2 ⟨γ2,k,a1,a2,a3⟩=>⟨_,k,γ2,rfl,a1,a2,a3⟩,?_⟩;refine hb H0 B H1 σ' γ' _ _ hB e1 h1 ⟨fun σ3 γ3 H3 q3 e3 f3=>?_,e.rt,fun σ3 γ3 c H3 q3 e3 f3=>e.ex σ3 γ3 c H3 q3 e3 (f1.trans f3),fun σ3 γ3 H3 q3 e3 f3=>e.nx σ3 γ3 H3 q3 e3 (f1.trans f3),fun σ3 γ3 H3 q3 e3 f3=>?_,fun σ3 γ3 d v H3 q3 e3 f3=>e.rv σ3 γ3 d v H3 q3 e3 (f1.trans f3)⟩
  ·exact⟨_,q3.2,q3.1,(e3.clr js).1,(f1.trans f3).trans (e3.clr js).2⟩
  ·exact⟨_,q3.2,q3.1,(e3.clr js).1,(f1.trans f3).trans (e3.clr js).2⟩
end
section
variable {K:Za}{mg:Str->Option Value}{E:L2.St->XK}{H0 H H1 H':Hp}{B Z Z':Addr->Prop}{σ:L2.St}{γ:Γ}
def K7(N:List Str)(ds:List D):Γ:=ds.map (fun d=>some (arg d))++List.replicate (N.length-ds.length) none
def Oq{N:List Str}{ds:List D}{vs:List V}(r:Rps K H ds vs)(hn:ds.length<=N.length):EnvR K H (fun b=>Mut (H b)) H (start N vs) (K7 N ds):=by
 have hlen:=r.len
 have get:∀(i:Nat) (s:S),(K7 N ds)[i]?=some (some s)->∃d,ds[i]?=some d/\s=arg d:=fun i s h=>by
  unfold K7 at h;by_cases hi:i<ds.length
  ·rw[YW (by rw[Yu];exact hi),Y6,Yt hi]at h;exact⟨_,Yt hi,(Y7 (Y7 h)).symm⟩
  ·rw[Wc (by rw[Yu];omega),WX]at h;split at h<;>cases h
 have noown:∀(i:Nat) (es:O),(K7 N ds)[i]?≠some (some (.own es)):=fun i es h=>by
  obtain⟨d,_,e⟩:=get i _ h;rcases AW d with q|q<;>rw[q]at e<;>cases e
 refine⟨Same.refl _,?_,fun b h=>h,fun i j a a' es es' b h=>absurd h (noown i es),fun i s h=>?_⟩
 ·unfold L2.start K7;simp[hlen]
 ·obtain⟨d,hd,rfl⟩:=get i s h;obtain⟨v,hv,rv⟩:=r.get hd;refine⟨v,?_,?_⟩
  ·unfold L2.start;rw[YW (by rw[Yu];exact(YQ.mp hv).1),Y6,hv];rfl
  ·have tv:=argR (K:=K) (Z:=zof (fun b=>Mut (H b)) (K7 N ds) (start N vs)) (H0:=H) (H:=H) (H':=H) (fun b z=>z.elim id fun⟨k,es,_,k1,_⟩=>absurd k1 (noown k es)) (Same.refl _) rv;rcases AW d with q|q<;>rw[q]at tv ⊢<;>exact tv
def Zdo{c:Pc}{N:List Str}{t:TS}{p:PTS}{vs:List V}{Q:VK}{Ec:XK}{n:Nat}(h:spOf mg c K vs H Q Ec)(snd:SndS K mg (fun _=>Ec) t p)(hn:n<=N.length)(hp:∀ds R X,c ds R X->ds.length=n/\p {nx:=fun _=>R (.sh .non),rt:=R,ex:=fun _ e=>X e} (K7 N ds)):t {nx:=fun _ H'=>Q .non H',rt:=Q} (start N vs) H:=by
 obtain⟨ds,R,X,r,hc,hQ,hX⟩:=h;obtain⟨e,hp⟩:=hp ds R X hc;refine snd H (fun b=>Mut (H b)) H _ _ _ _ (fun b z=>KF z) (Oq r (by rw[e];exact hn)) hp ⟨fun σ' γ' H' h1 e1 f1=>hQ _ _ H' h1 e1.same .non,fun s v H' h1 S1 tv=>hQ s v H' h1 S1 tv,fun σ' γ' c H' h1 e1 f1=>hX c H' h1 e1.same,fun _ _ _ z=>z.elim,fun _ _ _ z=>z.elim,fun _ _ _ _ _ z=>z.elim⟩
def Lv{c:Pc}{vs:List V}{Q:VK}{Ec:XK}{n:Nat}(h:spOf mg c K vs H Q Ec)(hn:∀ds R X,c ds R X->ds.length=n):vs.length=n:=by
 obtain⟨ds,R,X,r,hc,_⟩:=h;rw[r.len];exact hn ds R X hc
def atP(φ:List (Option Nat))(γ:Γ):Γ:=φ.map fun o=>o.bind fun j=>(γ[j]?).join
structure CompW (φ:List (Option Nat)) (γ:Γ) (g:PTG) (c:PTT) (e:PTE) (n:Nat) (item:Nat->S) (R:S->Prop):Prop where
 w:n<=100000/\∃f:Nat->Option D,(∀i,i<n->g (item i) (atP φ γ) fun γ2=>c γ2 (fun b=>if b=true then e γ2 (fun s=>∃d,s.shd=some d/\f i=some d) (fun _=>False)else f i=none) (fun _=>False))/\R (.own ((List.range n).filterMap f))
def LS(φ:List (Option Nat))(it:PTI)(g:PTG)(c:PTT)(e:PTE):PTE:=fun γ R X=>it γ (fun n item=>CompW φ γ g c e n item R) X
def SE{φ:List (Option Nat)}{i:Nat}{s:S}(h:(atP φ γ)[i]?=some (some s)):∃j,φ[i]?=some (some j)/\γ[j]?=some (some s):=by
 unfold atP at h;rw[Y6]at h;cases e:φ[i]? with
 |none=>rw[e]at h;cases h
 |some o=>
  rw[e]at h;cases o with
  |none=>simp at h
  |some j=>
   refine⟨j,rfl,?_⟩;simp at h;cases e2:γ[j]? with
   |none=>rw[e2]at h;simp at h
   |some w=>rw[e2]at h;simp at h;rw[h]
def SU:∀{φ:List (Option Nat)},(φ.filterMap id).Nodup->∀(i j k:Nat),φ[i]?=some (some k)->φ[j]?=some (some k)->i=j
 |[],_,i,_,_,h,_=>by simp at h
 |none::r,hn,i,j,k,h1,h2=>by
  cases i with
  |zero=>simp at h1
  |succ i=>
   cases j with
   |zero=>simp at h2
   |succ j=>exact Wj (· + 1) (SU (φ:=r) (by simpa using hn) i j k (by simpa using h1) (by simpa using h2))
 |some m::r,hn,i,j,k,h1,h2=>by
  have hn':m∉r.filterMap id/\(r.filterMap id).Nodup:=by simpa using hn
  have mem:∀{j:Nat},r[j]?=some (some k)->k∈r.filterMap id:=fun h=>Vz.mpr ⟨some k,YM h,rfl⟩;cases i with
  |zero=>
   cases j with
   |zero=>rfl
   |succ j=>
    have e:m=k:=by simpa using h1
    subst e;exact absurd (mem (by simpa using h2)) hn'.1
  |succ i=>
   cases j with
   |zero=>
    have e:m=k:=by simpa using h2
    subst e;exact absurd (mem (by simpa using h1)) hn'.1
   |succ j=>exact Wj (· + 1) (SU (φ:=r) hn'.2 i j k (by simpa using h1) (by simpa using h2))
def NT{φ:List (Option Nat)}{i j:Nat}(h1:φ[i]?=some (some j)){v:V}(h2:σ[j]?=some (some v)):(atStart φ σ)[i]?=some (some v):=by
 unfold atStart;rw[Y6,h1];simp[h2]
def Ga{φ:List (Option Nat)}{L:Addr}(env:EnvR K H0 B H σ γ)(nL:H L=none):∀b o,H b=some o->¬zof B γ σ b->¬zof (fun b=>zof B γ σ b\/b=L) (atP φ γ) (atStart φ σ) b:=fun b o hb z y=>by
 rcases y with(y|y)|⟨i',ds,x,y1,y2,y3⟩
 ·exact z y
 ·rw[y,nL]at hb;cases hb
 ·obtain⟨m,m1,m2⟩:=SE y1;obtain⟨w,w1,_⟩:=env.slot m _ m2;rw[NT m1 w1]at y2;exact z (.inr ⟨m,ds,x,m2,by rw[w1];exact Wj some (Y7 y2),y3⟩)
def Ry{φ:List (Option Nat)}{L:Addr}(env:EnvR K H0 B H σ γ)(S1:Same H H')(nL:H L=none)(hL:∃ys,H' L=some (.lst ys))(hφ:(φ.filterMap id).Nodup) :
  EnvR K H0 (fun b=>zof B γ σ b\/b=L) H' (atStart φ σ) (atP φ γ):=by
 refine⟨env.same.trans S1,by unfold atStart atP;simp,fun b z=>?_,fun i j a a' ds es b h1 h2 h3 h4 h5 h6=>?_,fun i s h=>?_⟩
 ·rcases z with z|rfl
  ·exact Ko S1 (env.zm b z)
  ·obtain⟨ys,e⟩:=hL;rw[e];trivial
 ·obtain⟨k,k1,k2⟩:=SE h1;obtain⟨l,l1,l2⟩:=SE h2;obtain⟨v,v1,_⟩:=env.slot k _ k2;obtain⟨u,u1,_⟩:=env.slot l _ l2;rw[NT k1 v1]at h3;rw[NT l1 u1]at h4
  have:=env.own k l a a' ds es b k2 l2 (by rw[v1];exact Wj some (Y7 h3)) (by rw[u1];exact Wj some (Y7 h4)) h5 h6
  subst this;exact SU hφ i j k k1 l1
 ·obtain⟨k,k1,k2⟩:=SE h;obtain⟨v,v1,v2⟩:=env.slot k _ k2;have So:Same (off (zof B γ σ) H) (off (zof (fun b=>zof B γ σ b\/b=L) (atP φ γ) (atStart φ σ)) H'):=Uo S1 (Ga env nL);refine⟨v,NT k1 v1,?_⟩;cases s with
  |bor d=>exact v2
  |sh d=>exact Rp.mono So v2
  |own ds=>
   obtain⟨a,e1,e3,e4⟩:=v2;exact⟨a,e1,e3,e4.mono So fun b _ x=>S1 b x⟩
  |view ds=>exact v2
  |tmp d=>exact v2
def Sub.of {σ σ':L2.St}{is:List Nat} (hl:σ'.length=σ.length) (h1:∀j,j∉is->σ'[j]?=σ[j]?) (h2:∀j∈is,∀v,σ[j]?≠some (some v)):Sub σ σ':=⟨hl,fun i v e=>by
 by_cases hi:i∈is
 ·exact absurd e (h2 i hi v)
 ·rw[h1 i hi];exact e⟩
structure ItOkC (K:Za) (H0:Hp) (B:Addr->Prop) (H1:Hp) (σ:L2.St) (γ:Γ) (J:It) (n:Nat) (item:Nat->S):Prop where
 go:∀(i:Nat) (H':Hp) (Z':Addr->Prop),i<n->Same H1 H'->Later H0 (zof B γ σ) H1 Z' H'->J.go i H'/\∀x H'',J.yld i H' x H''->Same H' H''/\TV K Z' H0 H' H'' (item i) x
 stop:∀(H':Hp) (Z':Addr->Prop),Same H1 H'->Later H0 (zof B γ σ) H1 Z' H'->J.stop n H'
def Bj(K:Za)(mg:Str->Option Value)(E:L2.St->XK)(wi:TI)(it:PTI):Prop:=∀(H0:Hp) (B:Addr->Prop) (H:Hp) (σ:L2.St) (γ:Γ) (R:Nat->(Nat->S)->Prop) (X:XR) (Q:It->Hp->Prop),EnvR K H0 B H σ γ->it γ R X->
 (∀n item J H1,R n item->Same H H1->ItOkC K H0 B H1 σ γ J n item->Q J H1)->(∀c H',X c->Same H H'->E σ (.ref (ExcR.JU mg c)) none H')->wi σ H Q
def SndI.c {wi:TI}{it:PTI} (h:SndI K mg E wi it):Bj K mg E wi it:=fun H0 B H σ γ R X Q env p q qx=>
 h H0 B H σ γ R X Q env p (fun n item J H1 hR S1 ok=>q n item J H1 hR S1 ⟨fun i H' Z' hi _ lt=>ok.go i H' Z' hi lt,fun H' Z' _ lt=>ok.stop H' Z' lt⟩) qx
def pILc(a:PTE):PTI:=fun γ R X=>a γ (fun s=>match s.d with
 | .lst ds=>R ds.length fun i=>s.sub (ds.getD i .non)
 | .tup ds=>False
 | .scr ns=>R ns.length fun i=>.sh (.int (ns.getD i 0))
 |_=>False) X
def Xm{te:TE}{a:PTE}(ha:SndE K mg E te a):Bj K mg E (SK K te) (pILc a):=by
 intro H0 B H σ γ R X Q env h q qx;refine ha H0 B H σ γ _ X _ env h (fun s v H1 h1 S1 t1=>?_) qx;have env1:=env.grow S1;split at h1
 ·rename_i ds ed;have rv:=t1.rp env1.same;rw[ed]at rv;obtain⟨l,vs,rfl,hl1,r1⟩:=rv.lst_inv;refine⟨l,rfl,⟨vs,SqL.of hl1⟩,q _ _ _ H1 h1 S1 ⟨fun i H' Z' hi S2 lt=>?_,fun H' Z' S2 lt=>⟨vs,SqL.of (S2 _ _ hl1),by rw[r1.len];exact Y3 _⟩⟩⟩;have hd:ds[i]?=some (ds.getD i .non):=by rw[Yw,Yt hi];rfl
  have hi':∃u,vs[i]?=some u/\TV K Z' H0 H' H' (s.sub (ds.getD i .non)) u:=by
   cases s with
   |bor d=>
    have t1:=Rp.strip t1;rw[show d.strip=.lst ds from ed]at t1
    obtain⟨l',vs',e',h3,r3⟩:=Rp.lst_inv t1;cases e'
    rw[env1.same _ _ h3]at hl1;cases hl1
    obtain⟨u,h4,h5⟩:=r3.get hd;exact⟨u,h4,argR lt.2.1 lt.1 h5⟩
   |sh d=>
    have:d=.lst ds:=ed
    subst this;obtain⟨l',vs',e',h3,r3⟩:=Rp.lst_inv t1;cases e'
    rw[off_sub _ _ h3]at hl1;cases hl1
    obtain⟨u,h4,h5⟩:=r3.get hd;exact⟨u,h4,Rp.mono lt.off h5⟩
   |own es=>
    cases es with
    |dK es=>cases ed
    |dT es=>cases ed
    |ins x C xs cs=>cases ed
    |nst cs=>cases ed
    |lsA x es=>
     cases ed
     obtain⟨l',e',h0,_,vs',h3,r3⟩:=t1;cases e'
     rw[h3]at hl1;cases hl1
     obtain⟨u,h4,h5⟩:=r3.get hd;exact⟨u,h4,Rp.mono lt.off (Rp.mono (Uo (Same.refl _) fun b _ _ z y=>z (.inl y)) h5)⟩
    |lst es=>
    cases ed
    obtain⟨l',e',h0,vs',h3,r3⟩:=t1;cases e'
    rw[h3]at hl1;cases hl1
    obtain⟨u,h4,h5⟩:=r3.get hd;exact⟨u,h4,Rp.mono lt.off (Rp.mono (Uo (Same.refl _) fun b _ _ z y=>z (.inl y)) h5)⟩
   |view es=>
    cases es with
    |dK es=>cases ed
    |dT es=>cases ed
    |ins x C xs cs=>cases ed
    |nst cs=>cases ed
    |lsA x es=>
     cases ed
     obtain⟨l',e',_,vs',h3,r3⟩:=t1;cases e'
     rw[h3]at hl1;cases hl1
     obtain⟨u,h4,h5⟩:=r3.get hd;exact⟨u,h4,Rp.mono lt.off h5⟩
    |lst es=>
    cases ed
    obtain⟨l',e',vs',h3,r3⟩:=t1;cases e'
    rw[h3]at hl1;cases hl1
    obtain⟨u,h4,h5⟩:=r3.get hd;exact⟨u,h4,Rp.mono lt.off h5⟩
   |tmp d=>
    have:d=.lst ds:=ed
    subst this;obtain⟨l',vs',e',h3,r3⟩:=Rp.lst_inv t1;cases e'
    rw[h3]at hl1;cases hl1
    obtain⟨u,h4,h5⟩:=r3.get hd;exact⟨u,h4,Pm lt.2.1 (Rp.mono S2 h5)⟩
  obtain⟨u,hu,tu⟩:=hi';refine⟨⟨vs,u,SqL.of (S2 _ _ hl1),hu⟩,fun x H'' y=>?_⟩;obtain⟨rfl,y⟩:=y
  have:=y vs (SqL.of (S2 _ _ hl1))
  rw[hu]at this;cases this
  exact⟨Same.refl _,tu⟩
 ·exact h1.elim
 ·rename_i ns ed;have rv:=t1.rp env1.same;rw[ed]at rv;cases rv with
  |scr hs=>
   refine⟨_,rfl,⟨_,hs⟩,q _ _ _ H1 h1 S1 ⟨fun i H' Z' hi S2 lt=>?_,fun H' Z' S2 lt=>⟨_,S2.seq hs,by rw[Yu];exact Y3 _⟩⟩⟩
   have hu:(ns.map V.int)[i]?=some (.int (ns.getD i 0)):=by
    rw[Y6,Yt hi,Yw,Yt hi];rfl
   refine⟨⟨_,_,S2.seq hs,hu⟩,fun x H'' y=>?_⟩;obtain⟨rfl,y⟩:=y
   have:=y _ (S2.seq hs)
   rw[hu]at this;cases this
   exact⟨Same.refl _,.int _⟩
 ·exact h1.elim
def UD{φ:List (Option Nat)}{is:List Nat}{wi:TI}{g:TG}{tc:TT}{te:TE}{it:PTI}{pg:PTG}{c:PTT}{a:PTE}(hi:Bj K mg E wi it)(hg:Pp K is g pg)(hc:SndT K mg E tc c)(he:SndE K mg E te a)(h1:(φ.filterMap id).Nodup:=by decide)(h2:∀j∈is,φ[j]?=some none:=by decide):SndE K mg E (NJ φ wi g tc te) (LS φ it pg c a):=by
 intro H0 B H σ γ R X Q env h q qx;refine hi H0 B H σ γ _ X _ env h (fun n item J H1 h1' S1 ok=>?_) qx;obtain⟨hn,f,hf,hR⟩:=h1'.w;have env1:=env.grow S1;have hbig:n<=sizeLine:=Y8 hn (by decide);intro L nL;refine⟨fun i m ys H2=>m=n-i/\i<=n/\Same H1 H2/\H2 L=some (.lst ys)/\Rps K (off (fun b=>zof B γ σ b\/b=L) H2) ((List.range i).filterMap f) ys,⟨n,by simp,WA _,Xe nL,UJ,.nil⟩,?_⟩;rintro i m ys H2 ⟨rfl,hin,S2,hL,hys⟩;have env2:=env1.grow S2;by_cases hlt:i<n
 ·have envI2:=Ry (φ:=φ) env1 S2 nL ⟨ys,hL⟩ h1;obtain⟨go,yl⟩:=ok.go i H2 _ hlt S2 ⟨env2.same,envI2.zm,fun b o hb z=>⟨S2 _ _ hb,Ga env1 nL b o hb z⟩⟩;refine .inr ⟨go,fun x H3 y=>?_⟩;obtain⟨S3,tv⟩:=yl x H3 y;refine hg H0 _ H2 H3 _ _ _ _ _ _ envI2 S3 tv (hf i hlt) fun σ2 γ2 p2 e2 f2 k2=>⟨?_,?_⟩
  ·refine Sub.of (is:=is) k2.2 k2.1 fun j hj v z=>?_;obtain⟨k,k1,_⟩:=Iu z;rw[h2 j hj]at k1;cases k1
  ·refine hc H0 _ H3 σ2 γ2 _ _ _ e2 p2 (fun b H5 q5 S5=>?_) fun _ _ z=>z.elim;have e5:=e2.grow S5;cases b with
   |false=>
    rw[Yx YG]at q5 ⊢;refine⟨n-(i+1),by omega,rfl,hlt,(S2.trans S3).trans S5,(S3.trans S5) _ _ hL,?_⟩;rw[List.range_succ,Q7];simp only[WY,q5,List.filterMap_nil,Wl];exact Rps.mono (Uo (S3.trans S5) fun _ _ _ z=>z) hys
   |true=>
    rw[Yz rfl]at q5 ⊢;refine he H0 _ H5 σ2 γ2 _ _ _ e5 q5 (fun s v H6 q6 S6 t6=>?_) fun _ _ z=>z.elim;obtain⟨d,hd,hfd⟩:=q6;have S26:=(S3.trans S5).trans S6;have hr:=t6.shd (e5.grow S6).same e5.zm S6 hd
    have hlen:ys.length<=i:=by
     rw[hys.len];exact Y8 (List.length_filterMap_le _ _) (by rw[Q3];exact Y3 _)
    refine⟨S26 _ _ hL,by omega,n-(i+1),by omega,rfl,hlt,fun b o hb=>?_,UJ,?_⟩
    ·rw[Uv (Kb hb nL)];exact S26 _ _ (S2 _ _ hb)
    ·rw[List.range_succ,Q7];have ef:[i].filterMap f=[d]:=by simp[hfd]
     rw[ef]
     have So:Same (off (fun b=>zof B γ σ b\/b=L) H6) (off (fun b=>zof B γ σ b\/b=L) (upd H6 L (.lst (ys++[v])))):=fun b o h=>by
      obtain⟨a1,a2⟩:=Ki h;refine UQ ?_ a2;rw[Uv fun z=>a2 (.inr z)];exact a1
     refine Rps.append (Rps.mono So (Rps.mono (Uo S26 fun _ _ _ z=>z) hys)) (.cons (Rp.mono So (Rp.mono (Uo (Same.refl _) fun b _ _ z y=>z (.inl y)) hr)) .nil)
 ·have:i=n:=by omega
  subst this;exact .inl ⟨ok.stop H2 _ S2 (Later.of env2 (Fr.grow S2)),q _ _ H2 hR (S1.trans S2) ⟨L,rfl,(fun _ e=>e▸S1.free nL),ys,hL,hys⟩⟩
def pYes:PTT:=fun _ R _=>R true
def XC:SndT K mg E HA pYes:=fun _ _ H _ _ _ _ _ _ p q _=>q _ H p (Same.refl _)
def Zaw{α β:Type}(xs:List α)(f:α->Option β):(List.range xs.length).filterMap (fun i=>(xs[i]?).bind f)=xs.filterMap f:=by
 induction xs with
 |nil=>rfl
 |cons x r ih=>
  rw[YF,List.range_succ_eq_map,WY,List.filterMap_map,WY]
  have e:(fun i=>((x::r)[i]?).bind f)∘Nat.succ=fun i=>(r[i]?).bind f:=by
   funext i;simp
  rw[e,ih];rfl
end
open M
section
variable {K:Za}{mg:Str->Option Value}{E:L2.St->XK}{H0 H H1 H':Hp}{B Z Z':Addr->Prop}{σ:L2.St}{γ:Γ}
def pCB(f:List S->(S->Prop)->Prop)(r:PTA):PTE:=fun γ R X=>r γ (fun ss=>f ss R) X
def Kh{rr:List V->Hp->VK->Prop}{f:List S->(S->Prop)->Prop}{ta:TA}{r:PTA}(hr:SndA K mg E ta r)(h:∀(H0 H H1:Hp) (Z:Addr->Prop) (ss:List S) (vs:List V) (R:S->Prop) (Q:VK),Same H0 H1->Same H H1->(∀b,Z b->Mut (H b))->TVs K Z H0 H H1 ss vs->f ss R->(∀s z H',R s->Same H1 H'->TV K Z H0 H H' s z->Q z H')->rr vs H1 Q) :
  SndE K mg E (tCB rr ta) (pCB f r):=by
 intro H0 B H σ γ R X Q env p q qx;refine hr H0 B H σ γ _ X _ env p (fun ss vs H1 h1 S1 t1=>?_) qx;exact h H0 H H1 _ ss vs R Q (env.grow S1).same S1 env.zm t1 h1 fun s z H' hs S2 tv=>q s z H' hs (S1.trans S2) tv
def S.free:S->List D->Bool
 | .bor _,ds=>imms ds | .tmp _,ds=>imms ds | .view (.nst _),ds=>imms ds|_,_=>true
def TVs.one_inv {s:S}{vs:List V} (h:TVs K Z H0 H H' [s] vs):∃v,vs=[v]/\TV K Z H0 H H' s v:=by
 cases h with
 |cons h r=>cases r;exact⟨_,rfl,h⟩
def TVs.two_inv {s t:S}{vs:List V} (h:TVs K Z H0 H H' [s,t] vs):∃v u,vs=[v,u]/\TV K Z H0 H H' s v/\TV K Z H0 H H' t u:=by
 cases h with
 |cons h r=>cases r with|cons h2 r=>cases r;exact⟨_,_,rfl,h,h2⟩
def TV.items {s:S}{v:V}{ds:List D} (h0:Same H0 H') (hm:∀b,Z b->Mut (H b)) (S1:Same H H') (h:TV K Z H0 H H' s v) (hf:s.free ds=true) :
  (s.d=.lst ds->∃a vs,v=.ref a/\H' a=some (.lst vs)/\Rps K (off Z H') ds vs)/\(s.d=.tup ds->∃a vs,v=.ref a/\H' a=some (.tup vs)/\Rps K (off Z H') ds vs):=by
 have hm':∀b,Z b->Mut (H' b):=fun b z=>Ko S1 (hm b z);cases s with
 |bor d=>
  have h:=Rp.strip h;refine⟨fun e=>?_,fun e=>?_⟩<;>rw[show d.strip=_ from e]at h
  ·obtain⟨a,vs,rfl,h1,r⟩:=Rp.lst_inv h;exact⟨a,vs,rfl,h0 _ _ h1,Rps.off hm' (Rps.mono h0 r) hf⟩
  ·obtain⟨a,vs,rfl,h1,r⟩:=Rp.tup_inv h;exact⟨a,vs,rfl,h0 _ _ h1,Rps.off hm' (Rps.mono h0 r) hf⟩
 |sh d=>
  refine⟨fun e=>?_,fun e=>?_⟩<;>(have e':d=_:=e;subst e')
  ·obtain⟨a,vs,rfl,h1,r⟩:=Rp.lst_inv h;exact⟨a,vs,rfl,off_sub _ _ h1,r⟩
  ·obtain⟨a,vs,rfl,h1,r⟩:=Rp.tup_inv h;exact⟨a,vs,rfl,off_sub _ _ h1,r⟩
 |own es=>
  cases es with
  |dK es=>exact⟨(fun e=>by cases e),(fun e=>by cases e)⟩
  |dT es=>exact⟨(fun e=>by cases e),(fun e=>by cases e)⟩
  |ins x C xs cs=>exact⟨(fun e=>by cases e),(fun e=>by cases e)⟩
  |nst cs=>
   refine⟨(fun e=>by cases e),fun e=>?_⟩;have h2:=h.shd h0 hm S1 (d:=.tup (cs.map fun c=>.lst c.2)) rfl;cases e
   obtain⟨a,vs,rfl,h1,r⟩:=Rp.tup_inv h2;exact⟨a,vs,rfl,off_sub _ _ h1,r⟩
  |lst es=>
   refine⟨fun e=>?_,fun e=>by cases e⟩;cases e
   obtain⟨a,rfl,e0,vs,e,r⟩:=h;exact⟨a,vs,rfl,e,Rps.mono (Uo (Same.refl _) fun b _ _ z y=>z (.inl y)) r⟩
  |lsA x es=>
   refine⟨fun e=>?_,fun e=>by cases e⟩;cases e
   obtain⟨a,rfl,e0,_,vs,e,r⟩:=h;exact⟨a,vs,rfl,e,Rps.mono (Uo (Same.refl _) fun b _ _ z y=>z (.inl y)) r⟩
 |view es=>
  cases es with
  |dK es=>exact⟨(fun e=>by cases e),(fun e=>by cases e)⟩
  |dT es=>exact⟨(fun e=>by cases e),(fun e=>by cases e)⟩
  |ins x C xs cs=>exact⟨(fun e=>by cases e),(fun e=>by cases e)⟩
  |nst cs=>
   refine⟨(fun e=>by cases e),fun e=>?_⟩;have h2:=h.rp h0;rw[e]at h2;obtain⟨a,vs,rfl,h1,r⟩:=Rp.tup_inv h2;exact⟨a,vs,rfl,h1,Rps.off hm' r hf⟩
  |lst es=>
   refine⟨fun e=>?_,fun e=>by cases e⟩;cases e
   obtain⟨a,rfl,vs,e,r⟩:=h;exact⟨a,vs,rfl,e,r⟩
  |lsA x es=>
   refine⟨fun e=>?_,fun e=>by cases e⟩;cases e
   obtain⟨a,rfl,_,vs,e,r⟩:=h;exact⟨a,vs,rfl,e,r⟩
 |tmp d=>
  refine⟨fun e=>?_,fun e=>?_⟩<;>(have e':d=_:=e;subst e')
  ·obtain⟨a,vs,rfl,h1,r⟩:=Rp.lst_inv h;exact⟨a,vs,rfl,h1,Rps.off hm' r hf⟩
  ·obtain⟨a,vs,rfl,h1,r⟩:=Rp.tup_inv h;exact⟨a,vs,rfl,h1,Rps.off hm' r hf⟩
def fLen:List S->(S->Prop)->Prop
 |[s],R=>(match s.d with
  | .lst ds=>R (.sh (.int ds.length)) | .tup ds=>R (.sh (.int ds.length)) | .scr ns=>R (.sh (.int ns.length)) | .str x=>x.length<=sizeLine/\R (.sh (.int x.length))|_=>False)
 |_,_=>False
def Uy{ta:TA}{r:PTA}(hr:SndA K mg E ta r):SndE K mg E (tCB (fun xs H Q=>∃x n,xs=[x]/\LenV K x H n/\Q (.int n) H) ta) (pCB fLen r):=by
 refine Kh hr fun H0 H H1 Z ss vs R Q s0 s1 hm tv h q=>?_;unfold fLen at h;split at h
 ·rename_i s;obtain⟨v,rfl,t1⟩:=tv.one_inv;have rv:=t1.rp s0;split at h
  ·rename_i ds e;rw[e]at rv;obtain⟨a,us,rfl,h1,r1⟩:=rv.lst_inv;exact⟨_,_,rfl,.inl ⟨us,SqL.of h1,rfl⟩,by rw[r1.len];exact q _ _ H1 h (Same.refl _) (.int _)⟩
  ·rename_i ds e;rw[e]at rv;obtain⟨a,us,rfl,h1,r1⟩:=rv.tup_inv;exact⟨_,_,rfl,.inr ⟨us,SqT.of h1,rfl⟩,by rw[r1.len];exact q _ _ H1 h (Same.refl _) (.int _)⟩
  ·rename_i ns e;rw[e]at rv;cases rv with
   |scr hs=>exact⟨_,_,rfl,.inl ⟨_,hs,rfl⟩,by rw[Yu];exact q _ _ H1 h (Same.refl _) (.int _)⟩
  ·rename_i x e;rw[e]at rv;rw[rv.str_inv];exact⟨_,_,rfl,⟨h.1,rfl⟩,q _ _ H1 h.2 (Same.refl _) (.int _)⟩
  ·exact h.elim
 ·exact h.elim
def Ek:List S->(S->Prop)->Prop
 |[s],R=>(match s.d with
  | .lst ds=>s.free ds=true/\R (.own ds) | .tup ds=>s.free ds=true/\R (.own ds)|_=>False)
 |_,_=>False
def Tg{ta:TA}{r:PTA}(hr:SndA K mg E ta r):SndE K mg E (tCB (fun xs H Q=>∃p ys,xs=[.ref p]/\(SqL K H p ys\/SqT K H p ys)/\∀l,H l=none->Q (.ref l) (upd H l (.lst ys))) ta) (pCB Ek r):=by
 refine Kh hr fun H0 H H1 Z ss vs R Q s0 s1 hm tv h q=>?_;unfold Ek at h;split at h
 ·rename_i s;obtain⟨v,rfl,t1⟩:=tv.one_inv;split at h
  ·rename_i ds e;obtain⟨a,us,rfl,h1,r1⟩:=(t1.items s0 hm s1 h.1).1 e;exact⟨a,us,rfl,.inl (SqL.of h1),fun l nl=>q _ _ _ h.2 (Xe nl) (KR s1 nl r1)⟩
  ·rename_i ds e;obtain⟨a,us,rfl,h1,r1⟩:=(t1.items s0 hm s1 h.1).2 e;exact⟨a,us,rfl,.inr (SqT.of h1),fun l nl=>q _ _ _ h.2 (Xe nl) (KR s1 nl r1)⟩
  ·exact h.elim
 ·exact h.elim
def Hv:List S->(S->Prop)->Prop
 |[s],R=>(match s.d with
  | .lst ds=>s.free ds=true/\R (.sh (.tup ds)) | .tup ds=>s.free ds=true/\R (.sh (.tup ds))|_=>False)
 |_,_=>False
def EW{ta:TA}{r:PTA}(hr:SndA K mg E ta r):SndE K mg E (tCB (fun xs H Q=>∃p ys,xs=[.ref p]/\((SqL K H p ys/\∀l,H l=none->Q (.ref l) (upd H l (.tup ys)))\/(SqT K H p ys/\Q (.ref p) H))) ta) (pCB Hv r):=by
 refine Kh hr fun H0 H H1 Z ss vs R Q s0 s1 hm tv h q=>?_;have hm':∀b,Z b->Mut (H1 b):=fun b z=>Ko s1 (hm b z);unfold Hv at h;split at h
 ·rename_i s;obtain⟨v,rfl,t1⟩:=tv.one_inv;split at h
  ·rename_i ds e;obtain⟨a,us,rfl,h1,r1⟩:=(t1.items s0 hm s1 h.1).1 e;refine⟨a,us,rfl,.inl ⟨SqL.of h1,fun l nl=>q _ _ _ h.2 (Xe nl) (.tup (UQ UJ fun z=>?_) (Rps.mono (Uo (Xe nl) fun _ _ _ z=>z) r1))⟩⟩
   have:=hm' l z
   rw[nl]at this;exact this
  ·rename_i ds e;obtain⟨a,us,rfl,h1,r1⟩:=(t1.items s0 hm s1 h.1).2 e;refine⟨a,us,rfl,.inr ⟨SqT.of h1,q _ _ _ h.2 (Same.refl _) (.tup (UQ h1 fun z=>?_) r1)⟩⟩
   have:=hm' a z
   rw[h1]at this;exact this
  ·exact h.elim
 ·exact h.elim
def Rps.ints {K:Za}{H:Hp}:∀{js:List Int}{vs:List V},Rps K H (js.map D.int) vs->vs=js.map V.int
 |[],_,.nil=>rfl
 |j::r,_,.cons h t=>by rw[Rp.int_inv h,Rps.ints t];rfl
def Rps.of_ints {K:Za}{H:Hp}:∀(js:List Int),Rps K H (js.map D.int) (js.map V.int)
 |[]=>.nil
 |j::r=>.cons (.int j) (Rps.of_ints r)
def Hu:List S->(S->Prop)->Prop
 |[s],R=>∃js:List Int,s.d=.lst (js.map D.int)/\js.length<64/\∀ns:List Int,ns.Perm js->ns.Pairwise (·<=·)->R (.own (ns.map D.int))
 |_,_=>False
def NM{w:World}{ta:TA}{r:PTA}(hr:SndA K mg E ta r):SndE K mg E (tCB (fun xs H Q=>∃(p:Addr) (js:List Int),xs=[.ref p]/\js.length<64/\(SqL K H p (js.map V.int)\/H p=some (SetH w p js))/\
  ∀(l:Addr) (ns:List Int),H l=none->ns.Perm js->ns.Pairwise (·<=·)->Q (.ref l) (upd H l (.lst (ns.map V.int)))) ta) (pCB Hu r):=by
 refine Kh hr fun H0 H H1 Z ss vs R Q s0 s1 hm tv h q=>?_;unfold Hu at h;split at h
 ·rename_i s;obtain⟨v,rfl,t1⟩:=tv.one_inv;obtain⟨js,e,hz,k⟩:=h;have rv:=t1.rp s0;rw[e]at rv;obtain⟨a,us,rfl,h1,r1⟩:=rv.lst_inv;rw[r1.ints]at h1;exact⟨a,js,rfl,hz,.inl (SqL.of h1),fun l ns nl hp hs=>q _ _ _ (k ns hp hs) (Xe nl) (KR s1 nl (Rps.of_ints ns))⟩
 ·exact h.elim
def GJ:List S->(S->Prop)->Prop
 |[s,t],R=>(match s.d,t.d with | .int i,.int j=>R (.sh (.int (if j>i then j else i)))|_,_=>False)
 |_,_=>False
def Io{ta:TA}{r:PTA}(hr:SndA K mg E ta r):SndE K mg E (tCB (fun xs H Q=>∃i j,xs=[.int i,.int j]/\Q (.int (if j>i then j else i)) H) ta) (pCB GJ r):=by
 refine Kh hr fun H0 H H1 Z ss vs R Q s0 s1 hm tv h q=>?_;unfold GJ at h;split at h
 ·obtain⟨v,u,rfl,t1,t2⟩:=tv.two_inv;have r1:=t1.rp s0;have r2:=t2.rp s0;split at h
  ·rename_i i j e1 e2;rw[e1]at r1;rw[e2]at r2;rw[r1.int_inv,r2.int_inv];exact⟨i,j,rfl,q _ _ H1 h (Same.refl _) (.int _)⟩
  ·exact h.elim
 ·exact h.elim
def fAbs:List S->(S->Prop)->Prop
 |[s],R=>(match s.d with | .int i=>R (.sh (.int (if i<0 then -i else i)))|_=>False)
 |_,_=>False
def tyD:D->Option String
 | .int _=>some "int" | .bl _=>some "bool" | .non=>some "NoneType" | .str _=>some "str" | .tup _=>some "tuple" | .lst _=>some "list" | .dK _=>some "dict" | .dT _=>some "dict" |_=>none
inductive IsiR:String->String->Bool->Prop
 |same (n:String):IsiR n n true
 |ib:IsiR "int" "bool" false
 |bi:IsiR "bool" "int" true
 |tl:IsiR "tuple" "list" false
 |lt:IsiR "list" "tuple" false
 |it:IsiR "int" "tuple" false
 |il:IsiR "int" "list" false
 |bt:IsiR "bool" "tuple" false
 |bL:IsiR "bool" "list" false
 |ti:IsiR "tuple" "int" false
 |li:IsiR "list" "int" false
 |si:IsiR "str" "int" false
 |is:IsiR "int" "str" false
 |ni:IsiR "NoneType" "int" false
 |nl:IsiR "NoneType" "list" false
 |nt:IsiR "NoneType" "tuple" false
def IsiR.kit {m n:String}{b:Bool} (h:IsiR m n b):PySem.W.kitOne K (.type m) (.type n)=some b:=by
 cases h with
 |same=>exact Zel K _
 |_=>rfl
def fIsi:List S->(S->Prop)->Prop
 |[s,t],R=>(match tyD s.d,t.d with|some m,.ty n=>∃b,IsiR m n b/\R (.sh (.bl b))|_,_=>False)
 |_,_=>False
def Zf1{d:D}{v:V}{m:String}(h:Rp K H d v)(e:tyD d=some m):TyOf K H v (.type m):=by
 cases h with
 |int i=>cases e;exact .int i
 |bl b=>cases e;exact .bl b
 |non=>cases e;exact .non
 |str x=>cases e;exact .str x
 |ty n=>cases e
 |tup h r=>cases e;exact .tup h
 |lst h r=>cases e;exact .lst h
 |scr h=>cases e
 |dK h=>cases e;exact .dK h
 |dT h=>cases e;exact .dT h
 |dF h=>cases e
 |loc h=>cases e
 |err h=>cases e
 |ref a=>cases e
 |ins h q r=>cases e
def KE{ta:TA}{r:PTA}(hr:SndA K mg E ta r):SndE K mg E (tCB (fun xs H Q=>∃x n t b,xs=[x,.ty n]/\TyOf K H x t/\PySem.W.kitOne K t (.type n)=some b/\Q (.bl b) H) ta) (pCB fIsi r):=by
 refine Kh hr fun H0 H H1 Z ss vs R Q s0 s1 hm tv h q=>?_;unfold fIsi at h;split at h
 ·obtain⟨v,u,rfl,t1,t2⟩:=tv.two_inv;have r1:=t1.rp s0;have r2:=t2.rp s0;split at h
  ·rename_i m n e1 e2;rw[e2]at r2;rw[r2.ty_inv];obtain⟨b,k,hR⟩:=h;exact⟨v,n,_,b,rfl,Zf1 r1 e1,k.kit,q _ _ H1 hR (Same.refl _) (.bl _)⟩
  ·exact h.elim
 ·exact h.elim
def Cm:List S->(S->Prop)->Prop
 |[s,t],R=>(match s.d,t.d with | .int i,.int j=>(-(2 ^ 62)<=i/\i<2 ^ 62/\-(2 ^ 62)<=j/\j<2 ^ 62)/\(j-i).toNat<=1000000/\R (.own ((runI i (j-i).toNat).map D.int))|_,_=>False)
 |_,_=>False
abbrev Ze5:List V->Hp->VK->Prop:=fun xs H Q=>∃(r:Addr) (i j:Int),xs=[.ref r]/\H r=some (.rng i j)/\(-(2 ^ 62)<=i/\i<2 ^ 62/\-(2 ^ 62)<=j/\j<2 ^ 62)/\(j-i).toNat<=1000000/\∀l,H l=none->Q (.ref l) (upd H l (.lst ((runI i (j-i).toNat).map V.int)))
def Ll{ta:TA}{r:PTA}(hr:SndA K mg E ta r):SndE K mg E (tCB Ze5 (Xc (tCB (fun xs H Q=>∃i j:Int,xs=[.int i,.int j]/\∀r,H r=none->Q (.ref r) (upd H r (.rng i j))) ta) tNil)) (pCB Cm r):=by
 intro H0 B H σ γ R X Q env p q qx;refine hr H0 B H σ γ _ X _ env p (fun ss vs H1 h1 S1 t1=>?_) qx;have s0:=(env.grow S1).same;unfold Cm at h1;split at h1
 ·obtain⟨v,u,rfl,t1',t2'⟩:=t1.two_inv;have r1:=t1'.rp s0;have r2:=t2'.rp s0;split at h1
  ·rename_i i j e1 e2;rw[e1]at r1;rw[e2]at r2;rw[r1.int_inv,r2.int_inv];refine⟨i,j,rfl,fun a na=>⟨a,i,j,rfl,UJ,h1.1,h1.2.1,fun l nl=>?_⟩⟩;have S2:=Xe (o:=.rng i j) na;exact q _ _ _ h1.2.2 ((S1.trans S2).trans (Xe nl)) (KR (S1.trans S2) nl (Rps.of_ints _))
  ·exact h1.elim
 ·exact h1.elim
def pBM(f:S->List S->(S->Prop)->Prop)(a:PTE)(r:PTA):PTE:=fun γ R X=>a γ (fun s=>(∃ds,s.d=.lst ds)/\r γ (fun ss=>f s ss R) X) X
def Zat{rr:V->List V->Hp->VK->Prop}{f:S->List S->(S->Prop)->Prop}{te:TE}{ta:TA}{a:PTE}{r:PTA}(ha:SndE K mg E te a)(hr:SndA K mg E ta r)(h:∀(H0 H H1:Hp) (Z:Addr->Prop) (s:S) (v:V) (ss:List S) (vs:List V) (R:S->Prop) (Q:VK),Same H0 H1->Same H H1->(∀b,Z b->Mut (H b))->TV K Z H0 H H1 s v->TVs K Z H0 H H1 ss vs->f s ss R->(∀s z H',R s->Same H1 H'->TV K Z H0 H H' s z->Q z H')->rr v vs H1 Q) :
  SndE K mg E (tBM K "list" rr te ta) (pBM f a r):=by
 intro H0 B H σ γ R X Q env p q qx;refine ha H0 B H σ γ _ X _ env p (fun s v H1 h1 S1 t1=>?_) qx;have env1:=env.grow S1;obtain⟨⟨ds,ed⟩,h1⟩:=h1;have rv:=t1.rp env1.same;rw[ed]at rv;obtain⟨l,us,rfl,hl,_⟩:=rv.lst_inv;refine⟨.inl ⟨rfl,us,SqL.of hl⟩,hr H0 B H1 σ γ _ X _ env1 h1 (fun ss vs H2 h2 S2 t2=>?_) fun c H' hc S'=>qx c H' hc (S1.trans S')⟩;exact h H0 H H2 _ s _ ss vs R Q (env1.grow S2).same (S1.trans S2) env.zm (t1.grow S2) (TVs.weakG S1 t2) h2 fun s z H' hs S3 tv=>q s z H' hs ((S1.trans S2).trans S3) tv
def DP:S->List S->(S->Prop)->Prop:=fun s ss R=>match ss with
 |[t]=>(match t.d with | .int z=>∃xs:List Int,s.d=.lst (xs.map D.int)/\z∈xs/\R (.sh (.int (xs.idxOf z:Nat)))|_=>False)
 |_=>False
def Tx{te:TE}{ta:TA}{a:PTE}{r:PTA}(ha:SndE K mg E te a)(hr:SndA K mg E ta r):SndE K mg E (tBM K "list" (F0 K) te ta) (pBM DP a r):=by
 refine Zat ha hr fun H0 H H1 Z s v ss vs R Q s0 s1 hm t1 t2 h q=>?_;unfold DP at h;split at h
 ·obtain⟨u,rfl,t2'⟩:=t2.one_inv;have r2:=t2'.rp s0;split at h
  ·rename_i z e;rw[e]at r2;obtain⟨xs,ex,hz,hR⟩:=h;have r1:=t1.rp s0;rw[ex]at r1;obtain⟨l,us,rfl,hl,r1⟩:=r1.lst_inv;rw[r1.ints]at hl;exact⟨l,xs,z,rfl,by rw[r2.int_inv],SqL.of hl,hz,q _ _ H1 hR (Same.refl _) (.int _)⟩
  ·exact h.elim
 ·exact h.elim
def prD(p:Int×Int):D:=.tup [.int p.1,.int p.2]
inductive InR:D->D->Bool->Prop
 |li (i:Int) (hs:List Int):InR (.int i) (.lst (hs.map D.int)) (decide (i∈hs))
 |ti (i:Int) (hs:List Int):InR (.int i) (.tup (hs.map D.int)) (decide (i∈hs))
 |lp (q:Int×Int) (ps:List (Int×Int)):InR (prD q) (.lst (ps.map prD)) (decide (q∈ps))
def fIn(neg:Bool):S->S->(S->Prop)->Prop:=fun x y R=>∃b,InR x.d y.d b/\R (.sh (.bl (if neg then !b else b)))
def Rp.pair {q:Int×Int}{v:V} (h:Rp K H (prD q) v):XQ H v q:=by
 obtain⟨a,vs,rfl,h1,r⟩:=Rp.tup_inv h;obtain⟨x,y,rfl,r1,r2⟩:=r.two_inv;rw[r1.int_inv,r2.int_inv]at h1;exact⟨a,rfl,h1⟩
def Rps.lv {K:Za}{H:Hp}{ps:List (Int×Int)}{vs:List V} (h:Rps K H (ps.map prD) vs):LV XQ H vs ps:=by
 refine⟨by rw[h.len,Yu],fun i p hp=>?_⟩;obtain⟨v,h1,h2⟩:=h.get (i:=i) (d:=prD p) (by rw[Y6,hp];rfl);exact⟨v,h1,h2.pair⟩
def XG{neg:Bool}{ta tb:TE}{a b:PTE}(ha:SndE K mg E ta a)(hb:SndE K mg E tb b):SndE K mg E (tOp (fun x y H Q=>rIn K neg x y H Q\/rInP neg x y H Q) ta tb) (p2 a b (fIn neg)):=by
 refine se_2 ha hb fun H0 H H2 Z x y v u R Q s0 s1 hm tx ty h q=>?_;obtain⟨k,hk,hR⟩:=h;have rx:=tx.rp s0;have ry:=ty.rp s0;generalize ex:x.d=dx at hk rx;generalize ey:y.d=dy at hk ry;cases hk with
 |li i hs=>
  obtain⟨l,us,rfl,hl,r⟩:=ry.lst_inv;rw[r.ints]at hl;rw[rx.int_inv];refine .inl ⟨l,_,rfl,.inl (SqL.of hl),rfl,Pe _,?_⟩;rw[DM];exact q _ _ H2 hR (Same.refl _) (.bl _)
 |ti i hs=>
  obtain⟨l,us,rfl,hl,r⟩:=ry.tup_inv;rw[r.ints]at hl;rw[rx.int_inv];refine .inl ⟨l,_,rfl,.inr (SqT.of hl),rfl,Pe _,?_⟩;rw[DM];exact q _ _ H2 hR (Same.refl _) (.bl _)
 |lp p ps=>
  obtain⟨l,us,rfl,hl,r⟩:=ry.lst_inv;exact .inr ⟨l,ps,p,rfl,rx.pair,⟨us,hl,r.lv⟩,q _ _ H2 hR (Same.refl _) (.bl _)⟩
def fEqU(neg:Bool):S->S->(S->Prop)->Prop:=fun x y R=>match x.d,y.d with
 | .lst ds,.lst es=>∃xs ys:List Int,ds=xs.map D.int/\es=ys.map D.int/\R (.sh (.bl (if neg then !decide (xs=ys)else decide (xs=ys))))
 |_,_=>fEq neg x y R
def U4{ta tb:TE}{a b:PTE}(ha:SndE K mg E ta a)(hb:SndE K mg E tb b):SndE K mg E (tOp (fun x y H Q=>rEq x y H Q\/rEqL K false x y H Q) ta tb) (p2 a b (fEqU false)):=by
 refine se_2 ha hb fun H0 H H2 Z x y v u R Q s0 s1 hm tx ty h q=>?_;have rx:=tx.rp s0;have ry:=ty.rp s0;unfold fEqU at h;split at h
 ·rename_i ds es e1 e2;obtain⟨xs,ys,rfl,rfl,hR⟩:=h;rw[e1]at rx;rw[e2]at ry;obtain⟨l,us,rfl,hl,r⟩:=rx.lst_inv;obtain⟨m,ws,rfl,hm,r'⟩:=ry.lst_inv;rw[r.ints]at hl;rw[r'.ints]at hm;refine .inr ⟨l,m,_,_,rfl,rfl,SqL.of hl,SqL.of hm,Pe _,Pe _,?_⟩;rw[AL];exact q _ _ H2 hR (Same.refl _) (.bl _)
 ·refine .inl ?_;unfold fEq at h;split at h
  ·rename_i i j e1 e2;rw[e1]at rx;rw[e2]at ry;rw[rx.int_inv,ry.int_inv];refine⟨rfl,?_⟩;rw[PX (f:=V.int) fun _ _ z=>V.int.inj z];exact q _ _ H2 h (Same.refl _) (.bl _)
  ·rename_i i j e1 e2;rw[e1]at rx;rw[e2]at ry;rw[rx.str_inv,ry.str_inv];refine⟨rfl,?_⟩;rw[PX (f:=V.str) fun _ _ z=>V.str.inj z];exact q _ _ H2 h (Same.refl _) (.bl _)
  ·rename_i i j e1 e2;rw[e1]at rx;rw[e2]at ry;rw[rx.bl_inv,ry.bl_inv];refine⟨rfl,?_⟩;rw[PX (f:=V.bl) fun _ _ z=>V.bl.inj z];exact q _ _ H2 h (Same.refl _) (.bl _)
  ·exact h.elim
def XI{ta tb:TE}{a b:PTE}(ha:SndE K mg E ta a)(hb:SndE K mg E tb b):SndE K mg E (tOp (fun x y H Q=>rNe x y H Q\/rEqL K true x y H Q) ta tb) (p2 a b (fEqU true)):=by
 refine se_2 ha hb fun H0 H H2 Z x y v u R Q s0 s1 hm tx ty h q=>?_;have rx:=tx.rp s0;have ry:=ty.rp s0;unfold fEqU at h;split at h
 ·rename_i ds es e1 e2;obtain⟨xs,ys,rfl,rfl,hR⟩:=h;rw[e1]at rx;rw[e2]at ry;obtain⟨l,us,rfl,hl,r⟩:=rx.lst_inv;obtain⟨m,ws,rfl,hm,r'⟩:=ry.lst_inv;rw[r.ints]at hl;rw[r'.ints]at hm;refine .inr ⟨l,m,_,_,rfl,rfl,SqL.of hl,SqL.of hm,Pe _,Pe _,?_⟩;rw[AL];exact q _ _ H2 hR (Same.refl _) (.bl _)
 ·refine .inl ?_;unfold fEq at h;split at h
  ·rename_i i j e1 e2;rw[e1]at rx;rw[e2]at ry;rw[rx.int_inv,ry.int_inv];refine⟨rfl,?_⟩;rw[PX (f:=V.int) fun _ _ z=>V.int.inj z];exact q _ _ H2 h (Same.refl _) (.bl _)
  ·rename_i i j e1 e2;rw[e1]at rx;rw[e2]at ry;rw[rx.str_inv,ry.str_inv];refine⟨rfl,?_⟩;rw[PX (f:=V.str) fun _ _ z=>V.str.inj z];exact q _ _ H2 h (Same.refl _) (.bl _)
  ·rename_i i j e1 e2;rw[e1]at rx;rw[e2]at ry;rw[rx.bl_inv,ry.bl_inv];refine⟨rfl,?_⟩;rw[PX (f:=V.bl) fun _ _ z=>V.bl.inj z];exact q _ _ H2 h (Same.refl _) (.bl _)
  ·exact h.elim
abbrev tTru(K:Za)(ta:TE):TT:=fun σ H Q=>ta σ H fun x H'=>∃k,TruV K x H' k/\Q k H'
def pTru(a:PTE):PTT:=fun γ R X=>a γ (fun x=>match x.d with
 | .bl b=>R b | .lst ds=>R (!ds.isEmpty) | .tup ds=>R (!ds.isEmpty) | .int i=>R (i != 0) | .non=>R false|_=>False) X
def Bm{α β:Type}{l:List α}{m:List β}(h:l.length=m.length):l.isEmpty=m.isEmpty:=by
 cases l<;>cases m<;>simp at h ⊢
def UT{te:TE}{a:PTE}(ha:SndE K mg E te a):SndT K mg E (tTru K te) (pTru a):=by
 intro H0 B H σ γ R X Q env p q qx;refine ha H0 B H σ γ _ X _ env p (fun x v H1 h1 S1 t1=>?_) qx;have rx:=t1.rp (env.grow S1).same;split at h1
 ·rename_i b e;rw[e]at rx;rw[rx.bl_inv];exact⟨b,rfl,q _ H1 h1 S1⟩
 ·rename_i ds e;rw[e]at rx;obtain⟨l,us,rfl,hl,r⟩:=rx.lst_inv;exact⟨!us.isEmpty,.inl ⟨us,SqL.of hl,rfl⟩,by rw[Bm r.len];exact q _ H1 h1 S1⟩
 ·rename_i ds e;rw[e]at rx;obtain⟨l,us,rfl,hl,r⟩:=rx.tup_inv;exact⟨!us.isEmpty,.inr (.inl ⟨us,SqT.of hl,rfl⟩),by rw[Bm r.len];exact q _ H1 h1 S1⟩
 ·rename_i i e;rw[e]at rx;rw[rx.int_inv];exact⟨_,rfl,q _ H1 h1 S1⟩
 ·rename_i e;rw[e]at rx;rw[rx.non_inv];exact⟨_,rfl,q _ H1 h1 S1⟩
 ·exact h1.elim
def cutD{α:Type}(xs:List α)(lo hi:Option Int):List α:=(xs.drop (HT.sIx xs.length 0 lo)).take (HT.sIx xs.length xs.length hi-HT.sIx xs.length 0 lo)
def Zdx:PTO:=fun _ R _=>R none
def Zc9(a:PTE):PTO:=fun γ R X=>a γ (fun s=>match s.d with | .int i=>R (some i)|_=>False) X
def XE:SndO K mg E Eo Zdx:=fun _ _ H _ _ _ _ _ _ p q _=>q _ H p (Same.refl _)
def Xy{te:TE}{a:PTE}(ha:SndE K mg E te a):SndO K mg E (Hd te) (Zc9 a):=by
 intro H0 B H σ γ R X Q env p q qx;refine ha H0 B H σ γ _ X _ env p (fun x v H1 h1 S1 t1=>?_) qx;have rx:=t1.rp (env.grow S1).same;split at h1
 ·rename_i i e;rw[e]at rx;exact⟨i,rx.int_inv,q _ H1 h1 S1⟩
 ·exact h1.elim
def pSl(a:PTE)(l u:PTO):PTE:=fun γ R X=>a γ (fun s=>l γ (fun lo=>u γ (fun hi=>match s.d with | .lst ds=>s.free ds=true/\R (.own (cutD ds lo hi))|_=>False) X) X) X
def Rps.cut {ds:List D}{vs:List V}{lo hi:Option Int} (r:Rps K H ds vs):Rps K H (cutD ds lo hi) (cutV vs lo hi):=by
 unfold cutD cutV;rw[r.len];exact Rps.take _ (Rps.drop _ r)
def XH{te:TE}{tl th:TO}{a:PTE}{l u:PTO}(ha:SndE K mg E te a)(hl:SndO K mg E tl l)(hu:SndO K mg E th u):SndE K mg E (tSl (rSlL K) te tl th) (pSl a l u):=by
 intro H0 B H σ γ R X Q env p q qx;refine ha H0 B H σ γ _ X _ env p (fun x v H1 h1 S1 t1=>?_) qx;refine hl H0 B H1 σ γ _ X _ (env.grow S1) h1 (fun lo H2 h2 S2=>?_) fun c H' hc S'=>qx c H' hc (S1.trans S');refine hu H0 B H2 σ γ _ X _ ((env.grow S1).grow S2) h2 (fun hi H3 h3 S3=>?_) fun c H' hc S'=>qx c H' hc ((S1.trans S2).trans S');have S13:=(S1.trans S2).trans S3;split at h3
 ·rename_i ds e;obtain⟨b,us,rfl,hb,r⟩:=((t1.grow (S2.trans S3)).items (env.grow S13).same env.zm S13 h3.1).1 e;exact⟨b,us,rfl,SqL.of hb,fun m nm=>q _ _ _ h3.2 (S13.trans (Xe nm)) (KR S13 nm r.cut)⟩
 ·exact h3.elim
def fCat:S->S->(S->Prop)->Prop:=fun x y R=>match x.d,y.d with
 | .lst ds,.lst es=>x.free ds=true/\y.free es=true/\ds.length+es.length<=100000/\R (.own (ds++es))
 |_,_=>False
def Xt{ta tb:TE}{a b:PTE}(ha:SndE K mg E ta a)(hb:SndE K mg E tb b):SndE K mg E (tOp rCat ta tb) (p2 a b fCat):=by
 refine se_2 ha hb fun H0 H H2 Z x y v u R Q s0 s1 hm tx ty h q=>?_;unfold fCat at h;split at h
 ·rename_i ds es e1 e2;obtain⟨l,us,rfl,hl,r⟩:=(tx.items s0 hm s1 h.1).1 e1;obtain⟨m,ws,rfl,hm',r'⟩:=(ty.items s0 hm s1 h.2.1).1 e2;have hz:us.length+ws.length<=sizeLine:=by rw[r.len,r'.len];exact Y8 h.2.2.1 (by decide)
  exact⟨l,m,us,ws,rfl,rfl,hl,hm',hz,fun p np=>q _ _ _ h.2.2.2 (Xe np) (KR s1 np (r.append r'))⟩
 ·exact h.elim
def GN(i:Nat)(a:PTE):PTS:=fun R γ=>match γ[i]? with
 |some (some (.own (.lst ds)))=>a γ (fun s=>match s.shd with
  |some d=>ds.length<10000000/\R.nx (γ.set i (some (.own (ds++[d]))))
  |none=>False) (R.ex γ)
 |some (some (.own (.lsA x ds)))=>a γ (fun s=>match s.shd with
  |some d=>ds.length<10000000/\R.nx (γ.set i (some (.own (.lsA x (ds++[d])))))
  |none=>False) (R.ex γ)
 |_=>False
def PU(i:Nat){te:TE}{a:PTE}(ha:SndE K mg E te a):SndS K mg E (NC (tBM K "list" Fv (tVar i) (Xc te tNil))) (GN i a):=by
 intro H0 B H σ γ R D hB env h e;unfold GN at h;split at h
 ·rename_i ds hi;obtain⟨v,hv,b,rfl,hb0,us,hb,rb⟩:=env.slot i _ hi;refine⟨_,hv,.inl ⟨rfl,us,SqL.of hb⟩,ha H0 B H σ γ _ _ _ env h (fun s u H1 h1 S1 t1=>?_) fun c H' hc S'=>e.ex σ γ c H' hc (env.grow S') (Fr.grow S')⟩;have env1:=env.grow S1;split at h1
  ·rename_i d e2;have rd:=t1.shd env1.same env.zm S1 e2;refine⟨b,us,u,rfl,rfl,S1 _ _ hb,by rw[rb.len];exact Q6 h1.1 (by decide),?_⟩;obtain⟨e2,f2⟩:=env1.mutate (es:=.lst (ds++[d])) (us:=.lst (us++[u])) hi hv trivial fun F H' SF hF=>⟨_,hF,Rps.mono SF (Rps.append (Rps.mono (Uo S1 fun _ _ _ z=>z) rb) (.cons rd .nil))⟩;exact e.nx _ _ _ h1.2 e2 ((Fr.grow S1).trans f2)
  ·exact h1.elim
 ·rename_i x ds hi;obtain⟨v,hv,b,rfl,hb0,rfl,us,hb,rb⟩:=env.slot i _ hi;refine⟨_,hv,.inl ⟨rfl,us,SqL.of hb⟩,ha H0 B H σ γ _ _ _ env h (fun s u H1 h1 S1 t1=>?_) fun c H' hc S'=>e.ex σ γ c H' hc (env.grow S') (Fr.grow S')⟩;have env1:=env.grow S1;split at h1
  ·rename_i d e2;have rd:=t1.shd env1.same env.zm S1 e2;refine⟨b,us,u,rfl,rfl,S1 _ _ hb,by rw[rb.len];exact Q6 h1.1 (by decide),?_⟩;obtain⟨e2,f2⟩:=env1.mutate (es:=.lsA b (ds++[d])) (us:=.lst (us++[u])) hi hv trivial fun F H' SF hF=>⟨rfl,_,hF,Rps.mono SF (Rps.append (Rps.mono (Uo S1 fun _ _ _ z=>z) rb) (.cons rd .nil))⟩;exact e.nx _ _ _ h1.2 e2 ((Fr.grow S1).trans f2)
  ·exact h1.elim
 ·exact h.elim
end
section
variable {X:Cx}{K:Za}
def Kk(hu:X.A.in1.units<cLine)(hK:X.K=K:=by rfl):OpR X (compareOp .In) (fun x y H Q=>rIn K false x y H Q\/rInP false x y H Q):=(LQ hK).or (Ru hu)
def Fe(hu:X.A.in1.units<cLine)(hK:X.K=K:=by rfl):OpR X (compareOp .NotIn) (fun x y H Q=>rIn K true x y H Q\/rInP true x y H Q):=(Zg3 hK).or (Zec hu)
def Tw(hu:X.A.units<cLine)(hK:X.K=K:=by rfl):OpR X (compareOp .Eq) (fun x y H Q=>rEq x y H Q\/rEqL K false x y H Q):=by subst hK;exact op_eq.or (Mn hu)
def Lr(hu:X.A.units<cLine)(hK:X.K=K:=by rfl):OpR X (compareOp .NotEq) (fun x y H Q=>rNe x y H Q\/rEqL K true x y H Q):=by subst hK;exact op_ne.or (Zhn hu)
def UC{e:Expr}{te:TE}(ha:PE X e te)(hK:X.K=K:=by rfl)(he:∀whole,isTrue e X.env whole=(do let v ←whole;standAt e.pos;holding [v] (truthy v)):=by intro _;rfl):PT X e (tTru K te):=by
 subst hK;exact Zco ha he
def T3(hK:X.K=K:=by rfl):Xd X (.type "list") (fun xs H Q=>∃p ys,xs=[.ref p]/\(SqL K H p ys\/SqT K H p ys)/\∀l,H l=none->Q (.ref l) (upd H l (.lst ys))):=by subst hK;exact Zdd
def Cg(hK:X.K=K:=by rfl):Xd X (.type "tuple") (fun xs H Q=>∃p ys,xs=[.ref p]/\((SqL K H p ys/\∀l,H l=none->Q (.ref l) (upd H l (.tup ys)))\/(SqT K H p ys/\Q (.ref p) H))):=by subst hK;exact Zfg
def KI(hK:X.K=K:=by rfl):Xd X (.builtin "isinstance") (fun xs H Q=>∃x n t b,xs=[x,.ty n]/\TyOf K H x t/\PySem.W.kitOne K t (.type n)=some b/\Q (.bl b) H):=by subst hK;exact MH
def XA(hK:X.K=K:=by rfl):SlR X (rSlL K):=by subst hK;exact Lm
def NO(hc:X.calm=true){w:World}(hK:X.K=K:=by rfl)(hw:X.w=w:=by rfl):Xd X (.builtin "sorted") (fun xs H Q=>∃(p:Addr) (js:List Int),xs=[.ref p]/\js.length<64/\(SqL K H p (js.map V.int)\/H p=some (SetH w p js))/\
  ∀(l:Addr) (ns:List Int),H l=none->ns.Perm js->ns.Pairwise (·<=·)->Q (.ref l) (upd H l (.lst (ns.map V.int)))):=by subst hK;subst hw;exact EM hc
def U1{tg l:Expr}{tl:TE}(hl:PE X l tl)(hK:X.K=K:=by rfl):PI X tg l (SK K tl):=by subst hK;exact GD hl
end
section
variable {P:Program}{w:World}{K:Za}{mg:Str->Option Value}{base:Heap}{H H':Hp}
def Zdb{CX:CXT}{k:Nat}{x:Str}{ps:List Str}{sp:Sp}{c:Pc}(C:Callee P w K mg base CX k x ps sp)(h:∀ds R X vs H (Q:VK) (E:XK),Rps K H ds vs->c ds R X->(∀s v H',R s->Same H H'->TV K (fun b=>Mut (H b)) H H H' s v->Q v H')->(∀e H',X e->Same H H'->E (.ref (ExcR.JU mg e)) none H')->sp vs H Q E) :
  Callee P w K mg base CX k x ps (spOf mg c K):=by
 obtain⟨f,fd,F,rest⟩:=C.ex;exact⟨f,fd,F.imp fun vs H Q E ⟨ds,R,X,r,hc,hQ,hX⟩=>h ds R X vs H Q E r hc hQ hX,rest⟩
def Rp.scr_inv {ns:List Int}{v:V} (h:Rp K H (.scr ns) v):∃a,v=.ref a/\SqL K H a (ns.map V.int):=by
 cases h with
 |scr h=>exact⟨_,rfl,h⟩
def Rp.ints_inv {ns:List Int}{v:V} (h:Rp K H (.lst (ns.map D.int)) v):∃a,v=.ref a/\H a=some (.lst (ns.map V.int)):=by
 obtain⟨a,vs,rfl,h1,r⟩:=h.lst_inv;rw[r.ints]at h1;exact⟨a,rfl,h1⟩
def Rp.pairs_inv {ps:List (Int×Int)}{v:V} (h:Rp K H (.lst (ps.map prD)) v):∃a,v=.ref a/\LAt XQ H a ps:=by
 obtain⟨a,vs,rfl,h1,r⟩:=h.lst_inv;exact⟨a,rfl,vs,h1,r.lv⟩
def Zha{a:Addr}{ns:List Int}(n:H a=none)(h:H' a=some (.lst (ns.map V.int))):TV K (fun b=>Mut (H b)) H H H' (.own (ns.map D.int)) (.ref a):=⟨a,rfl,(fun _ e=>e▸n),_,h,Rps.of_ints ns⟩
def T4:∀(ns:List Int),imms (ns.map D.int)=true
 |[]=>by unfold List.map imms;rfl
 |n::r=>by rw[YC];unfold imms;rw[T4 r];unfold imm;rfl
def Zdc(p:Int×Int):imm (prD p)=true:=by unfold prD imm imms imm imms imm imms;rfl
def KA:∀(ps:List (Int×Int)),imms (ps.map prD)=true
 |[]=>by unfold List.map imms;rfl
 |p::r=>by rw[YC];unfold imms;rw[KA r,Zdc];rfl
def DT{α:Type}{f:α->D}{xs:List α}{i:Nat}(h:i<xs.length):(xs.map f).getD i .non=f xs[i]:=by
 rw[Yw,Y6,Yt h];rfl
def Xs{α:Type}{f:α->D}{xs:List α}{i:Int}(h0:0<=i)(h:i<(xs.length:Int)):atI (xs.map f) i=some (f (xs[i.toNat]'(by omega))):=by
 have h':i.toNat<xs.length:=by omega
 exact K6 (TR h0 (Yt h'))
def FS{α:Type}{f:α->D}{xs:List α}{i:Nat}(h:i<xs.length):atI (xs.map f) (i:Int)=some (f xs[i]):=K6 (T6 (Yt h))
def UV{α:Type}{φ:List (Option Nat)}{γ:Γ}{g:PTG}{c:PTT}{e:PTE}{s:S}{R:S->Prop}{xs:List α}{emb:α->D}(f:α->Option D)(hz:xs.length<=100000)(turn:∀x∈xs,g (s.sub (emb x)) (atP φ γ) fun γ2=>c γ2 (fun b=>if b=true then e γ2 (fun s=>∃d,s.shd=some d/\f x=some d) (fun _=>False)else f x=none) fun _=>False)(done:R (.own (xs.filterMap f))) :
  CompW φ γ g c e (xs.map emb).length (fun i=>s.sub ((xs.map emb).getD i .non)) R:=by
 rw[Yu];refine⟨⟨hz,fun i=>(xs[i]?).bind f,fun i hi=>?_,by rw[Zaw];exact done⟩⟩;have e1:(xs[i]?).bind f=f xs[i]:=by rw[Yt hi];rfl
 have t:=turn xs[i] (YK hi);rw[←e1]at t;rw[←DT (f:=emb) hi]at t;exact t
def Sk{φ:List (Option Nat)}{γ:Γ}{g:PTG}{c:PTT}{e:PTE}{item:Nat->S}{R:S->Prop}{n:Nat}(f:Nat->Option D)(hz:n<=100000)(turn:∀i,i<n->g (item i) (atP φ γ) fun γ2=>c γ2 (fun b=>if b=true then e γ2 (fun s=>∃d,s.shd=some d/\f i=some d) (fun _=>False)else f i=none) fun _=>False)(done:R (.own ((List.range n).filterMap f))) :
  CompW φ γ g c e n item R:=⟨⟨hz,f,turn,done⟩⟩
def Xv{α:Type}{js:List Nat}{γ:Γ}{g:PTG}{body:PTS}{s:S}{R:PEnds}{xs:List α}{emb:α->D}(inv:Nat->Γ->Prop)(h0:inv 0 (clr js γ))(turn:∀(i:Nat) (hi:i<xs.length) γ',inv i γ'->g (s.sub (emb xs[i])) γ' fun γ2=>body {R with nx:=fun γ3=>inv (i+1) (clr js γ3),ct:=fun γ3=>inv (i+1) (clr js γ3),bk:=R.nx} γ2)(done:∀γ',inv xs.length γ'->R.nx γ') :
  ForW js γ g body R (xs.map emb).length (fun i=>s.sub ((xs.map emb).getD i .non)):=by
 refine⟨⟨inv,h0,fun i γ' hi h=>?_,fun γ' h=>?_⟩⟩
 ·rw[Yu]at hi;have t:=turn i hi γ' h;rw[←DT (f:=emb) hi]at t;exact t
 ·rw[Yu]at h;exact done γ' h
def Ku{js:List Nat}{γ:Γ}{g:PTG}{body:PTS}{R:PEnds}{n:Nat}{item:Nat->S}(inv:Nat->Γ->Prop)(h0:inv 0 (clr js γ))(turn:∀(i:Nat) γ',i<n->inv i γ'->g (item i) γ' fun γ2=>body {R with nx:=fun γ3=>inv (i+1) (clr js γ3),ct:=fun γ3=>inv (i+1) (clr js γ3),bk:=R.nx} γ2)(done:∀γ',inv n γ'->R.nx γ'):ForW js γ g body R n item:=⟨⟨inv,h0,turn,done⟩⟩
def Sv{js:List Nat}{γ:Γ}{c:PTT}{body:PTS}{R:PEnds}(inv:Γ->Prop)(μ:Γ->Nat)(h0:inv (clr js γ))(turn:∀γ',inv γ'->c γ' (fun b=>if b=true then body {R with nx:=fun γ3=>inv (clr js γ3)/\μ (clr js γ3)<μ γ',ct:=fun γ3=>inv (clr js γ3)/\μ (clr js γ3)<μ γ',bk:=R.nx} γ' else R.nx γ') (R.ex γ')):WhileW js γ c body R:=⟨⟨inv,μ,h0,turn⟩⟩
def TU{p q:PTS}{R:PEnds}{γ:Γ}(J:Γ->Prop)(h1:p {R with nx:=J} γ)(h2:∀γ',J γ'->q R γ'):JoinW p q R γ:=⟨⟨J,h1,h2⟩⟩
def XT{α:Type}(c:α->Bool)(emb:α->D):∀ws:List α,ws.filterMap (fun q=>if c q=true then some (emb q)else none)=(ws.filter c).map emb
 |[]=>rfl
 |q::r=>by
  by_cases h:c q=true
  ·rw[List.filterMap_cons_some (b:=emb q) (by rw[Yz h]),List.filter_cons_of_pos h,YC,XT c emb r]
  ·rw[List.filterMap_cons_none (by rw[Yx h]),List.filter_cons_of_neg h,XT c emb r]
def mapD{α:Type}(emb:α->D)(ws:List α):ws.filterMap (fun q=>some (emb q))=ws.map emb:=by rw[Qb]
def KC{α:Type}(f:α->D)(xs:List α)(lo hi:Option Int):cutD (xs.map f) lo hi=(cutD xs lo hi).map f:=by
 unfold cutD;rw[Yu,List.map_take,List.map_drop]
def Sm{α:Type}(xs:List α){n:Int}(h:0<=n):cutD xs none (some n)=xs.take n.toNat:=by
 unfold cutD;have e:n=(n.toNat:Int):=by omega
 rw[HT.GW,e,HT.Se,List.drop_zero];rw[Nat.sub_zero,Wb];by_cases c:n.toNat<=xs.length
 ·rw[Nat.min_eq_left c]
 ·rw[Nat.min_eq_right (by omega),Qz (Y3 _),Qz (by omega)]
def T7{α:Type}(xs:List α){n:Int}(h:0<=n):cutD xs (some n) none=xs.drop n.toNat:=by
 unfold cutD;have e:n=(n.toNat:Int):=by omega
 rw[HT.GW,e,HT.Se,Wb];by_cases c:n.toNat<=xs.length
 ·rw[Nat.min_eq_left c,Qz (by rw[QY];omega)]
 ·rw[Nat.min_eq_right (by omega),List.drop_of_length_le (Y3 _),List.drop_of_length_le (by omega)];simp
def FG(K:Za):Sp:=fun vs H Q _=>∃(a:Addr) (ns:List Int),vs=[.ref a]/\SqL K H a (ns.map V.int)/\∀H',Q (.bl true) H'
def Ds:Pc:=fun ds R _=>∃ns:List Int,ds=[.scr ns]/\R (.sh (.bl true))
def Mc{vs:List V}{Q:VK}{Ec:XK}(h:FG K vs H Q Ec):spOf mg Ds K vs H Q Ec:=by
 obtain⟨a,ns,rfl,hS,q⟩:=h;refine⟨[.scr ns],fun s=>s=.sh (.bl true),fun _=>False,.cons (.scr hS) .nil,⟨ns,rfl,rfl⟩,fun s v H' e S1 tv=>?_,fun _ _ z=>z.elim⟩;subst e;cases tv
 exact q H'
end
section
variable {K:Za}{mg:Str->Option Value}{E:L2.St->XK}{H0 H H1 H':Hp}{B Z Z':Addr->Prop}{σ:L2.St}{γ:Γ}
def NY:D->Option V
 | .int i=>some (.int i) | .bl b=>some (.bl b) | .non=>some .non | .str x=>some (.str x)|_=>none
def vD:V->D
 | .int i=>.int i | .bl b=>.bl b | .str x=>.str x|_=>.non
def Si:V->Bool
 | .int _=>true | .bl _=>true | .str _=>true | .non=>true|_=>false
def FQ{v:V}(h:Si v=true):Rp K H (vD v) v:=by
 cases v with
 |int i=>exact .int i
 |bl b=>exact .bl b
 |str x=>exact .str x
 |non=>exact .non
 |_=>cases h
def AM{d:D}{v u:V}(h:Rp K H d v)(e:NY d=some u):v=u:=by
 cases h with
 |int i=>cases e;rfl
 |bl b=>cases e;rfl
 |non=>cases e;rfl
 |str x=>cases e;rfl
 |_=>cases e
def keyD:D->Option Key
 | .int i=>some (.inl i) | .str x=>some (.inr x)|_=>none
def PM:List D->Option (List Key)
 |[]=>some []
 |d::r=>match keyD d,PM r with
  |some k,some ks=>some (k::ks)
  |_,_=>none
def PK:D->Option (List Key)
 | .tup ds=>PM ds
 |_=>none
def TC{d:D}{v:V}{k:Key}(h:Rp K H d v)(e:keyD d=some k):v=kV k:=by
 cases h with
 |int i=>cases e;rfl
 |str x=>cases e;rfl
 |_=>cases e
def Eg:∀{ds:List D}{vs:List V}{ks:List Key},Rps K H ds vs->PM ds=some ks->vs=ks.map kV
 |[],_,_,.nil,e=>by cases e;rfl
 |d::r,_,ks,.cons h t,e=>by
  unfold PM at e;split at e
  ·rename_i k js e1 e2;cases e
   rw[TC h e1,Eg t e2];rfl
  ·cases e
def Nr{d:D}{v:V}{ks:List Key}(h:Rp K H d v)(e:PK d=some ks):∃b,v=.ref b/\H b=some (.tup (ks.map kV)):=by
 cases h with
 |tup h r=>
  rw[Eg r e]at h;exact⟨_,rfl,h⟩
 |_=>cases e
def Rp.dK_inv {kvs:List (Key×V)}{v:V} (h:Rp K H (.dK kvs) v):∃a,v=.ref a/\H a=some (.dK kvs):=by
 cases h with
 |dK h=>exact⟨_,rfl,h⟩
def Rp.dT_inv {kvs:List (List Key×V)}{v:V} (h:Rp K H (.dT kvs) v):∃a,v=.ref a/\H a=some (.dT kvs):=by
 cases h with
 |dT h=>exact⟨_,rfl,h⟩
def Lk:PTE:=fun _ R _=>R (.own (.dK []))
def Zfv:PTE:=fun _ R _=>R (.own (.dT []))
def OU:SndE K mg E Cn Lk:=by
 intro H0 B H σ γ R X Q env p q _;intro l nl;exact q _ _ _ p (Xe nl) ⟨l,rfl,(fun _ e=>e▸nl),UJ⟩
def Cs:SndE K mg E ET Zfv:=by
 intro H0 B H σ γ R X Q env p q _;intro l nl;exact q _ _ _ p (Xe nl) ⟨l,rfl,(fun _ e=>e▸nl),UJ⟩
def Gd:S->S->(S->Prop)->Prop:=fun x y R=>match x.d with
 | .dK kvs=>∃k v,keyD y.d=some k/\valV kvs k=some v/\Si v=true/\R (.sh (vD v))
 | .dT kvs=>∃k v,PK y.d=some k/\valV kvs k=some v/\Si v=true/\R (.sh (vD v))
 |_=>False
def N7{td ty:TE}{a b:PTE}(ha:SndE K mg E td a)(hb:SndE K mg E ty b):SndE K mg E (DB td ty) (p2 a b Gd):=by
 show SndE K mg E (tOp (fun x y H Q=>∃a v,x=.ref a/\DGet H a y (some v)/\Q v H) td ty) _;refine se_2 ha hb fun H0 H H2 Z x y v u R Q s0 s1 hm tx ty h q=>?_;have rx:=tx.rp s0;have ry:=ty.rp s0;unfold Gd at h;split at h
 ·rename_i kvs e;rw[e]at rx;obtain⟨l,rfl,hl⟩:=rx.dK_inv;obtain⟨k,w,h1,h2,h3,h4⟩:=h;refine⟨l,w,rfl,?_,q _ _ H2 h4 (Same.refl _) (FQ h3)⟩;rw[TC ry h1,←h2];exact DGet.k hl
 ·rename_i kvs e;rw[e]at rx;obtain⟨l,rfl,hl⟩:=rx.dT_inv;obtain⟨k,w,h1,h2,h3,h4⟩:=h;obtain⟨b,rfl,hb⟩:=Nr ry h1;refine⟨l,w,rfl,?_,q _ _ H2 h4 (Same.refl _) (FQ h3)⟩;rw[←h2];exact DGet.t hl hb
 ·exact h.elim
def fDIn(neg:Bool):S->S->(S->Prop)->Prop:=fun y x R=>match x.d with
 | .dK kvs=>∃k,keyD y.d=some k/\R (.sh (.bl (if neg then !(valV kvs k).isSome else(valV kvs k).isSome)))
 | .dT kvs=>∃k,PK y.d=some k/\R (.sh (.bl (if neg then !(valV kvs k).isSome else(valV kvs k).isSome)))
 |_=>False
def Rf{td ty:TE}{a b:PTE}(ha:SndE K mg E ty a)(hb:SndE K mg E td b):SndE K mg E (tDIn ty td) (p2 a b (fDIn false)):=by
 show SndE K mg E (tOp (fun y x H Q=>∃a o,x=.ref a/\DGet H a y o/\Q (.bl o.isSome) H) ty td) _;refine se_2 ha hb fun H0 H H2 Z y x u v R Q s0 s1 hm ty tx h q=>?_;have rx:=tx.rp s0;have ry:=ty.rp s0;unfold fDIn at h;split at h
 ·rename_i kvs e;rw[e]at rx;obtain⟨l,rfl,hl⟩:=rx.dK_inv;obtain⟨k,h1,h4⟩:=h;refine⟨l,_,rfl,?_,q _ _ H2 h4 (Same.refl _) (.bl _)⟩;rw[TC ry h1];exact DGet.k hl
 ·rename_i kvs e;rw[e]at rx;obtain⟨l,rfl,hl⟩:=rx.dT_inv;obtain⟨k,h1,h4⟩:=h;obtain⟨b,rfl,hb⟩:=Nr ry h1;exact⟨l,_,rfl,DGet.t hl hb,q _ _ H2 h4 (Same.refl _) (.bl _)⟩
 ·exact h.elim
def MB{td ty:TE}{a b:PTE}(ha:SndE K mg E ty a)(hb:SndE K mg E td b):SndE K mg E (Dk ty td) (p2 a b (fDIn true)):=by
 show SndE K mg E (tOp (fun y x H Q=>∃a o,x=.ref a/\DGet H a y o/\Q (.bl (!o.isSome)) H) ty td) _;refine se_2 ha hb fun H0 H H2 Z y x u v R Q s0 s1 hm ty tx h q=>?_;have rx:=tx.rp s0;have ry:=ty.rp s0;unfold fDIn at h;split at h
 ·rename_i kvs e;rw[e]at rx;obtain⟨l,rfl,hl⟩:=rx.dK_inv;obtain⟨k,h1,h4⟩:=h;refine⟨l,_,rfl,?_,q _ _ H2 h4 (Same.refl _) (.bl _)⟩;rw[TC ry h1];exact DGet.k hl
 ·rename_i kvs e;rw[e]at rx;obtain⟨l,rfl,hl⟩:=rx.dT_inv;obtain⟨k,h1,h4⟩:=h;obtain⟨b,rfl,hb⟩:=Nr ry h1;exact⟨l,_,rfl,DGet.t hl hb,q _ _ H2 h4 (Same.refl _) (.bl _)⟩
 ·exact h.elim
def E5(i:Nat)(b a:PTE):PTS:=fun R γ=>match γ[i]? with
 |some (some (.own (.dK kvs)))=>a γ (fun s=>b γ (fun y=>∃k u,keyD y.d=some k/\NY s.d=some u/\kvs.length<100000/\R.nx (γ.set i (some (.own (.dK (putK kvs k u)))))) (R.ex γ)) (R.ex γ)
 |some (some (.own (.dT kvs)))=>a γ (fun s=>b γ (fun y=>∃k u,PK y.d=some k/\NY s.d=some u/\kvs.length<100000/\R.nx (γ.set i (some (.own (.dT (putK kvs k u)))))) (R.ex γ)) (R.ex γ)
 |_=>False
def SG(i:Nat){ty tv:TE}{a b:PTE}(hb:SndE K mg E ty b)(ha:SndE K mg E tv a):SndS K mg E (E8 (tVar i) ty tv) (E5 i b a):=by
 intro H0 B H σ γ R D hB env h e;have hx:∀c H',R.ex γ c->Same H H'->E σ (.ref (ExcR.JU mg c)) none H':=fun c H' hc S'=>e.ex σ γ c H' hc (env.grow S') (Fr.grow S');unfold E5 at h;split at h
 ·rename_i kvs hi;obtain⟨v,hv,l,rfl,hb0,hl⟩:=env.slot i _ hi;refine ha H0 B H σ γ _ _ _ env h (fun s u H1 h1 S1 t1=>⟨_,hv,?_⟩) hx;have env1:=env.grow S1;refine hb H0 B H1 σ γ _ _ _ env1 h1 (fun y w H2 h2 S2 t2=>?_) fun c H' hc S'=>hx c H' hc (S1.trans S');obtain⟨k,z,k1,k2,k3,k4⟩:=h2;have env2:=env1.grow S2;have eu:=AM (t1.rp env1.same) k2;have ew:=TC (t2.rp env2.same) k1;subst eu ew;refine⟨l,_,rfl,DPut.k (S2 _ _ (S1 _ _ hl)) (Q6 k3 (by decide)),?_⟩;obtain⟨e2,f2⟩:=env2.mutate (es:=.dK (putK kvs k u)) (us:=.dK (putK kvs k u)) hi hv trivial fun F H' SF hF=>hF;exact e.nx _ _ _ k4 e2 ((Fr.grow (S1.trans S2)).trans f2)
 ·rename_i kvs hi;obtain⟨v,hv,l,rfl,hb0,hl⟩:=env.slot i _ hi;refine ha H0 B H σ γ _ _ _ env h (fun s u H1 h1 S1 t1=>⟨_,hv,?_⟩) hx;have env1:=env.grow S1;refine hb H0 B H1 σ γ _ _ _ env1 h1 (fun y w H2 h2 S2 t2=>?_) fun c H' hc S'=>hx c H' hc (S1.trans S');obtain⟨k,z,k1,k2,k3,k4⟩:=h2;have env2:=env1.grow S2;have eu:=AM (t1.rp env1.same) k2;obtain⟨b',rfl,hb'⟩:=Nr (t2.rp env2.same) k1;subst eu;refine⟨l,_,rfl,DPut.t (S2 _ _ (S1 _ _ hl)) hb' (Q6 k3 (by decide)),?_⟩;obtain⟨e2,f2⟩:=env2.mutate (es:=.dT (putK kvs k u)) (us:=.dT (putK kvs k u)) hi hv trivial fun F H' SF hF=>hF;exact e.nx _ _ _ k4 e2 ((Fr.grow (S1.trans S2)).trans f2)
 ·exact h.elim
def Za8(a:PTE):PTS:=fun R γ=>a γ (fun s=>match s.shd with|some d=>R.rt (.sh d)|none=>False) (R.ex γ)
def Ew{te:TE}{a:PTE}(ha:SndE K mg E te a):SndS K mg E (tRet te) (Za8 a):=by
 intro H0 B H σ γ R D hB env h e;refine ha H0 B H σ γ _ _ _ env h (fun s v H1 h1 S1 t1=>?_) fun c H' hc S'=>e.ex σ γ c H' hc (env.grow S') (Fr.grow S');split at h1
 ·rename_i d hd;have r:=t1.shd (env.grow S1).same env.zm S1 hd;exact e.rt (.sh d) v H1 h1 (env.same.trans S1) (Rp.mono (Uo (Same.refl _) fun b _ _ z y=>z (.inl y)) r)
 ·exact h1.elim
def Gs(i:Nat)(γ:Γ):Nat:=match γ[i]? with
 |some (some (.own (.lst ds)))=>ds.length
 |_=>0
def XN{α:Type}(d:α)(ds:List α):atI (d::ds) 0=some d:=TR (by decide) rfl
def em(l:Int)(p:List Int):D:=.lst ((l::p).map D.int)
def AE(l:Int)(p:List Int):atI ((l::p).map D.int) (-1)=some (.int (U9 l p)):=by
 refine K6 ?_;unfold atI ixN;rw[Yx (by omega),Yz (by rw[YF];omega)];have e:(-1+((l::p).length:Int)).toNat=p.length:=by rw[YF];omega
 rw[e];exact BM l p
end
section
variable {K:Za}{mg:Str->Option Value}{E:L2.St->XK}{H0 H H1 H':Hp}{B Z Z':Addr->Prop}{σ:L2.St}{γ:Γ}
def DF:List S->(S->Prop)->Prop
 |[s],R=>∃ns:List Int,s.d=.lst (ns.map D.int)/\R (.sh (.int ns.sum))
 |_,_=>False
def EF{ta:TA}{r:PTA}(hr:SndA K mg E ta r):SndE K mg E (tCB (fun xs H Q=>∃(p:Addr) (ns:List Int),xs=[.ref p]/\SqL K H p (ns.map V.int)/\Q (.int ns.sum) H) ta) (pCB DF r):=by
 refine Kh hr fun H0 H H1 Z ss vs R Q s0 s1 hm tv h q=>?_;unfold DF at h;split at h
 ·obtain⟨v,rfl,t1⟩:=tv.one_inv;obtain⟨ns,e,hR⟩:=h;have rv:=t1.rp s0;rw[e]at rv;obtain⟨a,rfl,ha⟩:=rv.ints_inv;exact⟨a,ns,rfl,SqL.of ha,q _ _ H1 hR (Same.refl _) (.int _)⟩
 ·exact h.elim
def Es:List S->(S->Prop)->Prop
 |[s],R=>∃ns:List Int,s.d=.lst (ns.map D.int)/\0<ns.length/\∀m,m∈ns->(∀a∈ns,m<=a)->R (.sh (.int m))
 |_,_=>False
def LD{ta:TA}{r:PTA}(hr:SndA K mg E ta r):SndE K mg E (tCB (fun xs H Q=>∃(p:Addr) (ns:List Int),xs=[.ref p]/\SqL K H p (ns.map V.int)/\0<ns.length/\∀M,M∈ns->(∀a∈ns,M<=a)->Q (.int M) H) ta) (pCB Es r):=by
 refine Kh hr fun H0 H H1 Z ss vs R Q s0 s1 hm tv h q=>?_;unfold Es at h;split at h
 ·obtain⟨v,rfl,t1⟩:=tv.one_inv;obtain⟨ns,e,hne,hR⟩:=h;have rv:=t1.rp s0;rw[e]at rv;obtain⟨a,rfl,ha⟩:=rv.ints_inv;exact⟨a,ns,rfl,SqL.of ha,hne,fun m h1 h2=>q _ _ H1 (hR m h1 h2) (Same.refl _) (.int _)⟩
 ·exact h.elim
def Ie:List S->(S->Prop)->Prop
 |[s],R=>∃bs:List Bool,s.d=.lst (bs.map D.bl)/\R (.sh (.bl (bs.any id)))
 |_,_=>False
def Rps.bls {K:Za}{H:Hp}:∀{js:List Bool}{vs:List V},Rps K H (js.map D.bl) vs->vs=js.map V.bl
 |[],_,.nil=>rfl
 |j::r,_,.cons h t=>by rw[Rp.bl_inv h,Rps.bls t];rfl
def Hj{ta:TA}{r:PTA}(hr:SndA K mg E ta r):SndE K mg E (tCB (fun xs H Q=>∃(p:Addr) (bs:List Bool),xs=[.ref p]/\SqL K H p (bs.map V.bl)/\Q (.bl (bs.any id)) H) ta) (pCB Ie r):=by
 refine Kh hr fun H0 H H1 Z ss vs R Q s0 s1 hm tv h q=>?_;unfold Ie at h;split at h
 ·obtain⟨v,rfl,t1⟩:=tv.one_inv;obtain⟨bs,e,hR⟩:=h;have rv:=t1.rp s0;rw[e]at rv;obtain⟨a,us,rfl,ha,r1⟩:=rv.lst_inv;rw[r1.bls]at ha;exact⟨a,bs,rfl,SqL.of ha,q _ _ H1 hR (Same.refl _) (.bl _)⟩
 ·exact h.elim
def fEqE(neg:Bool):S->S->(S->Prop)->Prop:=fun x y R=>match x.d,y.d with
 | .lst ds,.lst []=>R (.sh (.bl (if neg then !ds.isEmpty else ds.isEmpty)))
 |_,_=>False
def AS{neg:Bool}{ta tb:TE}{a b:PTE}(ha:SndE K mg E ta a)(hb:SndE K mg E tb b):SndE K mg E (tOp (rEqE K neg) ta tb) (p2 a b (fEqE neg)):=by
 refine se_2 ha hb fun H0 H H2 Z x y v u R Q s0 s1 hm tx ty h q=>?_;have rx:=tx.rp s0;have ry:=ty.rp s0;unfold fEqE at h;split at h
 ·rename_i ds e1 e2;rw[e1]at rx;rw[e2]at ry;obtain⟨l,us,rfl,hl,r⟩:=rx.lst_inv;obtain⟨m,ws,rfl,hm',r'⟩:=ry.lst_inv;cases r'
  refine⟨l,m,us,rfl,rfl,SqL.of hl,SqL.of hm',?_⟩;rw[Bm r.len];exact q _ _ H2 h (Same.refl _) (.bl _)
 ·exact h.elim
def Fw(x y:Int){k:Int}(h:k=0\/k=1):atI [D.int x,D.int y] k=some (.int (if k=0 then x else y)):=by
 rcases h with rfl|rfl
 ·rfl
 ·rfl
def Ky{α:Type}(xs:List α)(lo hi:Option Int):(cutD xs lo hi).Sublist xs:=(QN _ _).trans (List.drop_sublist _ _)
end
section
variable {K:Za}{mg:Str->Option Value}{E:L2.St->XK}{H0 H H1 H':Hp}{B Z Z':Addr->Prop}{σ:L2.St}{γ:Γ}
def En(i:Nat)(b a:PTE):PTS:=fun R γ=>match γ[i]? with
 |some (some (.own (.lst ds)))=>a γ (fun s=>b γ (fun y=>match y.d with
   | .int k=>∃j d,ixN ds.length k=some j/\s.shd=some d/\R.nx (γ.set i (some (.own (.lst (ds.set j d)))))
   |_=>False) (R.ex γ)) (R.ex γ)
 |some (some (.own (.lsA x ds)))=>a γ (fun s=>b γ (fun y=>match y.d with
   | .int k=>∃j d,ixN ds.length k=some j/\s.shd=some d/\R.nx (γ.set i (some (.own (.lsA x (ds.set j d)))))
   |_=>False) (R.ex γ)) (R.ex γ)
 |_=>False
def Rps.set {d:D}{v:V} (h:Rp K H d v):∀{ds:List D}{vs:List V} (j:Nat),Rps K H ds vs->Rps K H (ds.set j d) (vs.set j v)
 |_,_,_,.nil=>.nil
 |_,_,0,.cons _ r=>.cons h r
 |_,_,j+1,.cons k r=>.cons k (Rps.set h j r)
def Dw(i:Nat){tb te:TE}{a b:PTE}(hb:SndE K mg E tb b)(ha:SndE K mg E te a):SndS K mg E (tAsg te (gSub (tVar i) tb Hi)) (En i b a):=by
 intro H0 B H σ γ R D hB env h e;have hx:∀c H',R.ex γ c->Same H H'->E σ (.ref (ExcR.JU mg c)) none H':=fun c H' hc S'=>e.ex σ γ c H' hc (env.grow S') (Fr.grow S');unfold En at h;split at h
 ·rename_i ds hi;obtain⟨v,hv,l,rfl,hb0,us,hl,ru⟩:=env.slot i _ hi;refine ha H0 B H σ γ _ _ _ env h (fun s u H1 h1 S1 t1=>⟨_,hv,?_⟩) hx;have env1:=env.grow S1;refine hb H0 B H1 σ γ _ _ _ env1 h1 (fun y w H2 h2 S2 t2=>?_) fun c H' hc S'=>hx c H' hc (S1.trans S');have env2:=env1.grow S2;have ry:=t2.rp env2.same;split at h2
  ·rename_i k ek;rw[ek]at ry;obtain⟨j,d,h3,h4,h5⟩:=h2;have rd:=Rp.mono (Uo S2 fun _ _ _ z=>z) (t1.shd env1.same env.zm S1 h4);refine⟨l,us,k,j,rfl,ry.int_inv,(S1.trans S2) _ _ hl,by rw[ru.len];exact h3,?_⟩;obtain⟨e2,f2⟩:=env2.mutate (es:=.lst (ds.set j d)) (us:=.lst (us.set j u)) hi hv trivial fun F H' SF hF=>⟨_,hF,Rps.mono SF (Rps.set rd j (Rps.mono (Uo (S1.trans S2) fun _ _ _ z=>z) ru))⟩;exact e.nx _ _ _ h5 e2 ((Fr.grow (S1.trans S2)).trans f2)
  ·exact h2.elim
 ·rename_i x ds hi;obtain⟨v,hv,l,rfl,hb0,rfl,us,hl,ru⟩:=env.slot i _ hi;refine ha H0 B H σ γ _ _ _ env h (fun s u H1 h1 S1 t1=>⟨_,hv,?_⟩) hx;have env1:=env.grow S1;refine hb H0 B H1 σ γ _ _ _ env1 h1 (fun y w H2 h2 S2 t2=>?_) fun c H' hc S'=>hx c H' hc (S1.trans S');have env2:=env1.grow S2;have ry:=t2.rp env2.same;split at h2
  ·rename_i k ek;rw[ek]at ry;obtain⟨j,d,h3,h4,h5⟩:=h2;have rd:=Rp.mono (Uo S2 fun _ _ _ z=>z) (t1.shd env1.same env.zm S1 h4);refine⟨l,us,k,j,rfl,ry.int_inv,(S1.trans S2) _ _ hl,by rw[ru.len];exact h3,?_⟩;obtain⟨e2,f2⟩:=env2.mutate (es:=.lsA l (ds.set j d)) (us:=.lst (us.set j u)) hi hv trivial fun F H' SF hF=>⟨rfl,_,hF,Rps.mono SF (Rps.set rd j (Rps.mono (Uo (S1.trans S2) fun _ _ _ z=>z) ru))⟩;exact e.nx _ _ _ h5 e2 ((Fr.grow (S1.trans S2)).trans f2)
  ·exact h2.elim
 ·exact h.elim
end
end Pu
namespace PySem
open Sem (wp)
structure VPairs {K:Type} (es:List DictEntry) (kvs:List (K×Value)):Prop where
 length:es.length=kvs.length
 get?:∀{i:Nat} {e:DictEntry} {k:K} {v:Value},es[i]?=some e->kvs[i]?=some (k,v)->True/\e.val=v
def VDict{K:Type}(h:Heap)(a:Addr)(kvs:List (K×Value))(ep:Nat):Prop:=
 ∃o es,h.get? a=some o/\o.ExactDict/\o.data=.dict es ep/\True/\VPairs es.toList kvs/\True
section
variable {prog:Program}{w:World}{K:Type}{A:Around}{E:Value->Shared->Prop}{s:Shared}
def L3(d:Addr)(hd:(d==sysModules)=false) :
  MeetsIn prog w (Builtin.«dict.values» ⟨[.ref d],[]⟩) (fun _ R s=>s.TypeIs (.ref d) "dict"/\
   R (.ok (.ret (.ref s.heap.objs.size))) {s with heap:=s.heap.push {cls:=.type "dict_values",data:=.fields #[.ref d]}}):=
 .of_wp fun A R s ⟨hm,h⟩=>by
  refine Yv ?_;unfold Builtin.Dict.noArgs;refine Yv (wpAny_notOrdered_dict hm ?_);show wpAny _ _ (pure d) _ _ s;refine Y2 ?_;show wpAny _ _ (Builtin.Dict.showsAll d >>= _) _ _ s;unfold Builtin.Dict.showsAll;rw[Yx (by rw[hd];exact YG)];refine Yv (Y2 ?_);exact Yv (Wt (Y2 ⟨_,rfl,h⟩))
def Mi{v d:Addr}{kvs:List (K×Value)}{ep:Nat}{Q:Value->Shared->Prop}(hv:s.heap.IsValuesView v d)(hm:VDict s.heap d kvs ep)(hQ:Q (.ref s.heap.objs.size) {s with heap:=s.heap.push {cls:=.type "dict_valueiterator",data:=.fields #[.ref d,.int 0 0,.int kvs.length 0,.int ep 0]}}) :
  wpAny (model prog w) A (pyIter (.ref v)) Q E s:=by
 obtain⟨ov,hov,hcv,hdv⟩:=id hv;obtain⟨o,es,ho,hc,hdat,hk,hp,hn⟩:=id hm;refine wpAny_pyIter_slot hv.typeIs F.slot_dict_values_iter (Qa F.slot_dict_values_iter hv.typeIs F.entry_dict_values_iter ?_ (F.args_dict_values_iter_1 _));unfold Builtin.«dict_values.__iter__»;refine Yv (Y2 ?_);refine Yv ?_;unfold Builtin.Dict_items.dictOf;refine Yv (Vy hov hdv (x:=.ref d) rfl (Y2 ?_));refine Yv ?_;unfold Builtin.Dict_items.newIterator;refine Yv (wpAny_dictEntries ho hdat ?_);refine Yv (wpAny_dictEpoch ho hdat ?_);have hsz:es.size=kvs.length:=by rw[←hp.length];simp
 have hown:Builtin.Dict_items.ownsTuple "dict_valueiterator"=false:=by decide
 simp only[hown,QI,QZ];refine Wt (Y2 ⟨_,rfl, "dict_valueiterator",_,⟨_,YE _ rfl,rfl⟩,F.slot_dict_valueiterator_next.lookup,?_⟩);simpa [rawInt,hsz]using hQ
def Zfs{it d:Addr}{i ep:Nat}{kvs:List (K×Value)}{k:K}{v:Value}{Q:Option Value->Shared->Prop}(hit:s.heap.IsValIter it d i kvs.length ep)(hm:VDict s.heap d kvs ep)(hx:kvs[i]?=some (k,v))(hQ:∀h',h'.IsValIter it d (i+1) kvs.length ep->Heap.SameBut it s.heap h'->Q (some v) {s with heap:=h'}) :
  wpAny (model prog w) A (pyNext (.ref it)) Q E s:=by
 obtain⟨o,ho,hc,hd⟩:=id hit;obtain⟨od,es,hod,hcd,hdd,hk,hp,hn⟩:=id hm;unfold pyNext
 refine Yv (wpAny_attempt (QM (name:=Str.ofString "__next__") hit.typeIs WS
  (Qa WS hit.typeIs F.entry_dict_valueiterator_next ?_ (F.args_dict_valueiterator_next_1 _))))
 refine Yv (Y2 ?_);refine Yv ?_;refine Yv ?_
 first|refine Yv (WW hit.typeIs (Y2 ?_))|refine Yv (Qt hit.typeIs (Y2 ?_))
 refine Yv (wpAny_fieldsOf ho hd ?_);have hown:Builtin.Dict_items.ownsTuple "dict_valueiterator"=false:=by decide
 simp only[hown,QI,QZ];show wpAny _ _ (if (Value.ref d==Value.none)=true then _ else _) _ _ s;rw[Yx (show ¬((Value.ref d==Value.none)=true)from YG)]
 refine Yv (Y2 ?_);refine Yv (wpAny_dictEntries hod hdd ?_);have hsz:es.size=kvs.length:=by rw[←hp.length];simp
 rw[Yx (by rw[hsz];simp)];refine Yv (Y2 ?_);refine Yv (wpAny_dictEpoch hod hdd ?_);rw[Yx (by simp)];refine Y2 ?_
 have hlt:i<kvs.length:=by
  rcases Nat.lt_or_ge i kvs.length with h|h
  ·exact h
  ·simp[Qf h]at hx
 have hlt':i<es.size:=by rw[hsz];exact hlt
 have hval:es[i].val=v:=(hp.get? (e:=es[i]) (by simp[hlt']) hx).2;simp only[show ¬((i:Int)<0)from by omega,QZ,Wb,WB hlt']
 refine Yv ?_
 first|refine Yv (WW hit.typeIs (Y2 ?_))|refine Yv (Qt hit.typeIs (Y2 ?_))
 refine Yv (Vh hit.typeIs ?_);show wpAny _ _ (setField (.ref it) 1 (rawInt ((i:Int)+1)) >>= _) _ _ s;refine Yv (WL ho hd (by simp) ?_)
 have hit':(s.heap.update it (Obj.mapFields (·.setIfInBounds 1 (rawInt ((i:Int)+1))))).IsValIter it d (i+1) kvs.length ep:=
  ⟨_,Wq _ ho (WM (Wz hd _)),(QP ..).trans hc,by rw[Wz hd];simp[rawInt]⟩
 refine Yv (WV ?_);refine Yv (Vh (s:={s with heap:=s.heap.update it (Obj.mapFields (·.setIfInBounds 1 (rawInt ((i:Int)+1))))}) hit'.typeIs ?_)
 refine Yv (Vh (s:={s with heap:=s.heap.update it (Obj.mapFields (·.setIfInBounds 1 (rawInt ((i:Int)+1))))}) hit'.typeIs ?_)
 show wpAny _ _ (pure es[i].val) _ _ _;exact Y2 (Y2 ⟨_,rfl,Y2 (hval▸hQ _ hit' (W3 ..))⟩)
def Zex{it d:Addr}{i ep:Nat}{kvs:List (K×Value)}{Q:Option Value->Shared->Prop}(hh:A.handled=none)(hit:s.heap.IsValIter it d i kvs.length ep)(hm:VDict s.heap d kvs ep)(hx:kvs[i]?=none)(hQ:∀h',Heap.ExtBut it s.heap h'->Q none {s with heap:=h'}):wpAny (model prog w) A (pyNext (.ref it)) Q E s:=by
 obtain⟨o,ho,hc,hd⟩:=id hit;obtain⟨od,es,hod,hcd,hdd,hk,hp,hn⟩:=id hm;unfold pyNext
 refine Yv (wpAny_attempt (QM (name:=Str.ofString "__next__") hit.typeIs WS
  (Qa WS hit.typeIs F.entry_dict_valueiterator_next ?_ (F.args_dict_valueiterator_next_1 _))))
 refine Yv (Y2 ?_);refine Yv ?_;refine Yv ?_
 first|refine Yv (WW hit.typeIs (Y2 ?_))|refine Yv (Qt hit.typeIs (Y2 ?_))
 refine Yv (wpAny_fieldsOf ho hd ?_);have hown:Builtin.Dict_items.ownsTuple "dict_valueiterator"=false:=by decide
 simp only[hown,QI,QZ];show wpAny _ _ (if (Value.ref d==Value.none)=true then _ else _) _ _ s;rw[Yx (show ¬((Value.ref d==Value.none)=true)from YG)]
 refine Yv (Y2 ?_);refine Yv (wpAny_dictEntries hod hdd ?_);have hsz:es.size=kvs.length:=by rw[←hp.length];simp
 rw[Yx (by rw[hsz];simp)];refine Yv (Y2 ?_);refine Yv (wpAny_dictEpoch hod hdd ?_);rw[Yx (by simp)];refine Y2 ?_;have hge:es.size<=i:=by rw[hsz];simpa using hx
 simp only[show ¬((i:Int)<0)from by omega,QZ,Wb,QU hge]
 refine Yv ?_
 first|refine Yv (WW hit.typeIs (Y2 ?_))|refine Yv (Qt hit.typeIs (Y2 ?_))
 show wpAny _ _ (setField (.ref it) 0 .none >>= _) _ _ s;refine Yv (WL ho hd (by simp) ?_);show wpAny _ _ (newExc (.type "StopIteration") [] >>= _) _ _ _;refine Yv ?_;simp only[newExc,newTuple];refine Yv (Wt ?_ (by size_fits));refine Yv (m:=firstArgMember _ _) (wpAny_of_eq (a:=Value.none) (by first|rfl|(simp only[firstArgMember];rfl)) ?_)
 refine Wt ?_ (by size_fits);simp only[raiseNew];refine Yv (wpAny_handled ?_);rw[show A.in1.handled=none from hh]
 refine Yv (Y2 (wpAny_throw ?_));refine Yv (wpAny_isInstance (T:="StopIteration") (b:=true) ⟨_,YE _ rfl,rfl⟩ isSubtype_stop ?_);exact Y2 (hQ _ (((W3 ..).extBut.push _).push _))
end
end PySem
namespace Own
open PySem PySem.Spec PyProof.Rows L2
def DU(K:Za):R2:=fun x y H Q=>∃a b xs ys,x=.ref a/\y=.ref b/\SqT K H a xs/\SqT K H b ys/\xs.length+ys.length<=sizeLine/\
 (xs=[]->Q (.ref b) H)/\(xs≠[]->ys=[]->Q (.ref a) H)/\(xs≠[]->ys≠[]->∀p,H p=none->Q (.ref p) (upd H p (.tup (xs++ys))))
section
variable {X:Cx}{K:Za}
def Ma(hK:X.K=K:=by rfl):OpR X (binaryOp .Add) (DU K):=by
 subst hK;intro pins s σ H x y v u Q I rx ry h;obtain⟨a,b,xs,ys,rfl,rfl,ha,hb,hz,q0,q1,q2⟩:=h;cases rx
 cases ry
 by_cases hx:xs=[]
 ·obtain⟨its,r1,p1,_⟩:=I.tuple ha;obtain⟨its2,r2,p2,_⟩:=I.tuple hb;have e:its=[]:=r1.nil_iff.mpr hx;obtain⟨⟨cls,dd,data,sl⟩,ho,hc,n,hd⟩:=id p1;obtain⟨⟨cls2,dd2,data2,sl2⟩,ho2,hc2,n2,hd2⟩:=id p2;simp only at hc hd hc2 hd2;subst hc hd hc2 hd2
  exact concat_meets ⟨_,ho,rfl⟩ ⟨_,ho2,rfl⟩ noFill_tuple_add seq_tuple_add QT QL (QF _ _)
   (tuple_addW0 a b its.toArray its2.toArray n n2 dd dd2 sl sl2 (by simp[e])) ⟨ho,ho2,⟨.ref b,H,I,rfl,q0 hx⟩⟩
 ·exact Zbz pins s σ H (.ref a) (.ref b) _ _ Q I rfl rfl ⟨a,b,xs,ys,rfl,rfl,ha,hb,hx,hz,q1 hx,q2 hx⟩
def O3{b:Addr}{x:V}{ws:List (Value×Value)}(h:VV [(.ref b,x)] ws):∃r,ws=[(.ref b,r)]/\RelV x r:=by
 cases h with
 |cons h t=>
  cases t
  rename_i y;obtain⟨u,r⟩:=y;obtain⟨h1,h2⟩:=h;cases (show u=Value.ref b from h1)
  exact⟨r,rfl,h2⟩
def E4(tk tv:TE):TE:=fun σ H Q=>∀p,H p=none->tk σ (upd H p (.dT [])) fun y H1=>tv σ H1 fun x H2=>H2 p=some (.dT [])/\∃b ks,y=.ref b/\H2 b=some (.tup (ks.map kV))/\Q (.ref p) (upd H2 p (.dT [(ks,x)]))
def Zf8{k v:Expr}{tk tv:TE}{pos:Pos}(hu:X.A.units+1<cLine)(hk:PE X k tk)(hv:PE X v tv):PE X (.Dict [some k] [v] pos) (E4 tk tv):=by
 intro pins s σ H Q I q;have hn:=I.hok.fresh (Y3 s.heap.objs.size);have I1:=I.laid (a:=s.heap.objs.size) (o:=.dT []) (h':=s.heap.push {cls:=.type "dict",data:=.dict #[]}) (t':=s.toks) (fun _ _ q=>Y1 _ q) (Y3 _) (Ef s.heap I.big)
 refine wpAny_Dict_any rfl rfl (by simp) (by simp) (thn ((Mw hk hv RZ) pins _ σ _ (fun ps H2=>match ps with
  |[(y,x)]=>H2 s.heap.objs.size=some (.dT [])/\∃b ks,y=.ref b/\H2 b=some (.tup (ks.map kV))/\Q (.ref s.heap.objs.size) (upd H2 s.heap.objs.size (.dT [(ks,x)]))
  |_=>False) I1 (q _ hn)) fun ws s2 ⟨ps,H2,I2,rel,h2⟩=>?_)
 split at h2
 ·rename_i y x;obtain⟨e,b,ks,ey,eb,q2⟩:=h2;subst ey;obtain⟨wv,ew,rv⟩:=O3 rel;subst ew;obtain⟨z,hd,xs,rel',dd⟩:=SC I2.hok e;cases rel'
  unfold storeAll;rw[Vo];refine Yv (Yv (wpAny_dictSet_heap (hsz:=WA _) (show(tupleKind _).room X.A from Nat.lt_of_succ_lt hu) (PR I2.hok eb) dd fun h' dd' hs=>Y2 ?_))
  dsimp only
  rw[List.forIn_nil];refine Y2 ?_;obtain⟨qo,es,ep,hq,h2,h3,h4,_,h5⟩:=dd';refine⟨.ref s.heap.objs.size,_,FX (ob:=.dT [(ks,x)]) I2 (by rw[e];exact True.intro) hs ⟨qo,hq⟩ ⟨(by show 1<=sizeLine;decide),hd,[(ks,b,wv)],?_,qo,es,ep,hq,h2,h3,h4,h5⟩,rfl,q2⟩;refine .cons ⟨rfl,?_,rv⟩ .nil;rw[Uv (Gu eb e (fun z=>nomatch z))];exact eb
 ·exact h2.elim
end
section
variable {prog:Program}{w:World}{A:Around}{K:Type}{d r:Addr}{kvs:List (K×Value)}{ep:Nat}{h h':Heap}
def VDict.at (x:VDict h d kvs ep) (e:∀o,h.get? d=some o->h'.get? d=some o):VDict h' d kvs ep:=let ⟨o,es,ho,r⟩:=x;⟨o,es,e _ ho,r⟩
def VDict.lt (x:VDict h d kvs ep):d<h.objs.size:=let ⟨_,_,ho,_⟩:=x;YB ho
def Zdp(hh:A.handled=none)(I d:Addr)(hne:d≠I)(kvs:List (K×Value))(ep:Nat) :
  Walks prog w A I [I,d] [I] kvs.length (fun i v=>∃k,kvs[i]?=some (k,v)) (fun i h=>h.IsValIter I d i kvs.length ep/\VDict h d kvs ep) where
 sub:=fun b hb=>by simp at hb;simp[hb]
 frame:=fun _ _ _ st hk=>⟨st.1.at fun o e=>hk I (by simp) o e,VDict.at st.2 fun o e=>hk d (by simp) o e⟩
 item:=fun i s Q E hi st hQ=>by
  refine Zfs (k:=(kvs[i]).1) (v:=(kvs[i]).2) st.1 st.2 (by simp[hi]) fun h' hit' hs'=>?_;exact hQ _ h' s.toks ⟨(kvs[i]).1,by simp[hi]⟩ ⟨hit',VDict.at st.2 fun o e=>hs'.extBut d o hne e⟩ fun b o hb e=>hs'.extBut b o (fun h=>hb (by simp[h])) e
 done:=fun s Q E st hQ=>Zex hh st.1 st.2 (by simp) fun h' he'=>hQ h' s.toks fun b o hb e=>he' b o (fun h=>hb (by simp[h])) e
 self:=fun _ _ _ _ st hQ=>wpAny_pyIter_valiter st.1 hQ
def Zcj:PySem.W.KdlSrc prog w "dict_values" r d kvs.length (fun i v=>∃k,kvs[i]?=some (k,v)) (fun h=>h.IsValuesView r d/\VDict h d kvs ep) where
 type:=fun _ hm=>hm.1.typeIs
 there:=fun _ hm=>⟨let ⟨_,ho,_⟩:=hm.1;YB ho,VDict.lt hm.2⟩
 keep:=fun _ _ hm hk=>⟨let ⟨o,ho,x⟩:=hm.1;⟨o,hk r (.inl rfl) o ho,x⟩,VDict.at hm.2 fun o e=>hk d (.inr rfl) o e⟩
 notList:=by decide
 notTuple:=by decide
 hint:=fun _ _ _ _ hm hq=>PySem.W.kdl_hint_values hm.1.typeIs hq
 iter:=fun _ _ hh hm=>⟨_,_,(fun _ _ hq=>Mi hm.1 hm.2 hq),Zdp hh _ d (YT (VDict.lt hm.2)) kvs ep,⟨⟨_,YE _ rfl,rfl,rfl⟩,VDict.at hm.2 fun o e=>Y1 _ e⟩⟩
end
def T9(v d:Addr):HO:=.ext fun h=>h.IsValuesView v d
def Fz:V->List V->Hp->VK->Prop:=fun x vs H Q=>∃d kvs,x=.ref d/\vs=[]/\H d=some (.dT kvs)/\∀v,H v=none->Q (.ref v) (upd H v (T9 v d))
section
variable {X:Cx}
def OW:MtR X "dict.values" Fz:=by
 intro pins s σ H x xs v us Q I rx rv h;obtain⟨d,kvs,rfl,rfl,hd,q⟩:=h;cases rx
 have hus:=rv.zero;subst hus;obtain⟨z,lo,xs,rel,dd⟩:=SC I.hok hd;obtain⟨o,es,ep,ho,hx,_⟩:=id dd;refine call_meetsIn PySem.F.slot_dict_values ⟨o,ho,hx.1⟩ PySem.F.entry_dict_values (PySem.F.args_dict_values_1 _) (L3 d lo) ⟨⟨o,ho,hx.1⟩,?_⟩;refine⟨.ref s.heap.objs.size,_,I.laid (a:=s.heap.objs.size) (o:=T9 s.heap.objs.size d) (t':=s.toks) (fun _ _ q=>Y1 _ q) (Y3 _) ⟨⟨_,YE _ rfl,rfl,rfl⟩,⟨_,YE _ rfl⟩,fun h1 h2 ⟨o,ho,r⟩ e=>⟨o,e o ho,r⟩⟩,rfl,q _ (I.hok.fresh (Y3 _))⟩
def Zdt{K:Za}{o:Expr}{to:TE}{name:Str}{apos cpos:Pos}(ho:PE X o to)(hK:X.K=K:=by rfl)(hn:name = "values":=by rfl)(hbase:attributeBase o name X.env (eval o X.env)=eval o X.env:=by rfl)(hline:(apos.endLine==cpos.line)=true:=by rfl):PE X (.Call (.Attribute o name apos) [] [] cpos) (tBM0 K "dict" Fz to):=by
 subst hK hn;exact TX PySem.F.plainAttrs_dict PySem.F.slot_dict_values PySem.F.type_dict_values OW ho hbase hline
def BC{H:Hp}:∀{kvs:List (List Key×V)}{xs:List (List Key×Addr×Value)},KT H kvs xs->Vals (kvs.map (·.2)) (xs.map (·.2.2))
 |_,_,.nil=>.nil
 |_,_,.cons h r=>.cons h.2.2 (BC r)
def Zcf(hc:X.calm=true):Xd X (.type "list") (fun xs H Q=>∃(v d:Addr) (kvs:List (List Key×V)),xs=[.ref v]/\H v=some (T9 v d)/\H d=some (.dT kvs)/\∀l,H l=none->Q (.ref l) (upd H l (.lst (kvs.map (·.2))))):=by
 intro pins s σ H xs us Q I rv h;obtain⟨v,d,kvs,rfl,hv,hd,q⟩:=h;obtain⟨u,rfl,ru⟩:=rv.one;obtain rfl:u=Value.ref v:=ru;obtain⟨z,lo,xs,rel,dd⟩:=SC I.hok hd;obtain⟨o,es,ep,ho,hx,hdat,he,hk,hn⟩:=id dd;have view:s.heap.IsValuesView v d:=(I.hok v _ hv).1;have hl:xs.length=kvs.length:=by simpa using(BC rel).length.symm
 have vd:VDict s.heap d (xs.map fun x=>((),x.2.2)) ep:=by
  refine⟨o,es,ho,hx,hdat,trivial,⟨by rw[he,Yu,Yu],fun {i e k v} h1 h2=>⟨trivial,?_⟩⟩,trivial⟩;rw[he,Y6]at h1;rw[Y6]at h2;cases hi:xs[i]? with
  |none=>rw[hi]at h1;cases h1
  |some x=>
   rw[hi]at h1 h2;cases h1
   cases h2
   rfl
 refine PySem.W.kdl_call Zcj (I.ok.hd hc) ⟨view,vd⟩ (by rw[Yu];omega) fun h' tk acc' c' hk hD hacc=>?_;refine⟨.ref s.heap.objs.size,upd H s.heap.objs.size (.lst (kvs.map (·.2))),?_,rfl,q _ (I.hok.fresh (Y3 _))⟩;have ev:=PySem.W.kdl_vals_eq (kvs:=xs.map fun x=>((),x.2.2)) acc'.toList (by rw[Wi];exact hacc.1) fun j u hu=>hacc.2 j u (by rw[←hu,Ww]);refine I.laid (t':=tk) hk (Y3 _) ⟨by rw[Yu];exact z,acc'.toList,c',?_,by simpa using hD⟩;rw[ev,YZ];exact BC rel
end
end Own
namespace Pu
open PySem PySem.Spec PyProof.Rows L2 Own M
section
variable {K:Za}{mg:Str->Option Value}{E:L2.St->XK}{H0 H H1 H':Hp}{B Z Z':Addr->Prop}{σ:L2.St}{γ:Γ}
def tupD:Option D->Option (List D)
 |some (.tup ds)=>some ds|_=>none
def Fu{o:Option D}{ds:List D}(h:tupD o=some ds):o=some (.tup ds):=by
 unfold tupD at h;split at h
 ·cases h;rfl
 ·cases h
def Zfc:S->S->(S->Prop)->Prop:=fun x y R=>∃ds es,tupD x.shd=some ds/\tupD y.shd=some es/\ds.length+es.length<=100000/\R (.sh (.tup (ds++es)))
def OM{ta tb:TE}{a b:PTE}(ha:SndE K mg E ta a)(hb:SndE K mg E tb b):SndE K mg E (tOp (DU K) ta tb) (p2 a b Zfc):=by
 refine se_2 ha hb fun H0 H H2 Z x y v u R Q s0 s1 hm tx ty h q=>?_;obtain⟨ds,es,e1,e2,hz,h⟩:=h;have hm':∀b,Z b->Mut (H2 b):=fun b z=>Ko s1 (hm b z);have r1:=tx.shd s0 hm s1 (Fu e1);have r2:=ty.shd s0 hm s1 (Fu e2);obtain⟨l,us,rfl,h1,k1⟩:=Rp.tup_inv r1;obtain⟨m,ws,rfl,h2,k2⟩:=Rp.tup_inv r2;refine⟨l,m,us,ws,rfl,rfl,SqT.of (off_sub _ _ h1),SqT.of (off_sub _ _ h2),by rw[k1.len,k2.len];exact Y8 hz (by decide),fun e=>?_,fun _ e=>?_,fun _ _ p np=>?_⟩
 ·subst e;cases k1
  exact q _ _ _ h (Same.refl _) r2
 ·subst e;cases k2
  refine q _ _ _ h (Same.refl _) ?_;rw[Wl];exact r1
 ·refine q _ _ _ h (Xe np) (.tup (UQ UJ fun z=>?_) (Rps.mono (Uo (Xe np) fun _ _ _ z=>z) (k1.append k2)))
  have:=hm' p z
  rw[np]at this;exact this
def pIT(a:PTE):PTI:=fun γ R X=>a γ (fun s=>∃ds,tupD s.shd=some ds/\R ds.length fun i=>.sh (ds.getD i .non)) X
def Tv{te:TE}{a:PTE}(ha:SndE K mg E te a):SndI K mg E (iTup K te) (pIT a):=by
 intro H0 B H σ γ R X Q env h q qx;refine ha H0 B H σ γ _ X _ env h (fun s v H1 h1 S1 t1=>?_) qx;have env1:=env.grow S1;obtain⟨ds,ed,h1⟩:=h1;have r1:=t1.shd env1.same env.zm S1 (Fu ed);obtain⟨l,vs,rfl,hl,k1⟩:=Rp.tup_inv r1;refine⟨l,rfl,⟨vs,SqT.of (off_sub _ _ hl)⟩,q _ _ _ H1 h1 S1 ⟨fun i H' Z' hi lt=>?_,fun H' Z' lt=>?_⟩⟩
 ·have hd:ds[i]?=some (ds.getD i .non):=by rw[Yw,Yt hi];rfl
  obtain⟨u,hu,tu⟩:=k1.get hd;have k:=off_sub _ _ (lt.off _ _ hl);refine⟨⟨vs,u,SqT.of k,hu⟩,fun x H'' y=>?_⟩;obtain⟨rfl,y⟩:=y
  have:=y vs (SqT.of k)
  rw[hu]at this;cases this
  exact⟨Same.refl _,Rp.mono lt.off tu⟩
 ·exact⟨vs,SqT.of (off_sub _ _ (lt.off _ _ hl)),by rw[k1.len];exact Y3 _⟩
def Ts:List (List Key×V)->Bool
 |[]=>true
 |p::r=>Si p.2&&Ts r
def HM:∀{kvs:List (List Key×V)},Ts kvs=true->Rps K H (kvs.map fun p=>vD p.2) (kvs.map (·.2))
 |[],_=>.nil
 |p::r,h=>by
  unfold Ts at h;rw[Wf]at h;exact .cons (FQ h.1) (HM h.2)
def Zfo:List V->Hp->VK->Prop:=fun xs H Q=>∃(v d:Addr) (kvs:List (List Key×V)),xs=[.ref v]/\H v=some (T9 v d)/\H d=some (.dT kvs)/\∀l,H l=none->Q (.ref l) (upd H l (.lst (kvs.map (·.2))))
def Zfj(a:PTE):PTE:=fun γ R X=>a γ (fun s=>∃kvs,s.d=.dT kvs/\Ts kvs=true/\R (.own (.lst (kvs.map fun p=>vD p.2)))) X
def RF{te:TE}{a:PTE}(ha:SndE K mg E te a):SndE K mg E (tCB Zfo (Xc (tBM0 K "dict" Fz te) tNil)) (Zfj a):=by
 intro H0 B H σ γ R X Q env h q qx;refine ha H0 B H σ γ _ X _ env h (fun s v H1 h1 S1 t1=>?_) qx;obtain⟨kvs,e,hs,hR⟩:=h1;have env1:=env.grow S1;have rx:=t1.rp env1.same;rw[e]at rx;obtain⟨l,rfl,hl⟩:=rx.dT_inv;refine⟨.inr (.inr (.inl ⟨rfl,.inr ⟨kvs,hl⟩⟩)),l,kvs,rfl,rfl,hl,fun p np=>?_⟩;refine⟨p,l,kvs,rfl,UJ,by rw[Uv (Kb hl np)];exact hl,fun m nm=>?_⟩;have S2:Same H1 (upd H1 p (T9 p l)):=Xe np;exact q _ _ _ hR ((S1.trans S2).trans (Xe nm)) ⟨m,rfl,(fun _ e=>e▸(S1.trans S2).free nm),_,UJ,HM hs⟩
def OT(a b:PTE):PTE:=fun γ R X=>a γ (fun y=>b γ (fun x=>∃ks u,PK y.d=some ks/\NY x.d=some u/\R (.own (.dT [(ks,u)]))) X) X
def Zgm{tk tv:TE}{a b:PTE}(ha:SndE K mg E tk a)(hb:SndE K mg E tv b):SndE K mg E (E4 tk tv) (OT a b):=by
 intro H0 B H σ γ R X Q env h q qx;intro p np;have S0:Same H (upd H p (.dT [])):=Xe np;have env0:=env.grow S0;refine ha H0 B _ σ γ _ X _ env0 h (fun y v H1 h1 S1 t1=>?_) fun c H' hc S'=>qx c H' hc (S0.trans S');have env1:=env0.grow S1;refine hb H0 B H1 σ γ _ X _ env1 h1 (fun x w H2 h2 S2 t2=>?_) fun c H' hc S'=>qx c H' hc ((S0.trans S1).trans S');have env2:=env1.grow S2;obtain⟨ks,u,k1,k2,k3⟩:=h2;have eu:=AM (t2.rp env2.same) k2;obtain⟨b',rfl,hb'⟩:=Nr (Rp.mono S2 (t1.rp env1.same)) k1;subst eu;refine⟨S2 _ _ (S1 _ _ UJ),b',ks,rfl,hb',q _ _ _ k3 (fun c o hc=>?_) ⟨p,rfl,(fun _ e=>e▸np),UJ⟩⟩
 have:c≠p:=fun e=>by subst e;rw[np]at hc;cases hc
 rw[Uv this];exact S2 _ _ (S1 _ _ (S0 _ _ hc))
end
section
variable {X:Cx}{K:Za}
def PQ{tg l:Expr}{tl:TE}(hl:PE X l tl)(hK:X.K=K:=by rfl):PI X tg l (iTup K tl):=by subst hK;exact MV hl
end
end Pu
namespace M
open PySem PySem.Spec PyProof.Rows L2 Own Pu
def tD(ms:List Int):D:=.tup (ms.map D.int)
def kT(ms:List Int):List Key:=ms.map Sum.inl
def MJ(ms:List Int):arg (tD ms)=.sh (tD ms):=by
 unfold arg tD imm;rw[T4]
def Nq{N:List Str}{ms:List Int}{ds:List D}:K7 N (tD ms::ds)=some (.sh (tD ms))::(ds.map (fun d=>some (arg d))++List.replicate (N.length-(ds.length+1)) none):=by
 unfold K7;rw[YC,MJ];rfl
def Sn(ms:List Int):PK (tD ms)=some (kT ms):=by
 show PM (ms.map D.int)=some (ms.map Sum.inl)
 induction ms with
 |nil=>rfl
 |cons m r ih=>
  rw[YC,YC];unfold PM;rw[ih];rfl
def Zbl(ms:List Int):tupD (some (tD ms))=some (ms.map D.int):=rfl
def Uq(ms:List Int)(h:Int):List Int:=ms.filter fun m=>decide (m≠h)
def K5(ws:List (Int×Int))(ms:List Int)(h:Int):Bool:=!(ws.any fun q=>decide (q.1=h)&&decide (q.2∈ms))
def firstM(ws:List (Int×Int))(ms:List Int)(h:Int):Bool:=!(ws.any fun q=>decide (q.2=h)&&decide (q.1∈ms))
def U2(hs:List Int):List (List Int):=hs.foldl (fun S h=>S++S.map (·++[h])) [[]]
def Pz(hs:List Int)(h:Int):U2 (hs++[h])=U2 hs++(U2 hs).map (·++[h]):=by
 unfold U2;rw[List.foldl_append];rfl
def Ta{P:List Int->Prop}(h0:P [])(h1:∀r h,P r->P (r++[h]))(l:List Int):P l:=by
 have key:∀r:List Int,P r.reverse:=fun r=>by
  induction r with
  |nil=>exact h0
  |cons a r ih=>rw[List.reverse_cons];exact h1 _ _ ih
 rw[←List.reverse_reverse l];exact key _
def DL(hs:List Int):(U2 hs).length=2 ^ hs.length:=by
 refine Ta (P:=fun hs=>(U2 hs).length=2 ^ hs.length) rfl (fun r h ih=>?_) hs;rw[Pz,Y4,Yu,ih,Y4,Wn,Nat.pow_succ];omega
def ND(hs:List Int):∀ms∈U2 hs,ms.Sublist hs:=by
 refine Ta (P:=fun hs=>∀ms∈U2 hs,ms.Sublist hs) (fun ms h=>?_) (fun r h ih ms hm=>?_) hs
 ·have:ms=[]:=by simpa [U2]using h
  subst this;exact .slnil
 ·rw[Pz,YR]at hm;rcases hm with hm|hm
  ·exact(ih _ hm).trans (List.sublist_append_left _ _)
  ·obtain⟨n,hn,rfl⟩:=YX.mp hm;exact(ih _ hn).append (List.Sublist.refl _)
def oc(c:Int->Int->Int):List Int->Int
 |[]=>0
 |a::r=>(r.map (c a)).sum+oc c r
def Keeps(ws:List (Int×Int))(o:List Int):Prop:=o.Pairwise fun a b=>(b,a)∉ws
structure Least (ws:List (Int×Int)) (c:Int->Int->Int) (ms:List Int) (v:Int):Prop where
 is:∃o:List Int,o.Perm ms/\Keeps ws o/\oc c o=v
 le:∀o:List Int,o.Perm ms->Keeps ws o->v<=oc c o
def Least.uniq {ws:List (Int×Int)}{c:Int->Int->Int}{ms:List Int}{v u:Int} (h:Least ws c ms v) (k:Least ws c ms u):v=u:=by
 obtain⟨o,o1,o2,o3⟩:=h.is;obtain⟨p,p1,p2,p3⟩:=k.is
 have:=h.le p p1 p2
 have:=k.le o o1 o2
 omega
def NF(c:Int->Int->Int)(l:Int):∀o:List Int,oc c (o++[l])=oc c o+(o.map (c · l)).sum
 |[]=>by simp[oc]
 |a::r=>by
  rw[W9];unfold oc;rw[NF c l r];simp only[Y9,YC,VD,List.sum_append,Qg,List.sum_nil];omega
def PL{f:Int->Int}{xs ys:List Int}(h:xs.Perm ys):(xs.map f).sum=(ys.map f).sum:=by
 induction h with
 |nil=>rfl
 |cons x _ ih=>rw[YC,YC,Qg,Qg,ih]
 |swap x y l=>
  simp only[YC,Qg];omega
 |trans _ _ i1 i2=>exact i1.trans i2
def KD{ms:List Int}{h:Int}(nd:ms.Nodup)(hm:h∈ms):ms.Perm (h::Uq ms h):=by
 have e:Uq ms h=ms.erase h:=by
  unfold Uq;rw[nd.erase_eq_filter];congr 1;funext m;by_cases z:m=h<;>simp[z,bne]
 rw[e];exact List.perm_cons_erase hm
def less_sub{ms:List Int}{h:Int}:(Uq ms h).Sublist ms:=Vt
def lastM_iff{ws:List (Int×Int)}{ms:List Int}{h:Int}:K5 ws ms h=true↔∀b∈ms,(h,b)∉ws:=by
 unfold K5;rw[V9,V6];constructor
 ·intro k b hb hw;exact k _ hw (by simp[hb])
 ·intro k q hq z;simp only[Wf,Q2]at z;obtain⟨z1,z2⟩:=z;subst z1;exact k q.2 z2 hq
def firstM_iff{ws:List (Int×Int)}{ms:List Int}{h:Int}:firstM ws ms h=true↔∀b∈ms,(b,h)∉ws:=by
 unfold firstM;rw[V9,V6];constructor
 ·intro k b hb hw;exact k _ hw (by simp[hb])
 ·intro k q hq z;simp only[Wf,Q2]at z;obtain⟨z1,z2⟩:=z;subst z1;exact k q.1 z2 hq
def Mx{ws:List (Int×Int)}{c:Int->Int->Int}{ms:List Int}{vs:Int->Int}{M:Int}(nd:ms.Nodup)(hw:∀q∈ws,q.1≠q.2)(hv:∀l∈ms,Least ws c (Uq ms l) (vs l))(h1:∃l∈ms,K5 ws ms l=true/\M=vs l+((Uq ms l).map (c · l)).sum)(h2:∀l∈ms,K5 ws ms l=true->M<=vs l+((Uq ms l).map (c · l)).sum):Least ws c ms M:=by
 constructor
 ·obtain⟨l,hl,hlast,e⟩:=h1;obtain⟨o,o1,o2,o3⟩:=(hv l hl).is;refine⟨o++[l],?_,?_,?_⟩
  ·exact(List.perm_append_singleton l o).trans (((List.Perm.cons l o1)).trans (KD nd hl).symm)
  ·refine WE.mpr ⟨o2,List.pairwise_singleton _ _,fun a ha b hb=>?_⟩;rw[Y5.mp hb];exact lastM_iff.mp hlast a (less_sub.subset (o1.mem_iff.mp ha))
  ·rw[NF,o3,e,PL o1]
 ·intro o o1 o2;rcases W6 o with rfl|⟨p,l,rfl⟩
  ·obtain⟨l,hl,_⟩:=h1;rw[o1.nil_eq.symm]at hl;cases hl
  ·rw[WO]at o1 o2 ⊢;have hl:l∈ms:=o1.mem_iff.mp (by simp);obtain⟨k1,_,k2⟩:=WE.mp o2
   have pp:p.Perm (Uq ms l):=by
    have:=((List.perm_append_singleton l p).symm.trans o1).trans (KD nd hl)
    exact this.cons_inv
   have hlast:K5 ws ms l=true:=lastM_iff.mpr fun b hb=>by
    rcases YA.mp ((KD nd hl).mem_iff.mp hb)with e|hb'
    ·subst e;exact fun z=>hw _ z rfl
    ·exact k2 b (pp.mem_iff.mpr hb') l (Y5.mpr rfl)
   have a1:=h2 l hl hlast;have a2:=(hv l hl).le p pp k1;rw[NF,PL pp];omega
def Ct(a b:List Int)(l:Int):Uq (a++b) l=Uq a l++Uq b l:=List.filter_append ..
def CM{a:List Int}{l:Int}(h:l∉a):Uq a l=a:=List.filter_eq_self.mpr fun m hm=>Yy fun e=>h (e▸hm)
def Zbf(hs:List Int):∃T,U2 hs=[]::T:=by
 refine Ta (P:=fun hs=>∃T,U2 hs=[]::T) ⟨[],rfl⟩ (fun r h ⟨T,e⟩=>?_) hs;rw[Pz,e];exact⟨_,rfl⟩
def Ho(hs:List Int):(U2 hs).getLast?=some hs:=by
 refine Ta (P:=fun hs=>(U2 hs).getLast?=some hs) rfl (fun r h e=>?_) hs;rw[Pz,List.getLast?_append,List.getLast?_map,e];rfl
def DX{hs:List Int}:hs.Nodup->(U2 hs).Nodup:=by
 refine Ta (P:=fun hs=>hs.Nodup->(U2 hs).Nodup) (fun _=>by simp[U2]) (fun r h ih nd=>?_) hs;obtain⟨n1,_,n2⟩:=W4.mp nd;rw[Pz];refine W4.mpr ⟨ih n1,?_,fun a ha b hb e=>?_⟩
 ·exact VA _ (fun a b hne e=>hne (List.append_cancel_right e)) (ih n1)
 ·obtain⟨c,hc,rfl⟩:=YX.mp hb;subst e;exact n2 h ((ND r _ ha).subset (by simp)) h (by simp) rfl
def GA{hs:List Int}:hs.Nodup->∀(k:Nat) (ms:List Int),(U2 hs)[k]?=some ms->∀l∈ms,∃j:Nat,j<k/\(U2 hs)[j]?=some (Uq ms l):=by
 refine Ta (P:=fun hs=>hs.Nodup->∀(k:Nat) (ms:List Int),(U2 hs)[k]?=some ms->∀l∈ms,∃j:Nat,j<k/\(U2 hs)[j]?=some (Uq ms l)) (fun _ k ms e l hl=>?_) (fun r h ih nd k ms e l hl=>?_) hs
 ·have:ms=[]:=by
   have:=YM e
   simpa [U2]using this
  subst this;cases hl
 ·obtain⟨n1,_,n2⟩:=W4.mp nd;rw[Pz]at e ⊢;by_cases hk:k<(U2 r).length
  ·rw[YW hk]at e;obtain⟨j,hj,ej⟩:=ih n1 k ms e l hl;exact⟨j,hj,by rw[YW (by omega)];exact ej⟩
  ·rw[Wc (by omega),Y6]at e;cases q:(U2 r)[k-(U2 r).length]? with
   |none=>rw[q]at e;cases e
   |some n=>
    rw[q]at e;cases e
    have hh:h∉n:=fun z=>n2 h ((ND r n (YM q)).subset z) h (by simp) rfl;by_cases el:l=h
    ·subst el
     have e1:Uq (n++[l]) l=n:=by
      rw[Ct,CM hh];simp[Uq]
     obtain⟨j,hj,ej⟩:=W1.mp (YM q);refine⟨j,by omega,?_⟩;rw[YW hj,e1,Yt hj,ej]
    ·have hln:l∈n:=by
      rcases YR.mp hl with z|z
      ·exact z
      ·exact absurd (Y5.mp z) el
     have e1:Uq (n++[h]) l=Uq n l++[h]:=by
      rw[Ct];congr 1;exact CM fun z=>el (Y5.mp z)
     obtain⟨j,hj,ej⟩:=ih n1 _ n q l hln;refine⟨(U2 r).length+j,by omega,?_⟩;rw[Wc (by omega),Y6,Nat.add_sub_cancel_left,ej,e1];rfl
def Sa{a b:List Int}(h:kT a=kT b):a=b:=List.map_inj_right (fun _ _=>Sum.inl.inj) |>.mp h
def DY(hs:List Int)(ws:List (Int×Int)):Prop:=∀ms:List Int,ms.Sublist hs->ms≠[]->∃l∈ms,∀b∈ms,(l,b)∉ws
structure Tab (ws:List (Int×Int)) (c:Int->Int->Int) (S:List (List Int)) (kvs:List (List Key×V)):Prop where
 keys:kvs.map (·.1)=S.map kT
 val:∀ms∈S,∃v,valV kvs (kT ms)=some (.int v)/\Least ws c ms v
def OX(ws:List (Int×Int))(c:Int->Int->Int):Tab ws c [[]] [([],.int 0)]:=by
 refine⟨rfl,fun ms hm=>?_⟩;rw[Y5.mp hm];refine⟨0,rfl,⟨[],.refl _,.nil,rfl⟩,fun o ho _=>?_⟩;rw[ho.eq_nil];exact Q0 _
def Tab.put {ws:List (Int×Int)}{c:Int->Int->Int}{S:List (List Int)}{kvs:List (List Key×V)}{ms:List Int}{v:Int} (T:Tab ws c S kvs) (hn:ms∉S) (L:Least ws c ms v):Tab ws c (S++[ms]) (putK kvs (kT ms) (.int v)):=by
 have no:valV kvs (kT ms)=none:=by
  cases e:valV kvs (kT ms)with
  |none=>rfl
  |some u=>
   unfold valV at e;cases q:kvs.find? (fun kv=>decide (kv.1=kT ms))with
   |none=>rw[q]at e;cases e
   |some x=>
    have h1:=List.mem_of_find?_eq_some q;have h2:=List.find?_some q;have h3:x.1∈kvs.map (·.1):=YX.mpr ⟨x,h1,rfl⟩;rw[T.keys,Y0 h2]at h3;obtain⟨n,hn',e'⟩:=YX.mp h3;rw[Sa e']at hn';exact absurd hn' hn
 constructor
 ·rw[Zdh _ no,Y9,Y9,T.keys];rfl
 ·intro n hn';rw[Tc];by_cases e:n=ms
  ·subst e;exact⟨v,Yz rfl,L⟩
  ·rw[Yx fun z=>e (Sa z)];rcases YR.mp hn' with z|z
   ·exact T.val n z
   ·exact absurd (Y5.mp z) e
open Classical in
def Hn{ms:List Int}{P:Int->Int->Prop}(h:∀l∈ms,∃v,P l v):∃f:Int->Int,∀l∈ms,P l (f l):=
 ⟨fun l=>if hl:l∈ms then Classical.choose (h l hl)else 0,fun l hl=>by
  simp only[dif_pos hl];exact Classical.choose_spec (h l hl)⟩
def Zcs{ls:List Int}{ws:List (Int×Int)}{r:List Int}(R:Ring ls (ws.map fun q=>(q.2,q.1)) r):Ring ls ws r.reverse:=by
 have sw:∀{x y:Int},(x,y)∈(ws.map fun q=>(q.2,q.1))->(y,x)∈ws:=fun h=>by
  obtain⟨q,hq,e⟩:=YX.mp h;cases e
  exact hq
 refine⟨by rw[Vu];exact R.two,List.pairwise_reverse.mpr (R.nodup.imp fun h=>Ne.symm h),fun x hx=>R.sub x (List.mem_reverse.mp hx),fun i x y h1 h2=>?_,fun x y h1 h2=>?_⟩
 ·have hi:i+1<r.length:=by
   have:=(YQ.mp h2).1
   rw[Vu]at this;exact this
  rw[Vi (by omega)]at h1 h2;exact sw (R.chain (r.length-1-(i+1)) y x h2 (by rw[←h1];congr 1;omega))
 ·have two:=R.two;rw[Vi (by omega)]at h1;rw[Vu,Vi (by omega)]at h2;exact sw (R.last y x (by rw[←h2];congr 1;omega) (by rw[←h1];congr 1))
def E3{hs:List Int}{ws:List (Int×Int)}(hu:∀q∈ws,q.1≠q.2)(h:¬ ∃r,Ring hs ws r):DY hs ws:=fun ms hm hne=>by
 refine YY fun z=>h ?_
 have h1:∀x∈ms,∃y∈ms,(y,x)∈(ws.map fun q=>(q.2,q.1)):=fun x hx=>by
  refine YY fun k=>z ⟨x,hx,fun b hb hw=>k ⟨b,hb,YX.mpr ⟨_,hw,rfl⟩⟩⟩
 obtain⟨r,R⟩:=CQ (ws:=ws.map fun q=>(q.2,q.1)) (fun q hq=>by
  obtain⟨p,hp,e⟩:=YX.mp hq;subst e;exact fun e=>hu p hp e.symm) hne h1
 have F:=Zcs R;exact⟨_,F.two,F.nodup,fun x hx=>hm.subset (F.sub x hx),F.chain,F.last⟩
def EK:∀{kvs:List (List Key×V)},(kvs.map (·.1)).Nodup->∀p∈kvs,valV kvs p.1=some p.2
 |[],_,p,h=>by cases h
 |q::r,nd,p,h=>by
  rw[YC,YV]at nd;rcases YA.mp h with e|h
  ·rw[e];exact Kf rfl
  ·rw[Ke fun e=>nd.1 (YX.mpr ⟨p,h,e.symm⟩)];exact EK nd.2 p h
def TabV(ws:List (Int×Int))(c:Int->Int->Int)(S:List (List Int))(vs:List Int):Prop:=vs.length=S.length/\∀(i:Nat) (ms:List Int) (v:Int),S[i]?=some ms->vs[i]?=some v->Least ws c ms v
def Tab.vals {ws:List (Int×Int)}{c:Int->Int->Int}{S:List (List Int)}{kvs:List (List Key×V)} (T:Tab ws c S kvs) (nd:S.Nodup):∃vs:List Int,kvs.map (·.2)=vs.map V.int/\TabV ws c S vs:=by
 have nk:(kvs.map (·.1)).Nodup:=by
  rw[T.keys];exact VA _ (fun a b hne e=>hne (Sa e)) nd
 have hk:∀p∈kvs,∃ms∈S,p.1=kT ms/\∃v,p.2=.int v/\Least ws c ms v:=fun p hp=>by
  have h1:p.1∈kvs.map (·.1):=YX.mpr ⟨p,hp,rfl⟩;rw[T.keys]at h1;obtain⟨ms,hm,e⟩:=YX.mp h1;obtain⟨v,h2,h3⟩:=T.val ms hm;rw[e,EK nk p hp]at h2;exact⟨ms,hm,e.symm,v,Y7 h2,h3⟩
 have hl:kvs.length=S.length:=by
  have:=Wj List.length T.keys
  rw[Yu,Yu]at this;exact this
 refine⟨kvs.map fun p=>match p.2 with | .int v=>v|_=>0,?_,by rw[Yu,hl],fun i ms v h1 h2=>?_⟩
 ·rw[YZ];refine WK fun p hp=>?_;obtain⟨ms,_,_,v,e,_⟩:=hk p hp;show p.2=V.int (match p.2 with | .int v=>v|_=>0)
  rw[e]
 ·rw[Y6]at h2;cases q:kvs[i]? with
  |none=>rw[q]at h2;cases h2
  |some p=>
   rw[q]at h2;obtain⟨ms',hm',e1,u,e2,L⟩:=hk p (YM q);have h3:(kvs.map (·.1))[i]?=some p.1:=by rw[Y6,q];rfl
   rw[T.keys,Y6,h1]at h3;have e3:ms=ms':=Sa ((Y7 h3).trans e1);subst e3
   have e4:u=v:=by
    have:=Y7 h2
    simp only[e2]at this;exact this
   rw[←e4];exact L
def D2:∀{kvs:List (List Key×V)}{vs:List Int},kvs.map (·.2)=vs.map V.int->Ts kvs=true/\kvs.map (fun p=>vD p.2)=vs.map D.int
 |[],[],_=>⟨rfl,rfl⟩
 |p::r,v::vs,h=>by
  rw[YC,YC,WR]at h;obtain⟨h1,h2⟩:=D2 h.2;unfold Ts;rw[h1,YC,YC,h2,h.1];exact⟨rfl,rfl⟩
structure Best (ws:List (Int×Int)) (c:Int->Int->Int) (ms o:List Int):Prop where
 perm:o.Perm ms
 keeps:Keeps ws o
 le:∀p:List Int,p.Perm ms->Keeps ws p->oc c o<=oc c p
 first:∀p:List Int,p.Perm ms->Keeps ws p->oc c p=oc c o->o=p\/sl o p
def Zcw(ws:List (Int×Int))(c:Int->Int->Int):Best ws c [] []:=by
 refine⟨.refl _,.nil,fun p hp _=>?_,fun p hp _ _=>.inl hp.eq_nil.symm⟩;rw[hp.eq_nil];exact Q0 _
def Hw{ws:List (Int×Int)}{c:Int->Int->Int}{ms:List Int}{vs:Int->Int}{V g:Int}{p:List Int}(nd:ms.Nodup)(hu:∀q∈ws,q.1≠q.2)(hv:∀l∈ms,Least ws c (Uq ms l) (vs l))(hV:Least ws c ms V)(hp:(g::p).Perm ms)(hk:Keeps ws (g::p))(e:oc c (g::p)=V):g∈ms/\firstM ws ms g=true/\vs g+((Uq ms g).map (c g)).sum=V/\p.Perm (Uq ms g)/\oc c p=vs g:=by
 have hg:g∈ms:=hp.mem_iff.mp (YO ..);have pp:p.Perm (Uq ms g):=(hp.trans (KD nd hg)).cons_inv;obtain⟨k1,k2⟩:=Wh.mp hk
 have hf:firstM ws ms g=true:=firstM_iff.mpr fun b hb=>by
  rcases YA.mp ((KD nd hg).mem_iff.mp hb)with e|hb'
  ·subst e;exact fun z=>hu _ z rfl
  ·exact k1 b (pp.mem_iff.mpr hb')
 have a1:=(hv g hg).le p pp k2;obtain⟨o,o1,o2,o3⟩:=(hv g hg).is;have a2:=hV.le (g::o) ((List.Perm.cons g o1).trans (KD nd hg).symm) (Wh.mpr ⟨fun b hb=>firstM_iff.mp hf b (less_sub.subset (o1.mem_iff.mp hb)),o2⟩);have e1:oc c (g::p)=(p.map (c g)).sum+oc c p:=rfl;have e2:oc c (g::o)=(o.map (c g)).sum+oc c o:=rfl;have s1:=PL (f:=c g) pp;have s2:=PL (f:=c g) o1;exact⟨hg,hf,by omega,pp,by omega⟩
def Zhp{ws:List (Int×Int)}{c:Int->Int->Int}{ms o:List Int}{vs:Int->Int}{V f:Int}(nd:ms.Nodup)(hu:∀q∈ws,q.1≠q.2)(hv:∀l∈ms,Least ws c (Uq ms l) (vs l))(hV:Least ws c ms V)(hf:f∈ms)(h1:firstM ws ms f=true)(h2:vs f+((Uq ms f).map (c f)).sum=V)(h3:∀g∈ms,firstM ws ms g=true->vs g+((Uq ms g).map (c g)).sum=V->f<=g)(B:Best ws c (Uq ms f) o):Best ws c ms (f::o):=by
 have eo:oc c o=vs f:=by
  obtain⟨p,p1,p2,p3⟩:=(hv f hf).is
  have:=(hv f hf).le o B.perm B.keeps
  have:=B.le p p1 p2
  omega
 have es:=PL (f:=c f) B.perm
 have e:oc c (f::o)=V:=by
  show(o.map (c f)).sum+oc c o=V;omega
 refine⟨(List.Perm.cons f B.perm).trans (KD nd hf).symm,Wh.mpr ⟨fun b hb=>firstM_iff.mp h1 b (less_sub.subset (B.perm.mem_iff.mp hb)),B.keeps⟩,fun p p1 p2=>?_,fun p p1 p2 p3=>?_⟩
 ·rw[e];exact hV.le p p1 p2
 ·cases p with
  |nil=>rw[p1.nil_eq.symm]at hf;cases hf
  |cons g p=>
   obtain⟨q1,q2,q3,q4,q5⟩:=Hw nd hu hv hV p1 p2 (p3.trans e);have hle:=h3 g q1 q2 q3;by_cases eg:f=g
   ·subst eg;rcases B.first p q4 (Wh.mp p2).2 (q5.trans eo.symm)with z|z
    ·exact .inl (by rw[z])
    ·exact .inr (sl_cons.mpr z)
   ·exact .inr (.inl (by omega))
end M
namespace Pu
open PySem PySem.Spec PyProof.Rows L2 Own
section
variable {K:Za}{mg:Str->Option Value}{E:L2.St->XK}{H0 H H1 H':Hp}{B Z Z':Addr->Prop}{σ:L2.St}{γ:Γ}
def O.from:O->O->Prop
 | .ins x _ _ cs,.ins x' _ _ cs'=>x'=x/\∀c∈cs,∃c'∈cs',c'.1=c.1
 | .lsA x _,.lsA x' _=>x'=x
 |_,_=>False
def O.from_adr {o o':O}{a:Addr} (h:o.from o'):∀b,o.adr a b->o'.adr a b:=by
 unfold O.from at h
 split at h
 ·intro b hb;rcases hb with hb|⟨c,hc,hb⟩
  ·exact .inl (hb.trans h.1.symm)
  ·obtain⟨c',q1,q2⟩:=h.2 c hc;exact .inr ⟨c',q1,hb.trans q2.symm⟩
 ·intro b hb;exact(show b=_ from hb).trans h.symm
 ·exact h.elim
def O.from_at {o o':O}{a a':Addr}{F F' H H':Hp} (h:o.from o') (h1:OR K F H a o) (h2:OR K F' H' a' o'):a'=a:=by
 unfold O.from at h
 split at h
 ·exact h2.1.trans (h.1.trans h1.1.symm)
 ·exact h2.1.trans (h.trans h1.1.symm)
 ·exact h.elim
abbrev Pw:=O->List S->(O->D->Prop)->(O->Str->Prop)->Prop
def S.pass:S->Option S
 | .sh d=>some (.sh d) | .own o=>some (.sh o.d)
 | .bor d=>match imm d with|true=>some (.sh d)|false=>some (.bor d)
 | .tmp d=>match imm d with|true=>some (.sh d)|false=>none
 | .view _=>none
def S.flat:S->Prop
 | .sh _=>True | .bor _=>True|_=>False
def passes:List S->Option (List S)
 |[]=>some []
 |s::r=>match s.pass,passes r with|some s',some r'=>some (s'::r')|_,_=>none
structure After (K:Za) (B:Addr->Prop) (H:Hp) (a:Addr) (o o':O) (H':Hp):Prop where
 same:Same (off (o.adr a) H) H'
 old:∀b,o.adr a b->o'.adr a b
 new:∀b,o'.adr a b->o.adr a b\/H b=none
 at_:OR K (off (fun b=>B b\/o'.adr a b) H') H' a o'
def spW(mg:Str->Option Value)(c:Pw)(K:Za):Sp:=fun vs H Q E=>∃(o:O) (a:Addr) (ss:List S) (us:List V) (B:Addr->Prop) (R:O->D->Prop) (X:O->Str->Prop),
 vs=.ref a::us/\(∀b,B b->Mut (H b)/\¬o.adr a b)/\OR K (off (fun b=>B b\/o.adr a b) H) H a o/\TVs K (fun b=>B b\/o.adr a b) (off (o.adr a) H) H H ss us/\(∀s∈ss,s.flat)/\c o ss R X/\
 (∀o' d v H',R o' d->After K B H a o o' H'->Rp K (off (fun b=>B b\/o'.adr a b) H') d v->Q v H')/\∀o' e H',X o' e->After K B H a o o' H'->E (.ref (ExcR.JU mg e)) none H'
def TVs.get:∀{ss:List S}{vs:List V}{i:Nat}{s:S},TVs K Z H0 H H' ss vs->ss[i]?=some s->∃v,vs[i]?=some v/\TV K Z H0 H H' s v
 |_,_,_,_,.nil,e=>by simp at e
 |_,_,0,_,.cons h _,e=>by simp at e;subst e;exact⟨_,rfl,h⟩
 |_,_,i+1,s,.cons _ r,e=>by
  obtain⟨v,h1,h2⟩:=TVs.get (i:=i) (s:=s) r (by simpa using e);exact⟨v,by simpa using h1,h2⟩
def KO(N:List Str)(o:O)(ss:List S):Γ:=some (.own o)::(ss.map some++List.replicate (N.length-(ss.length+1)) none)
def Ze1{N:List Str}{o:O}{a:Addr}{ss:List S}{us:List V}(hB:∀b,B b->Mut (H b)/\¬o.adr a b)(ho:OR K (off (fun b=>B b\/o.adr a b) H) H a o)(r:TVs K (fun b=>B b\/o.adr a b) (off (o.adr a) H) H H ss us)(hf:∀s∈ss,s.flat)(hn:ss.length+1<=N.length) :
  EnvR K (off (o.adr a) H) B H (start N (.ref a::us)) (KO N o ss):=by
 have hlen:=r.len
 have get:∀(i:Nat) (s:S),(KO N o ss)[i+1]?=some (some s)->ss[i]?=some s:=fun i s h=>by
  unfold KO at h;rw[Ws]at h;by_cases hi:i<ss.length
  ·rw[YW (by rw[Yu];exact hi),Y6,Yt hi]at h;rw[Yt hi];exact Wj some (Y7 (Y7 h))
  ·rw[Wc (by rw[Yu];omega),WX]at h;split at h<;>cases h
 have noown:∀(i:Nat) (es:O),(KO N o ss)[i+1]?≠some (some (.own es)):=fun i es h=>hf _ (YM (get i _ h))
 have st0:(start N (V.ref a::us))[0]?=some (some (.ref a)):=by
  unfold L2.start;rfl
 have hz:∀b,zof B (KO N o ss) (start N (V.ref a::us)) b->B b\/o.adr a b:=fun b z=>by
  rcases z with z|⟨i,es,a',h1,h2,h3⟩
  ·exact .inl z
  ·cases i with
   |zero=>
    rw[st0]at h2;cases h2
    have:o=es:=by
     have h1:some (some (S.own o))=some (some (S.own es)):=h1;cases h1
     rfl
    subst this;exact .inr h3
   |succ i=>exact absurd h1 (noown i es)
 refine⟨off_sub,?_,fun b h=>(hB b h).1,fun i j x x' es es' b h1 h2 _ _ _ _=>?_,fun i s h=>?_⟩
 ·unfold L2.start KO;simp[hlen]
 ·cases i with
  |succ i=>exact absurd h1 (noown i es)
  |zero=>
   cases j with
   |zero=>rfl
   |succ j=>exact absurd h2 (noown j es')
 ·cases i with
  |zero=>
   have h:some (some (S.own o))=some (some s):=h;cases h
   refine⟨_,st0,a,rfl,fun b hb=>?_,ho.mono (Uo (Same.refl _) fun b _ _ z y=>z (hz b y)) fun _ _ _ q=>q⟩;unfold off;rw[Yz hb]
  |succ i=>
   have hs:=get i s h;obtain⟨v,hv,tv⟩:=r.get hs;refine⟨v,?_,?_⟩
   ·unfold L2.start;rw[YW (by rw[Yu,YF];have:=(YQ.mp hv).1;omega),Y6,Ws,hv];rfl
   ·have:=hf s (YM hs)
    cases s with
    |bor d=>exact tv
    |sh d=>exact Rp.mono (Uo (Same.refl _) fun b _ _ z y=>z (hz b y)) tv
    |own _=>exact this.elim
    |view _=>exact this.elim
    |tmp _=>exact this.elim
def finW(o:O)(R:O->D->Prop)(γ:Γ)(d:D):Prop:=∃o',γ[0]?=some (some (.own o'))/\o.from o'/\R o' d
def finX(o:O)(X:O->Str->Prop)(γ:Γ)(e:Str):Prop:=∃o',γ[0]?=some (some (.own o'))/\o.from o'/\X o' e
def Dy(o:O)(R:O->D->Prop)(X:O->Str->Prop):PEnds:={nx:=fun γ=>finW o R γ .non,rt:=fun _=>False,ex:=finX o X,rv:=finW o R}
def Af{a:Addr}{o o':O}{σ':L2.St}{γ':Γ}(ho:OR K (off (fun b=>B b\/o.adr a b) H) H a o)(e:EnvR K (off (o.adr a) H) B H' σ' γ')(h:γ'[0]?=some (some (.own o')))(k:o.from o'):After K B H a o o' H'/\∀b,B b\/o'.adr a b->zof B γ' σ' b:=by
 obtain⟨v,h1,a',rfl,h2,h3⟩:=e.slot 0 _ h;have ea:=O.from_at k ho h3;subst ea;have hz:∀b,B b\/o'.adr a' b->zof B γ' σ' b:=fun b z=>z.imp id fun z=>⟨0,o',a',h,h1,z⟩;refine⟨⟨e.same,O.from_adr k,fun b hb=>?_,h3.mono (Uo (Same.refl _) fun b _ _ z y=>z (hz b y)) fun _ _ _ q=>q⟩,hz⟩
 have:=h2 b hb
 unfold off at this;by_cases q:o.adr a' b
 ·exact .inl q
 ·rw[Yx q]at this;exact .inr this
def L5{c:Pw}{N:List Str}{t:TS}{p:PTS}{vs:List V}{Q:VK}{Ec:XK}{n:Nat}(h:spW mg c K vs H Q Ec)(snd:SndS K mg (fun _=>Ec) t p)(hn:n+1<=N.length)(hp:∀o ss R X,c o ss R X->ss.length=n/\p (Dy o R X) (KO N o ss)):t {nx:=fun _ H'=>Q .non H',rt:=Q} (start N vs) H:=by
 obtain⟨o,a,ss,us,B,R,X,rfl,hB,ho,r,hf,hc,hQ,hX⟩:=h;obtain⟨e,hp⟩:=hp o ss R X hc;have env:=Ze1 (N:=N) hB ho r hf (by rw[e];exact hn);refine snd _ B H _ _ _ _ (fun b z=>?_) env hp ⟨fun σ' γ' H' h1 e1 f1=>?_,fun _ _ _ z=>z.elim,fun σ' γ' c H' h1 e1 f1=>?_,fun _ _ _ z=>z.elim,fun _ _ _ z=>z.elim,fun σ' γ' d v H' h1 e1 f1 rd=>?_⟩
 ·obtain⟨q1,q2⟩:=hB b z;obtain⟨x,hx⟩:=KF q1;exact⟨x,UQ hx q2⟩
 ·obtain⟨o',q1,q2,q3⟩:=h1;exact hQ o' .non .non H' q3 (Af ho e1 q1 q2).1 .non
 ·obtain⟨o',q1,q2,q3⟩:=h1;exact hX o' c H' q3 (Af ho e1 q1 q2).1
 ·obtain⟨o',q1,q2,q3⟩:=h1;obtain⟨k1,k2⟩:=Af ho e1 q1 q2;exact hQ o' d v H' q3 k1 (Rp.mono (Uo (Same.refl _) fun b _ _ z y=>z (k2 b y)) rd)
def IY{c:Pw}{vs:List V}{Q:VK}{Ec:XK}{n:Nat}(h:spW mg c K vs H Q Ec)(hn:∀o ss R X,c o ss R X->ss.length=n):vs.length=n+1:=by
 obtain⟨o,a,ss,us,B,R,X,rfl,_,_,r,_,hc,_⟩:=h;rw[YF,r.len,hn o ss R X hc]
abbrev PTW:=Γ->(Γ->D->Prop)->(Γ->Str->Prop)->Prop
def SndW(K:Za)(mg:Str->Option Value)(E:L2.St->XK)(t:TE)(p:PTW):Prop:=∀(H0:Hp) (B:Addr->Prop) (H:Hp) (σ:L2.St) (γ:Γ) (R:Γ->D->Prop) (X:Γ->Str->Prop) (Q:VK),(∀b,B b->∃o,H0 b=some o)->EnvR K H0 B H σ γ->p γ R X->
 (∀γ' d v H',R γ' d->EnvR K H0 B H' σ γ'->Fr B H σ γ H' σ γ'->Rp K (off (zof B γ' σ) H') d v->Q v H')->(∀γ' c H',X γ' c->EnvR K H0 B H' σ γ'->Fr B H σ γ H' σ γ'->E σ (.ref (ExcR.JU mg c)) none H')->t σ H Q
variable {te:TE}{w:PTW}
def Zgf(w:PTW)(g:PTG):PTS:=fun R γ=>w γ (fun γ' d=>g (.sh d) γ' R.nx) R.ex
def Zcr{is:List Nat}{g:TG}{pg:PTG}(hw:SndW K mg E te w)(hg:Pp K is g pg):SndS K mg E (tAsg te g) (Zgf w pg):=by
 intro H0 B H σ γ R D hB env h e;refine hw H0 B H σ γ _ _ _ hB env h (fun γ' d v H1 h1 e1 f1 rd=>?_) fun γ' c H' hc e' f'=>e.ex σ γ' c H' hc e' f';exact hg H0 B H1 H1 σ γ' (.sh d) v _ _ e1 (Same.refl _) rd h1 fun σ2 γ2 h2 e2 f2 _=>e.nx σ2 γ2 H1 h2 e2 (f1.trans f2)
def LH(w:PTW):PTS:=fun R γ=>w γ (fun γ' _=>R.nx γ') R.ex
def PB(hw:SndW K mg E te w):SndS K mg E (NC te) (LH w):=by
 intro H0 B H σ γ R D hB env h e;exact hw H0 B H σ γ _ _ _ hB env h (fun γ' d v H1 h1 e1 f1 _=>e.nx σ γ' H1 h1 e1 f1) fun γ' c H' hc e' f'=>e.ex σ γ' c H' hc e' f'
def Lf(w:PTW):PTS:=fun R γ=>w γ R.rv R.ex
def Kt(hw:SndW K mg E te w):SndS K mg E (tRet te) (Lf w):=by
 intro H0 B H σ γ R D hB env h e;exact hw H0 B H σ γ _ _ _ hB env h (fun γ' d v H1 h1 e1 f1 rd=>e.rv σ γ' d v H1 h1 e1 f1 rd) fun γ' c H' hc e' f'=>e.ex σ γ' c H' hc e' f'
def R5(a:PTE):PTS:=fun R γ=>a γ (fun s=>match s.shd with|some d=>R.rv γ d|none=>False) (R.ex γ)
def Tu{a:PTE}(ha:SndE K mg E te a):SndS K mg E (tRet te) (R5 a):=by
 intro H0 B H σ γ R D hB env h e;refine ha H0 B H σ γ _ _ _ env h (fun s v H1 h1 S1 t1=>?_) fun c H' hc S'=>e.ex σ γ c H' hc (env.grow S') (Fr.grow S');split at h1
 ·rename_i d ed;exact e.rv σ γ d v H1 h1 (env.grow S1) (Fr.grow S1) (t1.shd (env.grow S1).same env.zm S1 ed)
 ·exact h1.elim
def Zhj{s s':S}(h:s.pass=some s'):s'.flat:=by
 cases s with
 |sh d=>cases h;trivial
 |own o=>cases h;trivial
 |bor d=>unfold S.pass at h;cases q:imm d<;>simp[q]at h<;>subst h<;>trivial
 |tmp d=>
  unfold S.pass at h;cases q:imm d<;>simp[q]at h
  subst h;trivial
 |view o=>cases h
def Ng:∀{ss ss':List S},passes ss=some ss'->∀s∈ss',s.flat
 |[],_,h=>by cases h;simp
 |s::r,_,h=>by
  unfold passes at h;split at h
  ·rename_i s1 r1 e1 e2;cases h
   intro x hx;rcases YA.mp hx with rfl|hx
   ·exact Zhj e1
   ·exact Ng e2 x hx
  ·cases h
def TV.pass {s s':S}{v:V}{P W:Addr->Prop}{HB:Hp} (h0:Same H0 H') (hm:∀b,Z b->Mut (H b)) (S1:Same H H') (hb:Same H0 (off P HB)) (hs:Same (off Z H') (off W HB)) (h:TV K Z H0 H H' s v) (e:s.pass=some s'):TV K W (off P HB) HB HB s' v:=by
 have shd:∀d,s.shd=some d->Rp K (off W HB) d v:=fun d ed=>Rp.mono hs (h.shd h0 hm S1 ed);cases s with
 |sh d=>cases e;exact shd _ rfl
 |own o=>cases e;exact shd _ rfl
 |view o=>cases e
 |tmp d=>
  unfold S.pass at e;cases q:imm d with
  |false=>simp[q]at e
  |true=>simp[q]at e;subst e;exact shd d (by unfold S.shd;simp[q])
 |bor d=>
  unfold S.pass at e;cases q:imm d with
  |false=>simp[q]at e;subst e;exact Rp.mono hb h
  |true=>simp[q]at e;subst e;exact shd d (by unfold S.shd;simp[q])
def TVs.pass {P W:Addr->Prop}{HB:Hp} (h0:Same H0 H') (hm:∀b,Z b->Mut (H b)) (S1:Same H H') (hb:Same H0 (off P HB)) (hs:Same (off Z H') (off W HB)):∀{ss ss':List S}{vs:List V},TVs K Z H0 H H' ss vs->passes ss=some ss'->TVs K W (off P HB) HB HB ss' vs
 |_,_,_,.nil,e=>by cases e;exact .nil
 |_,_,_,.cons h r,e=>by
  unfold passes at e;split at e
  ·rename_i s1 r1 e1 e2;cases e
   exact .cons (h.pass h0 hm S1 hb hs e1) (TVs.pass h0 hm S1 hb hs r e2)
  ·cases e
def B5{c:Pw}{i:Nat}{o:O}{a:Addr}{ss ss':List S}{us:List V}{R:Γ->D->Prop}{X:Γ->Str->Prop}{Q:VK}{Ec:XK}(env:EnvR K H0 B H σ γ)(hB:∀b,B b->∃o,H0 b=some o)(S1:Same H H1)(hi:γ[i]?=some (some (.own o)))(ha:σ[i]?=some (some (.ref a)))(t1:TVs K (zof B γ σ) H0 H H1 ss us)(hp:passes ss=some ss')(hc:c o ss' (fun o' d=>R (γ.set i (some (.own o'))) d) (fun o' e=>X (γ.set i (some (.own o'))) e))(q:∀γ' d v H',R γ' d->EnvR K H0 B H' σ γ'->Fr B H σ γ H' σ γ'->Rp K (off (zof B γ' σ) H') d v->Q v H')(qx:∀γ' c H',X γ' c->EnvR K H0 B H' σ γ'->Fr B H σ γ H' σ γ'->Ec (.ref (ExcR.JU mg c)) none H'):spW mg c K (.ref a::us) H1 Q Ec:=by
 have env1:=env.grow S1;obtain⟨v,h1,a',ev,h3,h4⟩:=env1.slot i _ hi;rw[ha]at h1;cases h1
 cases ev
 have za:∀b,o.adr a b->zof B γ σ b:=fun b hb=>.inr ⟨i,o,a,hi,ha,hb⟩
 have aft:∀o' H',After K (fun b=>zof B γ σ b/\¬o.adr a b) H1 a o o' H'->EnvR K H0 B H' σ (γ.set i (some (.own o')))/\Fr B H σ γ H' σ (γ.set i (some (.own o')))/\∀b x,H' b=some x->¬((zof B γ σ b/\¬o.adr a b)\/o'.adr a b)->¬zof B (γ.set i (some (.own o'))) σ b:=fun o' H' A=>by
  have hzz:∀b x,H' b=some x->¬((zof B γ σ b/\¬o.adr a b)\/o'.adr a b)->¬zof B (γ.set i (some (.own o'))) σ b:=fun b x _ n z=>by
   rcases z with z|⟨j,fs,a',e1,e2,e3⟩
   ·refine n (.inl ⟨.inl z,fun w=>?_⟩);obtain⟨u,hu⟩:=hB b z;rw[h3 b w]at hu;cases hu
   ·rcases UE e1 with⟨ej,q,_⟩|⟨nj,q⟩
    ·subst ej;cases q
     rw[ha]at e2;cases e2
     exact n (.inr e3)
    ·exact n (.inl ⟨.inr ⟨j,fs,a',q,e2,e3⟩,fun w=>nj (env.own j i a' a fs o b q hi e2 ha e3 w)⟩)
  obtain⟨k1,k2⟩:=env1.change (o':=o') (H':=H') hi ha (fun b x hx n=>A.same b x (UQ hx n)) (fun b hb=>A.at_.mut b (A.old b hb)) A.new (A.at_.mono (Uo (Same.refl _) fun b x hx z=>hzz b x hx z) fun _ _ _ q=>q);exact⟨k1,(Fr.grow S1).trans k2,hzz⟩
 refine⟨o,a,ss',us,fun b=>zof B γ σ b/\¬o.adr a b,_,_,rfl,fun b hb=>⟨env1.zm b hb.1,hb.2⟩,h4.mono (Uo (Same.refl _) fun b _ _ z y=>z (y.elim (fun y=>y.1) (za b))) fun _ _ _ q=>q,?_,Ng hp,hc,fun o' d v H' hR A rd=>?_,fun o' e H' hX A=>?_⟩
 ·refine t1.pass env1.same env.zm S1 (fun b x hx=>UQ (env1.same b x hx) fun w=>?_) (Uo (Same.refl _) fun b _ _ z y=>z (y.elim (fun y=>y.1) (za b))) hp;rw[h3 b w]at hx;cases hx
 ·obtain⟨k1,k2,k3⟩:=aft o' H' A;exact q _ d v H' hR k1 k2 (Rp.mono (fun b x h=>let ⟨p1,p2⟩:=Ki h;UQ p1 (k3 b x p1 p2)) rd)
 ·obtain⟨k1,k2,_⟩:=aft o' H' A;exact qx _ e H' hX k1 k2
def Zhw(i:Nat)(c:Pw)(r:PTA):PTW:=fun γ R X=>match γ[i]? with
 |some (some (.own o))=>r γ (fun ss=>match passes ss with|some ss'=>c o ss' (fun o' d=>R (γ.set i (some (.own o'))) d) (fun o' e=>X (γ.set i (some (.own o'))) e)|none=>False) (X γ)
 |_=>False
def Hz(i:Nat)(c:Pw)(r:PTA):PTW:=fun γ R X=>match γ[i]? with
 |some (some (.own o))=>r γ (fun ss=>match passes ss with|some ss'=>c o ss' (fun o' d=>R (γ.set i (some (.own o'))) d) (fun _ _=>False)|none=>False) (X γ)
 |_=>False
def Rj(i:Nat){c:Pw}{ta:TA}{r:PTA}(hr:SndA K mg E ta r):SndW K mg E (Ph (spW mg c K) [] E0 (Xc (tVar i) ta)) (Hz i c r):=by
 intro H0 B H σ γ R X Q hB env h q qx;unfold Hz at h;split at h
 ·rename_i o hi;obtain⟨v,hv,a,rfl,_,_⟩:=env.slot i _ hi;refine⟨_,hv,hr H0 B H σ γ _ _ _ env h (fun ss us H1 h1 S1 t1=>?_) fun c H' hc S'=>qx γ c H' hc (env.grow S') (Fr.grow S')⟩;show spW mg c K ((V.ref a::us)++[]) H1 Q E0;rw[Wl];split at h1
  ·rename_i ss' ep;exact B5 (X:=fun _ _=>False) env hB S1 hi hv t1 ep h1 q fun _ _ _ z=>z.elim
  ·exact h1.elim
 ·exact h.elim
def fFld(C:Addr)(xs:List Str)(j:Nat):S->(S->Prop)->Prop
 | .view (.ins _ C' xs' cs),R=>C'=C/\xs'=xs/\∃c,cs[j]?=some c/\R (.view (.lst c.2))
 | .bor (.ins C' xs' ds),R=>C'=C/\xs'=xs/\∃d,ds[j]?=some d/\R (arg d)
 |_,_=>False
def pFld(C:Addr)(xs:List Str)(j:Nat)(a:PTE):PTE:=fun γ R X=>a γ (fun s=>fFld C xs j s R) X
def Rp.ins_inv {C:Addr}{xs:List Str}{ds:List D}{v:V} (h:Rp K H (.ins C xs ds) v):∃a dx vs,v=.ref a/\H a=some (.ins C dx (xs.zip vs))/\xs.length=vs.length/\Rps K H ds vs:=by
 cases h with
 |ins h e r=>exact⟨_,_,_,rfl,h,e,r⟩
def FldAt(f:Str)(xs:List Str)(j:Nat):Prop:=∀vs:List V,xs.length=vs.length->(xs.zip vs).lookup f=vs[j]?
def Nf{C:Addr}{f:Str}{xs:List Str}(j:Nat){a:PTE}(hc:Cls K C)(hn:NoAttr K C f)(hj:FldAt f xs j)(ha:SndE K mg E te a):SndE K mg E (tFld K te f) (pFld C xs j a):=by
 intro H0 B H σ γ R X Q env p q qx;refine ha H0 B H σ γ _ X _ env p (fun s v H1 h1 S1 t1=>?_) qx;have env1:=env.grow S1;unfold fFld at h1;split at h1
 ·rename_i x C' xs' cs;obtain⟨rfl,rfl,c,ec,hR⟩:=h1;obtain⟨b,rfl,e1,e2,⟨dx,e3⟩,e4,e5⟩:=t1;obtain⟨us,u1,u2⟩:=e4 c (YM ec);refine⟨b,_,dx,_,_,rfl,e3,hc,hn,?_,q _ _ H1 hR S1 ⟨c.1,rfl,us,u1,u2⟩⟩;rw[hj _ (by rw[Yu];exact e2),Y6,ec];rfl
 ·rename_i C' xs' ds;obtain⟨rfl,rfl,d,ed,hR⟩:=h1;obtain⟨b,dx,vs,rfl,e1,e2,e3⟩:=Rp.ins_inv (show Rp K H0 (.ins C' xs' ds) v from t1)
  obtain⟨u,hu,ru⟩:=e3.get ed;refine⟨b,_,dx,_,u,rfl,env1.same _ _ e1,hc,hn,by rw[hj _ e2];exact hu,q _ _ H1 hR S1 (argR env1.zm env1.same ru)⟩
 ·exact h1.elim
def Hr(C:Addr)(xs:List Str)(c:Pc)(a:PTE)(r:PTA):PTE:=fun γ R X=>a γ (fun s=>match s.d with
 | .ins C' xs' ds=>C'=C/\xs'=xs/\r γ (fun ss=>c (.ins C' xs' ds::ss.map S.d) (fun s=>R s.back) X) X
 |_=>False) X
def NoFld(m:Str)(xs:List Str):Prop:=∀vs:List V,(xs.zip vs).lookup m=none
def Dh(C:Addr)(m:Str)(sp:Sp)(E:L2.St->XK)(ta:TE)(t:TA):TE:=fun σ H Q=>ta σ H fun x H1=>∃a dx fs,x=.ref a/\H1 a=some (.ins C dx fs)/\fs.lookup m=none/\t σ H1 fun vs H2=>sp (x::(vs++[])) H2 Q (E σ)
def Zds{C:Addr}{m:Str}{xs:List Str}{c:Pc}{ta:TA}{a:PTE}{r:PTA}(hx:NoFld m xs)(ha:SndE K mg E te a)(hr:SndA K mg E ta r):SndE K mg E (Dh C m (spOf mg c K) E te ta) (Hr C xs c a r):=by
 intro H0 B H σ γ R X Q env p q qx;refine ha H0 B H σ γ _ X _ env p (fun s v H1 h1 S1 t1=>?_) qx;have env1:=env.grow S1;split at h1
 ·rename_i C' xs' ds ed;obtain⟨rfl,rfl,h1⟩:=h1;have rs:=t1.rp env1.same;rw[ed]at rs;obtain⟨b,dx,vs,rfl,e1,e2,e3⟩:=Rp.ins_inv rs;refine⟨b,dx,_,rfl,e1,hx vs,hr H0 B H1 σ γ _ X _ env1 h1 (fun ss us H2 h2 S2 t2=>?_) fun c H' hc S'=>qx c H' hc (S1.trans S')⟩;have env2:=env1.grow S2;rw[Wl];refine⟨_,_,X,Rps.cons (Rp.mono S2 rs) (t2.rps env2.same),h2,fun s v H' hs S3 tv=>q _ _ H' hs ((S1.trans S2).trans S3) (tv.back env2 (S1.trans S2) S3),fun e H' he S3=>qx e H' he ((S1.trans S2).trans S3)⟩
 ·exact h1.elim
def Ni{C:Addr}{m:Str}{xs:List Str}{c:Pc}{ta:TA}{a:PTE}{r:PTA}{Ec:XK}(hx:NoFld m xs)(ha:SndE K mg (fun _=>Ec) te a)(hr:SndA K mg (fun _=>Ec) ta r):SndE K mg (fun _=>Ec) (Pj C m (spOf mg c K) [] Ec te ta) (Hr C xs c a r):=Zds (E:=fun _=>Ec) hx ha hr
def MQ(C:Addr)(xs:List Str)(c:Pc)(a:PTE)(r:PTA):PTE:=fun γ R X=>a γ (fun s=>match s.d with
 | .ins C' xs' ds=>C'=C/\xs'=xs/\r γ (fun ss=>c (.ins C' xs' ds::ss.map S.d) (fun s=>R s.back) fun _=>False) X
 |_=>False) X
def Xh{C:Addr}{m:Str}{xs:List Str}{c:Pc}{ta:TA}{a:PTE}{r:PTA}(hx:NoFld m xs)(ha:SndE K mg E te a)(hr:SndA K mg E ta r):SndE K mg E (Pj C m (spOf mg c K) [] E0 te ta) (MQ C xs c a r):=by
 intro H0 B H σ γ R X Q env p q qx;refine ha H0 B H σ γ _ X _ env p (fun s v H1 h1 S1 t1=>?_) qx;have env1:=env.grow S1;split at h1
 ·rename_i C' xs' ds ed;obtain⟨rfl,rfl,h1⟩:=h1;have rs:=t1.rp env1.same;rw[ed]at rs;obtain⟨b,dx,vs,rfl,e1,e2,e3⟩:=Rp.ins_inv rs;refine⟨b,dx,_,rfl,e1,hx vs,hr H0 B H1 σ γ _ X _ env1 h1 (fun ss us H2 h2 S2 t2=>?_) fun c H' hc S'=>qx c H' hc (S1.trans S')⟩;have env2:=env1.grow S2;rw[Wl];exact⟨_,_,_,Rps.cons (Rp.mono S2 rs) (t2.rps env2.same),h2,fun s v H' hs S3 tv=>q _ _ H' hs ((S1.trans S2).trans S3) (tv.back env2 (S1.trans S2) S3),fun _ _ z=>z.elim⟩
 ·exact h1.elim
def AK(i:Nat)(C:Addr)(xs:List Str)(c:Pw)(r:PTA):PTW:=fun γ R X=>match γ[i]? with
 |some (some (.own (.ins x C' xs' cs)))=>C'=C/\xs'=xs/\r γ (fun ss=>match passes ss with|some ss'=>c (.ins x C' xs' cs) ss' (fun o' d=>R (γ.set i (some (.own o'))) d) (fun o' e=>X (γ.set i (some (.own o'))) e)|none=>False) (X γ)
 |_=>False
def R6(i:Nat){C:Addr}{m:Str}{xs:List Str}{c:Pw}{ta:TA}{r:PTA}(hx:NoFld m xs)(hr:SndA K mg E ta r):SndW K mg E (Dh C m (spW mg c K) E (tVar i) ta) (AK i C xs c r):=by
 intro H0 B H σ γ R X Q hB env h q qx;unfold AK at h;split at h
 ·rename_i x C' xs' cs hi;obtain⟨rfl,rfl,h⟩:=h;obtain⟨v,hv,a,rfl,_,e1,e2,⟨dx,e3⟩,e4⟩:=env.slot i _ hi;refine⟨_,hv,a,dx,_,rfl,e3,hx _,hr H0 B H σ γ _ _ _ env h (fun ss us H1 h1 S1 t1=>?_) fun c H' hc S'=>qx γ c H' hc (env.grow S') (Fr.grow S')⟩;rw[Wl];split at h1
  ·rename_i ss' ep;exact B5 env hB S1 hi hv t1 ep h1 q qx
  ·exact h1.elim
 ·exact h.elim
def Nb(i:Nat){C:Addr}{m:Str}{xs:List Str}{c:Pw}{ta:TA}{r:PTA}{Ec:XK}(hx:NoFld m xs)(hr:SndA K mg (fun _=>Ec) ta r):SndW K mg (fun _=>Ec) (Pj C m (spW mg c K) [] Ec (tVar i) ta) (AK i C xs c r):=R6 (E:=fun _=>Ec) i hx hr
def Iz(i:Nat)(C:Addr)(xs:List Str)(c:Pw)(r:PTA):PTW:=fun γ R X=>match γ[i]? with
 |some (some (.own (.ins x C' xs' cs)))=>C'=C/\xs'=xs/\r γ (fun ss=>match passes ss with|some ss'=>c (.ins x C' xs' cs) ss' (fun o' d=>R (γ.set i (some (.own o'))) d) (fun _ _=>False)|none=>False) (X γ)
 |_=>False
def T1(i:Nat){C:Addr}{m:Str}{xs:List Str}{c:Pw}{ta:TA}{r:PTA}(hx:NoFld m xs)(hr:SndA K mg E ta r):SndW K mg E (Pj C m (spW mg c K) [] E0 (tVar i) ta) (Iz i C xs c r):=by
 intro H0 B H σ γ R X Q hB env h q qx;unfold Iz at h;split at h
 ·rename_i x C' xs' cs hi;obtain⟨rfl,rfl,h⟩:=h;obtain⟨v,hv,a,rfl,_,e1,e2,⟨dx,e3⟩,e4⟩:=env.slot i _ hi;refine⟨_,hv,a,dx,_,rfl,e3,hx _,hr H0 B H σ γ _ _ _ env h (fun ss us H1 h1 S1 t1=>?_) fun c H' hc S'=>qx γ c H' hc (env.grow S') (Fr.grow S')⟩;rw[Wl];split at h1
  ·rename_i ss' ep;exact B5 (X:=fun _ _=>False) env hB S1 hi hv t1 ep h1 q fun _ _ _ z=>z.elim
  ·exact h1.elim
 ·exact h.elim
def HZ{α:Type}:∀{l:List α}{i j:Nat}{x:α},l.Nodup->l[i]?=some x->l[j]?=some x->i=j
 |[],_,_,_,_,h,_=>by simp at h
 |y::r,0,0,_,_,_,_=>rfl
 |y::r,0,j+1,x,hn,h1,h2=>by
  have e:y=x:=by simpa using h1
  exact absurd (e▸YM (show r[j]?=some x by simpa using h2)) (YV.mp hn).1
 |y::r,i+1,0,x,hn,h1,h2=>by
  have e:y=x:=by simpa using h2
  exact absurd (e▸YM (show r[i]?=some x by simpa using h1)) (YV.mp hn).1
 |y::r,i+1,j+1,x,hn,h1,h2=>Wj (· + 1) (HZ (l:=r) (YV.mp hn).2 (by simpa using h1) (by simpa using h2))
def EnvR.cell {i j:Nat}{x C:Addr}{xs:List Str}{cs:List (Addr×List D)}{b:Addr}{ds es:List D}{us:List V} (env:EnvR K H0 B H σ γ) (hi:γ[i]?=some (some (.own (.ins x C xs cs)))) (hj:cs[j]?=some (b,ds)) (r:Rps K (off (zof B γ σ) H) es us) :
  EnvR K H0 B (upd H b (.lst us)) σ (γ.set i (some (.own (.ins x C xs (cs.set j (b,es))))))/\Fr B H σ γ (upd H b (.lst us)) σ (γ.set i (some (.own (.ins x C xs (cs.set j (b,es)))))):=by
 obtain⟨v,hv,a,rfl,e0,e1,e2,⟨dx,e3⟩,e4,e5⟩:=env.slot i _ hi;subst e1;have hjl:j<cs.length:=(YQ.mp hj).1;have hbm:(b,ds)∈cs:=YM hj
 have hab:a≠b:=fun z=>by
  obtain⟨ws,w1,_⟩:=e4 _ hbm;rw[←show a=b from z,e3]at w1
  cases w1
 have em:(cs.set j (b,es)).map (·.1)=cs.map (·.1):=by
  apply V8;intro k;rw[Y6,Y6,List.getElem?_set];by_cases e:j=k
  ·subst e;rw[Yz rfl,Yz hjl,hj];rfl
  ·rw[Yx e]
 have em2:(cs.set j (b,es)).map (fun c=>V.ref c.1)=cs.map fun c=>V.ref c.1:=by
  have:=Wj (List.map V.ref) em
  rw[YZ,YZ]at this;exact this
 have adr:∀c,(O.ins a C xs (cs.set j (b,es))).adr a c->(O.ins a C xs cs).adr a c:=fun c hc=>by
  rcases hc with hc|⟨d,hd,hc⟩
  ·exact .inl hc
  ·have:d.1∈(cs.set j (b,es)).map (·.1):=List.mem_map_of_mem hd
   rw[em]at this;obtain⟨d',q1,q2⟩:=YX.mp this;exact .inr ⟨d',q1,hc.trans q2.symm⟩
 have zb:∀c,(O.ins a C xs cs).adr a c->zof B γ σ c:=fun c hc=>.inr ⟨i,_,a,hi,hv,hc⟩
 have So:Same (off (zof B γ σ) H) (off (zof B (γ.set i (some (.own (.ins a C xs (cs.set j (b,es)))))) σ) (upd H b (.lst us))):=fun c u h=>by
  obtain⟨q1,q2⟩:=Ki h;have nb:c≠b:=fun z=>q2 (zb c (.inr ⟨_,hbm,z⟩));refine UQ (by rw[Uv nb];exact q1) fun z=>q2 ?_;rcases z with z|⟨k,fs,a',k1,k2,k3⟩
  ·exact .inl z
  ·rcases UE k1 with⟨ek,q,_⟩|⟨_,q⟩
   ·subst ek;cases q
    rw[hv]at k2;cases k2
    exact zb c (adr c k3)
   ·exact .inr ⟨k,fs,a',q,k2,k3⟩
 refine env.change hi hv (fun c u hu n=>?_) (fun c hc=>?_) (fun c hc=>.inl (adr c hc)) ⟨rfl,by rw[Wy];exact e2,⟨dx,?_⟩,fun c hc=>?_,by rw[em];exact e5⟩
 ·rw[Uv fun z=>n (.inr ⟨_,hbm,z⟩)];exact hu
 ·by_cases z:c=b
  ·rw[z,UJ];trivial
  ·rw[Uv z];exact env.zm c (zb c hc)
 ·rw[Uv hab,em2];exact e3
 ·obtain⟨k,hk,ek⟩:=List.getElem_of_mem hc;have hk':(cs.set j (b,es))[k]?=some c:=by rw[Yt hk,ek]
  rcases UE hk' with⟨_,q,_⟩|⟨nk,q⟩
  ·subst q;exact⟨us,UJ,Rps.mono So r⟩
  ·obtain⟨ws,w1,w2⟩:=e4 c (YM q)
   have nb:c.1≠b:=fun z=>nk (by
    have h1:(cs.map (·.1))[k]?=some b:=by rw[Y6,q];exact Wj some z
    have h2:(cs.map (·.1))[j]?=some b:=by rw[Y6,hj];rfl
    exact HZ e5 h1 h2)
   exact⟨ws,by rw[Uv nb];exact w1,Rps.mono So w2⟩
def DZ(i j:Nat)(C:Addr)(xs:List Str)(a:PTE):PTW:=fun γ R X=>match γ[i]? with
 |some (some (.own (.ins x C' xs' cs)))=>C'=C/\xs'=xs/\∃c,cs[j]?=some c/\a γ (fun s=>match s.shd with
  |some d=>c.2.length<10000000/\R (γ.set i (some (.own (.ins x C' xs' (cs.set j (c.1,c.2++[d])))))) .non
  |none=>False) (X γ)
 |_=>False
def Ad(i j:Nat){C:Addr}{f:Str}{xs:List Str}{a:PTE}(hc:Cls K C)(hn:NoAttr K C f)(hj:FldAt f xs j)(ha:SndE K mg E te a):SndW K mg E (tBM K "list" Fv (tFld K (tVar i) f) (Xc te tNil)) (DZ i j C xs a):=by
 intro H0 B H σ γ R X Q hB env h q qx;unfold DZ at h;split at h
 ·rename_i x C' xs' cs hi;obtain⟨rfl,rfl,c,ec,h⟩:=h;obtain⟨v,hv,b,rfl,_,e1,e2,⟨dx,e3⟩,e4,e5⟩:=env.slot i _ hi;obtain⟨us,u1,u2⟩:=e4 c (YM ec);refine⟨_,hv,b,_,dx,_,V.ref c.1,rfl,e3,hc,hn,?_,.inl ⟨rfl,us,SqL.of u1⟩,ha H0 B H σ γ _ _ _ env h (fun s u H1 h1 S1 t1=>?_) fun c H' hc S'=>qx γ c H' hc (env.grow S') (Fr.grow S')⟩
  ·rw[hj _ (by rw[Yu];exact e2),Y6,ec];rfl
  ·have env1:=env.grow S1;split at h1
   ·rename_i d ed;have rd:=t1.shd env1.same env.zm S1 ed;refine⟨c.1,us,u,rfl,rfl,S1 _ _ u1,by rw[u2.len];exact Q6 h1.1 (by decide),?_⟩;obtain⟨k1,k2⟩:=env1.cell (es:=c.2++[d]) (us:=us++[u]) hi ec (Rps.append (Rps.mono (Uo S1 fun _ _ _ z=>z) u2) (.cons rd .nil));exact q _ _ _ _ h1.2 k1 ((Fr.grow S1).trans k2) .non
   ·exact h1.elim
 ·exact h.elim
def Eu(i j:Nat)(C:Addr)(xs:List Str):PTW:=fun γ R _=>match γ[i]? with
 |some (some (.own (.ins x C' xs' cs)))=>C'=C/\xs'=xs/\∃c d,cs[j]?=some c/\c.2[c.2.length-1]?=some d/\R (γ.set i (some (.own (.ins x C' xs' (cs.set j (c.1,c.2.dropLast)))))) d
 |_=>False
def Rps.dropLast:∀{ds:List D}{vs:List V},Rps K H ds vs->Rps K H ds.dropLast vs.dropLast
 |_,_,.nil=>.nil
 |_,_,.cons _ .nil=>.nil
 |_,_,.cons h (.cons h' r)=>.cons h (Rps.dropLast (.cons h' r))
def BK(i j:Nat){C:Addr}{f:Str}{xs:List Str}(hc:Cls K C)(hn:NoAttr K C f)(hj:FldAt f xs j):SndW K mg E (tBM0 K "list" rPop (tFld K (tVar i) f)) (Eu i j C xs):=by
 intro H0 B H σ γ R X Q hB env h q qx;unfold Eu at h;split at h
 ·rename_i x C' xs' cs hi;obtain⟨rfl,rfl,c,d,ec,ed,h⟩:=h;obtain⟨v,hv,b,rfl,_,e1,e2,⟨dx,e3⟩,e4,e5⟩:=env.slot i _ hi;obtain⟨us,u1,u2⟩:=e4 c (YM ec);obtain⟨u,hu,ru⟩:=u2.get ed;refine⟨_,hv,b,_,dx,_,V.ref c.1,rfl,e3,hc,hn,?_,.inl ⟨rfl,us,SqL.of u1⟩,c.1,us,u,rfl,rfl,u1,by rw[u2.len];exact hu,?_⟩
  ·rw[hj _ (by rw[Yu];exact e2),Y6,ec];rfl
  ·obtain⟨k1,k2⟩:=env.cell (es:=c.2.dropLast) (us:=us.dropLast) hi ec (Rps.dropLast u2);exact q _ _ _ _ h k1 k2 (Rp.mono k2.off ru)
 ·exact h.elim
def PutAt(f:Str)(xs:List Str):Prop:=∀(vs:List V) (y:V),xs.length=vs.length->putF f y (xs.zip vs)=(xs++[f]).zip (vs++[y])
def Zc1(i:Nat)(C:Addr)(f:Str)(xs:List Str)(a:PTE):PTS:=fun R γ=>a γ (fun s=>match s with
 | .own (.lst ds)=>(match γ[i]? with
  |some (some (.own (.ins x C' xs' cs)))=>C'=C/\xs'=xs/\xs.length<1000/\∀b,R.nx (γ.set i (some (.own (.ins x C' (xs++[f]) (cs++[(b,ds)])))))
  |_=>False)
 |_=>False) (R.ex γ)
def A9(i:Nat){C:Addr}{f:Str}{xs:List Str}{a:PTE}(hc:Cls K C)(hn:NoAttr K C f)(hp:PutAt f xs)(ha:SndE K mg E te a):SndS K mg E (sFld K (tVar i) te f) (Zc1 i C f xs a):=by
 intro H0 B H σ γ R D hB env h e;refine ha H0 B H σ γ _ _ _ env h (fun s v H1 h1 S1 t1=>?_) fun c H' hc S'=>e.ex σ γ c H' hc (env.grow S') (Fr.grow S');have env1:=env.grow S1;split at h1
 ·rename_i ds;split at h1
  ·rename_i x C' xs' cs hi;obtain⟨rfl,rfl,hl,h1⟩:=h1;obtain⟨u,hv,b,rfl,e0,e1,e2,⟨dx,e3⟩,e4,e5⟩:=env.slot i _ hi;subst e1;obtain⟨l,rfl,l0,vs,l1,l2⟩:=t1;have l0:H l=none:=l0 l rfl;have na:b≠l:=Kb e3 l0;refine⟨_,hv,b,_,dx,_,rfl,S1 _ _ e3,hc,hn,?_,?_⟩
   ·rw[List.length_zip,Yu];omega
   ·rw[hp _ _ (by rw[Yu];exact e2)]
    have nl:∀c∈cs,c.1≠l:=fun c hc=>by
     obtain⟨ws,w1,_⟩:=e4 c hc;exact Kb w1 l0
    have nb:∀c∈cs,c.1≠b:=fun c hc z=>by
     obtain⟨ws,w1,_⟩:=e4 c hc;rw[z,e3]at w1;cases w1
    have zb:∀c,(O.ins b C' xs' cs).adr b c->zof B γ σ c:=fun c hc=>.inr ⟨i,_,b,hi,hv,hc⟩
    have key:∀c u,H1 c=some u->¬(zof B γ σ c\/c=l)->¬zof B (γ.set i (some (.own (.ins b C' (xs'++[f]) (cs++[(l,ds)]))))) σ c:=fun c u _ n z=>by
     rcases z with z|⟨k,fs,a',k1,k2,k3⟩
     ·exact n (.inl (.inl z))
     ·rcases UE k1 with⟨ek,q,_⟩|⟨_,q⟩
      ·subst ek;cases q
       rw[hv]at k2;cases k2
       rcases k3 with k3|⟨d,hd,k3⟩
       ·exact n (.inl (zb c (.inl k3)))
       ·rcases YR.mp hd with hd|hd
        ·exact n (.inl (zb c (.inr ⟨d,hd,k3⟩)))
        ·rw[Y5]at hd;subst hd;exact n (.inr k3)
      ·exact n (.inl (.inr ⟨k,fs,a',q,k2,k3⟩))
    have So:Same (off (fun c=>zof B γ σ c\/c=l) H1) (off (zof B (γ.set i (some (.own (.ins b C' (xs'++[f]) (cs++[(l,ds)]))))) σ) (upd H1 b (.ins C' dx ((xs'++[f]).zip ((cs.map fun c=>V.ref c.1)++[.ref l]))))):=fun c u h=>by
     obtain⟨q1,q2⟩:=Ki h;exact UQ (by rw[Uv fun z=>q2 (.inl (zb c (.inl z)))];exact q1) (key c u q1 q2)
    have S0:Same (off (zof B γ σ) H) (off (fun c=>zof B γ σ c\/c=l) H1):=Uo S1 fun c u hc z y=>y.elim z fun y=>by rw[y,l0]at hc;cases hc
    obtain⟨k1,k2⟩:=env.change (o':=.ins b C' (xs'++[f]) (cs++[(l,ds)])) (H':=upd H1 b (.ins C' dx ((xs'++[f]).zip ((cs.map fun c=>V.ref c.1)++[.ref l])))) hi hv
     (fun c u hu n=>by rw[Uv fun z=>n (.inl z)];exact S1 _ _ hu)
     (fun c hc=>by
      by_cases z:c=b
      ·rw[z,UJ];trivial
      ·rw[Uv z];exact env1.zm c (zb c hc))
     (fun c hc=>by
      rcases hc with hc|⟨d,hd,hc⟩
      ·exact .inl (.inl hc)
      ·rcases YR.mp hd with hd|hd
       ·exact .inl (.inr ⟨d,hd,hc⟩)
       ·rw[Y5]at hd;subst hd;exact .inr (by rw[show c=l from hc];exact l0))
     ⟨rfl,by rw[Y4,Y4,e2];rfl,⟨dx,by rw[UJ,Y9];rfl⟩,fun c hc=>by
      rcases YR.mp hc with hc|hc
      ·obtain⟨ws,w1,w2⟩:=e4 c hc;exact⟨ws,by rw[Uv (nb c hc)];exact S1 _ _ w1,Rps.mono So (Rps.mono S0 w2)⟩
      ·rw[Y5]at hc;subst hc;exact⟨vs,by rw[Uv (fun z=>na z.symm)];exact l1,Rps.mono So l2⟩,by
      rw[Y9,W4]
      exact⟨e5,by simp,fun c hc d hd z=>by
       obtain⟨c',q1,q2⟩:=YX.mp hc
       have:d=l:=by simpa using hd
       exact nl c' q1 (q2.trans (z.trans this))⟩⟩
    exact e.nx _ _ _ (h1 l) k1 k2
  ·exact h1.elim
 ·exact h1.elim
def Lu{C:Addr}{c:Pw}{ss ss':List S}{us:List V}{R:S->Prop}{X:XR}{Q:VK}{Ec:XK}(env:EnvR K H0 B H σ γ)(S1:Same H H1)(t1:TVs K (zof B γ σ) H0 H H1 ss us)(ep:passes ss=some ss')(h1:∀x,c (.ins x C [] []) ss' (fun o' d=>d=.non/\R (.own o')) (fun _ e=>X e))(q:∀s v H',R s->Same H H'->TV K (zof B γ σ) H0 H H' s v->Q v H')(qx:∀c H',X c->Same H H'->Ec (.ref (ExcR.JU mg c)) none H') :
  ∀x dx,H1 x=none->H1 dx=none->dx≠x->spW mg c K (.ref x::us) (upd (upd H1 dx (.own x)) x (.ins C dx [])) (fun v H2=>v=.non/\Q (.ref x) H2) Ec:=by
 have env1:=env.grow S1;intro x dx nx ndx nex
 have S2:Same H1 (upd (upd H1 dx (.own x)) x (.ins C dx [])):=fun b o e=>by
  rw[Uv (Kb e nx),Uv (Kb e ndx)];exact e
 have aft:∀o' H',After K (zof B γ σ) (upd (upd H1 dx (.own x)) x (.ins C dx [])) x (.ins x C [] []) o' H'->Same H1 H'/\∀b,o'.adr x b->H b=none:=fun o' H' A=>by
  refine⟨fun b o e=>A.same b o (UQ (S2 b o e) fun z=>?_),fun b hb=>?_⟩
  ·rcases z with z|⟨c,hc,_⟩
   ·rw[z,nx]at e;cases e
   ·cases hc
  ·rcases A.new b hb with(z|⟨c,hc,_⟩)|z
   ·rw[z];exact S1.free nx
   ·cases hc
   ·exact S1.free (S2.free z)
 refine⟨.ins x C [] [],x,ss',us,zof B γ σ,_,_,rfl,fun b hb=>⟨Ko S2 (env1.zm b hb),fun z=>?_⟩,⟨rfl,rfl,⟨dx,UJ⟩,(fun c hc=>by cases hc),Qq⟩,?_,Ng ep,h1 x,fun o' d v H' hR A rd=>?_,fun o' e H' hX A=>?_⟩
 ·rcases z with z|⟨c,hc,_⟩
  ·have:=env1.zm b hb
   rw[z,nx]at this;exact this
  ·cases hc
 ·refine t1.pass env1.same env.zm S1 (fun b o e=>UQ (S2 _ _ (env1.same b o e)) fun z=>?_) (Uo S2 fun b o e z y=>?_) ep
  ·rcases z with z|⟨c,hc,_⟩
   ·rw[z,(env1.same).free nx]at e;cases e
   ·cases hc
  ·rcases y with y|y|⟨c,hc,_⟩
   ·exact z y
   ·rw[y,nx]at e;cases e
   ·cases hc
 ·obtain⟨rfl,hR⟩:=hR;obtain⟨k1,k2⟩:=aft o' H' A;exact⟨Rp.non_inv rd,q _ _ H' hR (S1.trans k1) ⟨x,rfl,k2,A.at_⟩⟩
 ·exact qx e H' hX (S1.trans (aft o' H' A).1)
def Zbp(C:Addr)(c:Pw)(r:PTA):PTE:=fun γ R X=>r γ (fun ss=>match passes ss with|some ss'=>∀x,c (.ins x C [] []) ss' (fun o' d=>d=.non/\R (.own o')) (fun _ _=>False)|none=>False) X
def Mp{C:Addr}{c:Pw}{ta:TA}{r:PTA}(hr:SndA K mg E ta r):SndE K mg E (Ao C (spW mg c K) [] E0 ta) (Zbp C c r):=by
 intro H0 B H σ γ R X Q env p q qx;refine hr H0 B H σ γ _ X _ env p (fun ss us H1 h1 S1 t1=>?_) qx;split at h1
 ·rename_i ss' ep;rw[Wl];exact Lu (X:=fun _=>False) env S1 t1 ep h1 q fun _ _ z=>z.elim
 ·exact h1.elim
end
def len0{α:Type}{us:List α}(h:us.length=0):∃_:True,us=[]:=⟨trivial,WG.mp h⟩
def len1{α:Type}{us:List α}(h:us.length=1):∃a,us=[a]:=List.length_eq_one_iff.mp h
def len2{α:Type}{us:List α}(h:us.length=2):∃a b,us=[a,b]:=by
 cases us with
 |nil=>cases h
 |cons a r=>obtain⟨b,rfl⟩:=len1 (us:=r) (by simpa using h);exact⟨a,b,rfl⟩
def len3{α:Type}{us:List α}(h:us.length=3):∃a b c,us=[a,b,c]:=by
 cases us with
 |nil=>cases h
 |cons a r=>obtain⟨b,c,rfl⟩:=len2 (us:=r) (by simpa using h);exact⟨a,b,c,rfl⟩
def len4{α:Type}{us:List α}(h:us.length=4):∃a b c d,us=[a,b,c,d]:=by
 cases us with
 |nil=>cases h
 |cons a r=>obtain⟨b,c,d,rfl⟩:=len3 (us:=r) (by simpa using h);exact⟨a,b,c,d,rfl⟩
def len5{α:Type}{us:List α}(h:us.length=5):∃a b c d e,us=[a,b,c,d,e]:=by
 cases us with
 |nil=>cases h
 |cons a r=>obtain⟨b,c,d,e,rfl⟩:=len4 (us:=r) (by simpa using h);exact⟨a,b,c,d,e,rfl⟩
structure DefM (K:Za) (W:Addr->Prop) (x q:Str) (st:Stmt) (ps:List Str):Prop where
 ex:∃f fd,Fun K x q st f fd/\W f/\Binds K fd ps []
structure CalleeM (P:Program) (w:World) (K:Za) (mg:Str->Option Value) (base:Heap) (CX:CXT) (k:Nat) (W:Addr->Prop) (ps:List Str) (sp:Sp):Prop where
 ex:∃f fd,FnOk P w K mg base CX k f fd ps sp/\W f/\Binds K fd ps []
section
variable {P:Program}{w:World}{K:Za}{mg:Str->Option Value}{base:Heap}{W:Addr->Prop}
def DefM.ok {x q:Str}{st:Stmt}{N ps:List Str}{k:Nat}{sp:Sp} (D:DefM K W x q st ps) (S:FnScope N ps (JV st)) (len:∀vs H Q E,sp vs H Q E->vs.length=ps.length)
  (hbody:∀(f:Addr) (cdv:Value) (A:Around) (outer:List Env) (s:Shared) (H:Hp) (vs:List V) (Q:VK) (E:XK),Room k (A.deeper (envOfC q (JV st) s.heap.objs.size f cdv))->sp vs H Q E->
   ∃t,PSs (cxOf CX0 P w K mg base N q (JV st) f cdv A outer s H E).nox (Xl st) t/\t {nx:=fun _ H'=>Q .non H',rt:=Q} (start N vs) H):CalleeM P w K mg base CX0 (k+1) W ps sp:=by
 obtain⟨f,fd,F,hm,hb⟩:=D.ex;exact⟨f,fd,F.ok S len fun cdv A outer s H vs Q E hr h=>hbody f cdv A outer s H vs Q E hr h,hm,hb⟩
def DefM.okX {x q:Str}{st:Stmt}{N ps:List Str}{k:Nat}{sp:Sp} (D:DefM K W x q st ps) (S:FnScope N ps (JV st)) (len:∀vs H Q E,sp vs H Q E->vs.length=ps.length)
  (hbody:∀(f:Addr) (cdv:Value) (A:Around) (outer:List Env) (s:Shared) (H:Hp) (vs:List V) (Q:VK) (E:XK),Room k (A.deeper (envOfC q (JV st) s.heap.objs.size f cdv))->sp vs H Q E->
   ∃t,PSs (cxOf (ExcR.CXe P w) P w K mg base N q (JV st) f cdv A outer s H E) (Xl st) t/\t {nx:=fun _ H'=>Q .non H',rt:=Q} (start N vs) H):CalleeM P w K mg base (ExcR.CXe P w) (k+1) W ps sp:=by
 obtain⟨f,fd,F,hm,hb⟩:=D.ex;obtain⟨oc,od,kV,doc,pm,an,cdv,ct,osl,rfl,lk,hcd⟩:=F.ex;exact⟨f,_,SR lk hcd S len fun A outer s H vs Q E hr hsp=>hbody f cdv A outer s H vs Q E hr hsp,hm,hb⟩
def Tn{X:Cx}:Kc (ExcR.CXe P w) X E0:=fun _ _ _ _ _ _ _ h=>by
 obtain⟨a,T,C,H',_,_,z⟩:=h;exact z.elim
end
section
variable {X:Cx}{CX:CXT}{k:Nat}{Cc:Addr}{ps:List Str}{sp:Sp}{E:XK}{ES:L2.St->XK}{x m:Str}{p pos apos:Pos}{e o:Expr}{es:List Expr}{ta:TE}{t:TA}
def Kv{pl:Sem Bool}(C:CalleeM X.prog X.w X.K X.mg X.base CX k (Meth X.K Cc m) ps sp)(c:Cls X.K Cc)(hr:Room k X.A)(hx:Kc CX X E)(he:PE X o ta)(ha:PA X (e::es) t)(hst:starEach (e::es) X.env=(false,eval e X.env)::starEach es X.env:=by rfl)(hpl:(backTo pos (starEach es X.env)).any (·.1)=false:=by rfl)
  (ht:eval (.Call (.Attribute o m apos) (e::es) [] pos) X.env=(do
   let ov ←eval o X.env
   standAt apos.atName
   let (f,first) ←holding [ov] (getMethod ov m pl)
   callWith pos f first (backTo pos (starEach (e::es) X.env)) (backToKw pos (keywordEach [] X.env))):=by rfl) :
  PE X (.Call (.Attribute o m apos) (e::es) [] pos) (Pj Cc m sp [] E ta t):=by
 obtain⟨f,fd,F,hm,hb⟩:=C.ex;exact Zgk he c hm F hr hb .nil hx ha hst hpl ht
def UI{pl:Sem Bool}(C:CalleeM X.prog X.w X.K X.mg X.base CX k (Meth X.K Cc m) ps sp)(c:Cls X.K Cc)(hr:Room k X.A)(hx:Kc CX X E)(he:PE X o ta)
  (ht:eval (.Call (.Attribute o m apos) [] [] pos) X.env=(do
   let ov ←eval o X.env
   standAt apos.atName
   let (f,first) ←holding [ov] (getMethod ov m pl)
   callWith pos f first (backTo pos (starEach [] X.env)) (backToKw pos (keywordEach [] X.env))):=by rfl) :
  PE X (.Call (.Attribute o m apos) [] [] pos) (Pj Cc m sp [] E ta tNil):=by
 obtain⟨f,fd,F,hm,hb⟩:=C.ex;exact MW he c hm F hr hb .nil hx ht
def RX(C:CalleeM X.prog X.w X.K X.mg X.base CX k (Mk X.K Cc) ps sp)(hm:X.mg x=some (.ref Cc))(hr:Room (k+1) X.A)(hx:Kc CX X E)(ha:PA X (e::es) t)(hg:Gl X x:=by rfl)(hdb:(x==("__debug__" : Str))=false:=by decide)(he:starEach (e::es) X.env=(false,eval e X.env)::starEach es X.env:=by rfl)(hpl:(backTo pos (starEach es X.env)).any (·.1)=false:=by rfl) :
  PE X (.Call (.Name x p) (e::es) [] pos) (Ao Cc sp [] E t):=by
 obtain⟨f,fd,F,M,hb⟩:=C.ex;exact Of M F hr hg hm hb .nil hx ha hdb he hpl
end
abbrev PTF:=Γ->Str->(Str->Prop)->XR->Prop
section
variable {K:Za}{mg:Str->Option Value}{E:L2.St->XK}{t:ExcR.TF}{p:PTF}{te:TE}{a:PTE}
def SndF(K:Za)(mg:Str->Option Value)(E:L2.St->XK)(t:ExcR.TF)(p:PTF):Prop:=∀(H0:Hp) (B:Addr->Prop) (H:Hp) (σ:L2.St) (γ:Γ) (out:Str) (R:Str->Prop) (X:XR) (Q:Str->Hp->Prop),EnvR K H0 B H σ γ->p γ out R X->
 (∀x H',R x->Same H H'->Q x H')->(∀c H',X c->Same H H'->E σ (.ref (ExcR.JU mg c)) none H')->t σ H out Q
def Zga:PTF:=fun _ out R _=>out.length<=sizeLine/\R out
def Pr:SndF K mg E ExcR.fNil Zga:=fun H0 B H σ γ out R X Q env h q _=>⟨h.1,q _ H h.2 (Same.refl _)⟩
def Li(x:Str)(p:PTF):PTF:=fun γ out R X=>(out++x).length<=sizeLine/\p γ (out++x) R X
def Kg{x:Str}(h:SndF K mg E t p):SndF K mg E (ExcR.fStr x t) (Li x p):=fun H0 B H σ γ out R X Q env hp q qx=>⟨hp.1,h H0 B H σ γ _ R X Q env hp.2 q qx⟩
def IQ(a:PTE)(p:PTF):PTF:=fun γ out R X=>a γ (fun s=>match s.d with
 | .int i=>i.natAbs.log2<1920/\(out++(Str.ofString (toString i))).length<=sizeLine/\p γ (out++Str.ofString (toString i)) R X
 | .str x=>x.length<=sizeLine/\(out++x).length<=sizeLine/\p γ (out++x) R X
 |_=>False) X
def Pk(ha:SndE K mg E te a)(h:SndF K mg E t p):SndF K mg E (ExcR.fVal te t) (IQ a p):=fun H0 B H σ γ out R X Q env hp q qx=>by
 refine ha H0 B H σ γ _ X _ env hp (fun s v H1 h1 S1 t1=>?_) qx;have env1:=env.grow S1;have rs:=t1.rp env1.same;split at h1
 ·rename_i i ei;rw[ei]at rs;exact .inl ⟨i,rs.int_inv,h1.1,h1.2.1,h H0 B H1 σ γ _ R X Q env1 h1.2.2 (fun x H' hx S'=>q x H' hx (S1.trans S')) fun c H' hc S'=>qx c H' hc (S1.trans S')⟩
 ·rename_i x ex;rw[ex]at rs;exact .inr ⟨x,rs.str_inv,h1.1,h1.2.1,h H0 B H1 σ γ _ R X Q env1 h1.2.2 (fun x H' hx S'=>q x H' hx (S1.trans S')) fun c H' hc S'=>qx c H' hc (S1.trans S')⟩
 ·exact h1.elim
def pF(p:PTF):PTE:=fun γ R X=>p γ Str.empty (fun x=>R (.sh (.str x))) X
def se_f(h:SndF K mg E t p):SndE K mg E (ExcR.tF t) (pF p):=fun H0 B H σ γ R X Q env hp q qx=>
 h H0 B H σ γ _ _ X _ env hp (fun x H' hx S'=>q _ _ H' hx S' (.str x)) qx
end
open M
abbrev plD(f:List (Int×Int)):D:=.lst (f.map prD)
abbrev dD(q:Str×List Int):D:=.tup (.str q.1::q.2.map D.int)
abbrev vF:List Str:=["book","fields","wished"]
abbrev vO(C x b1 b2 b3:Addr)(bk:List (Str×List Int))(fs ws:List (List (Int×Int))):O:=.ins x C vF [(b1,bk.map dD),(b2,fs.map plD),(b3,ws.map plD)]
abbrev vilD(C:Addr)(bk:List (Str×List Int))(fs ws:List (List (Int×Int))):D:=.ins C vF [.lst (bk.map dD),.lst (fs.map plD),.lst (ws.map plD)]
def Nz{α:Type}(f:α->D)(xs:List α)(x:α):atI ((xs++[x]).map f) (-1)=some (f x):=by
 refine K6 ?_;unfold atI ixN;rw[Yx (by omega),Yz (by rw[Y4,Wn];omega)];show(xs++[x])[_]?=some x;have e:((-1:Int)+((xs++[x]).length:Int)).toNat=xs.length:=by rw[Y4,Wn];omega
 rw[e,Wc (Y3 _),VE];rfl
def UW(e:Option Str)(X:Str->Prop)(R:Prop):Prop:=match e with|some c=>X c|none=>R
def Tr(h:Int):Option Str:=if 1<=h/\h<=10 then none else some "BadHolder"
def KW:List (Int×Int)->Option Str
 |[]=>none
 |q::r=>if ¬(1<=q.1/\q.1<=10)then some "BadHolder" else if ¬(1<=q.2/\q.2<=1000)then some "BadWidth" else KW r
def Tt(ps:List (Int×Int)):Option Str:=if 40<ps.length then some "TooManyStrips" else KW ps
def Ck:∀{ps:List (Int×Int)},Field ps->KW ps=none
 |[],_=>rfl
 |q::r,h=>by
  obtain⟨h1,h2,h3,h4⟩:=h q YO;unfold KW;rw[Yx (fun z=>z ⟨h1,h2⟩),Yx (fun z=>z ⟨h3,h4⟩)];exact Ck fun x hx=>h x (YJ _ hx)
def Zdw{ps:List (Int×Int)}(h:Field ps)(hl:ps.length<=40):Tt ps=none:=by
 unfold Tt;rw[Yx (by omega)];exact Ck h
def NQ(ps:List (Int×Int))(p:Int):Option Str:=if p<1\/(ps.length:Int)<p then some "NoStrip" else none
def atP1(ps:List (Int×Int))(p:Int):Int×Int:=ps.getD (p-1).toNat (0,0)
def Xj(ps:List (Int×Int))(p h:Int):Option Str:=if p<1\/(ps.length:Int)<p then some "NoStrip" else if ¬(1<=h/\h<=10)then some "BadHolder" else if (atP1 ps p).1=h then some "OwnStrip" else none
def K8(ps:List (Int×Int))(p h:Int):List (Int×Int):=ps.set (p-1).toNat (h,(atP1 ps p).2)
def Ge{ps:List (Int×Int)}{p:Int}{x:Int×Int}(h1:1<=p)(h2:p<=ps.length):cutD (ps.map prD) none (some (p-1))++[prD x]++cutD (ps.map prD) (some p) none=(ps.set (p-1).toNat x).map prD:=by
 rw[KC,KC,Sm ps (by omega),T7 ps (by omega)];have e:p.toNat=(p-1).toNat+1:=by omega
 rw[e,List.set_eq_take_append_cons_drop,Yz (by omega),Y9,YC,QR];rfl
def KG{ps:List (Int×Int)}{p:Int}(h1:1<=p)(h2:p<=ps.length):atI (ps.map prD) (p-1)=some (prD (atP1 ps p)):=by
 rw[Xs (by omega) (by omega)];unfold atP1;rw[Yw,Yt (show(p-1).toNat<ps.length by omega)];rfl
def LY(ps:List (Int×Int))(p h:Int):(K8 ps p h).length=ps.length:=Wy ..
def O8{ps:List (Int×Int)}{p h:Int}(hF:Field ps)(e:Xj ps p h=none):Field (K8 ps p h):=by
 unfold Xj at e;split at e
 ·cases e
 ·split at e
  ·cases e
  ·rename_i c1 c2;have hl:(p-1).toNat<ps.length:=by omega
   intro q hq;unfold K8 at hq;rcases List.mem_or_eq_of_mem_set hq with hq|rfl
   ·exact hF q hq
   ·have:atP1 ps p∈ps:=by
     unfold atP1;rw[Yw,Yt hl];exact YK hl
    obtain⟨_,_,w1,w2⟩:=hF _ this
    have:=Wu.mp c2
    exact⟨this.1,this.2,w1,w2⟩
def Oe(q:Int×Int)(r:List (Int×Int)):KW (q::r)=if ¬(1<=q.1/\q.1<=10)then some ("BadHolder" : Str)else if ¬(1<=q.2/\q.2<=1000)then some ("BadWidth" : Str)else KW r:=rfl
def Nc(ps:List (Int×Int))(p h:Int):List Bool:=if p<1\/(ps.length:Int)<p then[true,true,false,false]else if ¬(1<=h/\h<=10)then[true,false,true,false]else if (atP1 ps p).1=h then[true,false,false,true]else[]
def Zhy(ps:List (Int×Int))(p h:Int):(Xj ps p h=some ("NoStrip" : Str)/\Nc ps p h=[true,true,false,false])\/(Xj ps p h=some ("BadHolder" : Str)/\Nc ps p h=[true,false,true,false])\/(Xj ps p h=some ("OwnStrip" : Str)/\Nc ps p h=[true,false,false,true])\/
  (Xj ps p h=none/\Nc ps p h=[]/\1<=p/\p<=ps.length):=by
 unfold Xj Nc;by_cases c:p<1\/(ps.length:Int)<p
 ·rw[Yz c,Yz c];exact .inl ⟨rfl,rfl⟩
 ·rw[Yx c,Yx c];by_cases c2:1<=h/\h<=10
  ·rw[Yx (Wu.mpr c2),Yx (Wu.mpr c2)];by_cases c3:(atP1 ps p).1=h
   ·rw[Yz c3,Yz c3];exact .inr (.inr (.inl ⟨rfl,rfl⟩))
   ·rw[Yx c3,Yx c3];exact .inr (.inr (.inr ⟨rfl,rfl,by omega,by omega⟩))
  ·rw[Yz c2,Yz c2];exact .inr (.inl ⟨rfl,rfl⟩)
def Xf(ps:List (Int×Int))(p w:Int):Option Str:=if p<1\/(ps.length:Int)<p then some "NoStrip" else if w<1\/(atP1 ps p).2<=w then some "BadPart" else if 40<=ps.length then some "TooManyStrips" else none
def Ka(ps:List (Int×Int))(p w:Int):List (Int×Int):=ps.take (p-1).toNat++[((atP1 ps p).1,w),((atP1 ps p).1,(atP1 ps p).2-w)]++ps.drop p.toNat
def TB(ps:List (Int×Int))(p w:Int):List Bool:=if p<1\/(ps.length:Int)<p then[true,true,false,false]else if w<1\/(atP1 ps p).2<=w then[true,false,true,false]else if 40<=ps.length then[true,false,false,true]else[]
def Zeo(ps:List (Int×Int))(p w:Int):(Xf ps p w=some ("NoStrip" : Str)/\TB ps p w=[true,true,false,false])\/(Xf ps p w=some ("BadPart" : Str)/\TB ps p w=[true,false,true,false])\/(Xf ps p w=some ("TooManyStrips" : Str)/\TB ps p w=[true,false,false,true])\/
  (Xf ps p w=none/\TB ps p w=[]/\1<=p/\p<=ps.length/\1<=w/\w<(atP1 ps p).2/\ps.length<40):=by
 unfold Xf TB;by_cases c:p<1\/(ps.length:Int)<p
 ·rw[Yz c,Yz c];exact .inl ⟨rfl,rfl⟩
 ·rw[Yx c,Yx c];by_cases c2:w<1\/(atP1 ps p).2<=w
  ·rw[Yz c2,Yz c2];exact .inr (.inl ⟨rfl,rfl⟩)
  ·rw[Yx c2,Yx c2];by_cases c3:40<=ps.length
   ·rw[Yz c3,Yz c3];exact .inr (.inr (.inl ⟨rfl,rfl⟩))
   ·rw[Yx c3,Yx c3];exact .inr (.inr (.inr ⟨rfl,rfl,by omega,by omega,by omega,by omega,by omega⟩))
def Sx{ps:List (Int×Int)}{p:Int}(h1:1<=p)(h2:p<=ps.length):atP1 ps p∈ps:=by
 have hl:(p-1).toNat<ps.length:=by omega
 unfold atP1;rw[Yw,Yt hl];exact YK hl
def DG{ps:List (Int×Int)}{p w:Int}(h1:1<=p):cutD (ps.map prD) none (some (p-1))++[prD ((atP1 ps p).1,w),prD ((atP1 ps p).1,(atP1 ps p).2-w)]++cutD (ps.map prD) (some p) none=(Ka ps p w).map prD:=by
 rw[KC,KC,Sm ps (by omega),T7 ps (by omega)];unfold Ka;rw[Y9,Y9];rfl
def Zc7{ps:List (Int×Int)}{p w:Int}(h1:1<=p)(h2:p<=ps.length):(Ka ps p w).length=ps.length+1:=by
 unfold Ka;rw[Y4,Y4,We,QY];simp;omega
def Zay{ps:List (Int×Int)}{p w:Int}(hF:Field ps)(h1:1<=p)(h2:p<=ps.length)(h3:1<=w)(h4:w<(atP1 ps p).2):Field (Ka ps p w):=by
 obtain⟨a1,a2,a3,a4⟩:=hF _ (Sx h1 h2);intro q hq;unfold Ka at hq;rcases YR.mp hq with hq|hq
 ·rcases YR.mp hq with hq|hq
  ·exact hF q (Vq hq)
  ·rcases YA.mp hq with rfl|hq
   ·exact⟨a1,a2,h3,by show w<=1000;omega⟩
   ·rw[Y5]at hq;subst hq;exact⟨a1,a2,by show 1<=_-w;omega,by show _-w<=1000;omega⟩
 ·exact hF q (List.mem_of_mem_drop hq)
section
variable {K:Za}{mg:Str->Option Value}{E:L2.St->XK}
def Hl(i:Nat)(a:PTE):PTS:=fun R γ=>match γ[i]? with
 |some (some (.own (.lst ds)))=>a γ (fun s=>match s.shd with
  |some (.lst es)=>ds.length+es.length<=10000000/\R.nx (γ.set i (some (.own (ds++es))))
  |_=>False) (R.ex γ)
 |_=>False
def HP(i:Nat){te:TE}{a:PTE}(ha:SndE K mg E te a):SndS K mg E (NC (tBM K "list" Cd (tVar i) (Xc te tNil))) (Hl i a):=by
 intro H0 B H σ γ R D hB env h e;unfold Hl at h;split at h
 ·rename_i ds hi;obtain⟨v,hv,b,rfl,hb0,us,hb,rb⟩:=env.slot i _ hi;refine⟨_,hv,.inl ⟨rfl,us,SqL.of hb⟩,ha H0 B H σ γ _ _ _ env h (fun s u H1 h1 S1 t1=>?_) fun c H' hc S'=>e.ex σ γ c H' hc (env.grow S') (Fr.grow S')⟩;have env1:=env.grow S1;split at h1
  ·rename_i es e2;have rd:=t1.shd env1.same env.zm S1 e2;obtain⟨a',vs,rfl,ha',rvs⟩:=Rp.lst_inv rd;refine⟨b,a',us,vs,rfl,rfl,S1 _ _ hb,off_sub _ _ ha',by rw[rb.len,rvs.len];exact Y8 h1.1 (by decide),?_⟩;obtain⟨e2,f2⟩:=env1.mutate (es:=.lst (ds++es)) (us:=.lst (us++vs)) hi hv trivial fun F H' SF hF=>⟨_,hF,Rps.mono SF (Rps.append (Rps.mono (Uo S1 fun _ _ _ z=>z) rb) rvs)⟩;exact e.nx _ _ _ h1.2 e2 ((Fr.grow S1).trans f2)
  ·exact h1.elim
 ·exact h.elim
end
def Gf:∀{a b:List Int},sl a b->¬sl b a
 |[],_,h,_=>by cases h
 |_::_,[],h,_=>by cases h
 |a::r,b::t,h,k=>by
  rcases h with h|⟨e,h⟩
  ·rcases k with k|⟨e,_⟩<;>omega
  ·rcases k with k|⟨_,k⟩
   ·omega
   ·exact Gf h k
def Best.uniq {ws:List (Int×Int)}{c:Int->Int->Int}{ms o p:List Int} (h:Best ws c ms o) (k:Best ws c ms p):o=p:=by
 have e:oc c p=oc c o:=by
  have h1:=h.le p k.perm k.keeps;have h2:=k.le o h.perm h.keeps;omega
 rcases h.first p k.perm k.keeps e with z|z
 ·exact z
 ·rcases k.first o h.perm h.keeps e.symm with y|y
  ·exact y.symm
  ·exact absurd y (Gf z)
def UX(ws:List (Int×Int))(a b:Int):Option Str:=if ¬(1<=a/\a<=10)then some "BadHolder" else if ¬(1<=b/\b<=10)then some "BadHolder" else if a=b then some "LikeHolders" else if (a,b)∈ws then some "WishStands" else if 20<=ws.length then some "TooManyWishes" else none
def Xa(ws:List (Int×Int))(a b:Int):Option Str:=if (a,b)∈ws then none else some "NoWish"
def K9(ws:List (Int×Int))(a b:Int):List (Int×Int):=ws.filter fun q=>!decide (q=(a,b))
def uniE(ps:List (Int×Int))(p:Int):Option Str:=if p<1\/(ps.length:Int)<=p then some "NoStrip" else if ¬(atP1 ps p).1=(atP1 ps (p+1)).1 then some "UnlikeHolders" else if 1000<(atP1 ps p).2+(atP1 ps (p+1)).2 then some "TooWide" else none
def uniL(ps:List (Int×Int))(p:Int):List (Int×Int):=ps.take (p-1).toNat++[((atP1 ps p).1,(atP1 ps p).2+(atP1 ps (p+1)).2)]++ps.drop (p+1).toNat
def E7{ps:List (Int×Int)}{p:Int}(h1:1<=p):cutD (ps.map prD) none (some (p-1))++[prD ((atP1 ps p).1,(atP1 ps p).2+(atP1 ps (p+1)).2)]++cutD (ps.map prD) (some (p+1)) none=(uniL ps p).map prD:=by
 rw[KC,KC,Sm ps (by omega),T7 ps (by omega)];unfold uniL;rw[Y9,Y9];rfl
def L7{ps:List (Int×Int)}{p:Int}(h1:1<=p)(h2:p<ps.length):(uniL ps p).length+1=ps.length:=by
 unfold uniL;rw[Y4,Y4,We,QY];simp;omega
def Zc4{ps:List (Int×Int)}{p:Int}(hF:Field ps)(e:uniE ps p=none):Field (uniL ps p):=by
 unfold uniE at e;split at e
 ·cases e
 split at e
 ·cases e
 split at e
 ·cases e
 rename_i c1 c2 c3;obtain⟨a1,a2,a3,a4⟩:=hF _ (Sx (ps:=ps) (p:=p) (by omega) (by omega));obtain⟨b1,b2,b3,b4⟩:=hF _ (Sx (ps:=ps) (p:=p+1) (by omega) (by omega));intro q hq;unfold uniL at hq;rcases YR.mp hq with hq|hq
 ·rcases YR.mp hq with hq|hq
  ·exact hF q (Vq hq)
  ·rw[Y5]at hq;subst hq;exact⟨a1,a2,by show 1<=_+_;omega,by show _+_<=1000;omega⟩
 ·exact hF q (List.mem_of_mem_drop hq)
def IH{ws:List (Int×Int)}{a b:Int}(h:K0 ws)(e:UX ws a b=none):K0 (ws++[(a,b)]):=by
 unfold UX at e;split at e
 ·cases e
 split at e
 ·cases e
 split at e
 ·cases e
 split at e
 ·cases e
 split at e
 ·cases e
 rename_i c1 c2 c3 c4 c5;obtain⟨h1,h2,h3⟩:=h;have k1:=Wu.mp c1;have k2:=Wu.mp c2;refine⟨by rw[Y4,Wn];omega,?_,fun q hq=>?_⟩
 ·rw[W4];exact⟨h2,by simp,fun x hx y hy z=>by rw[Y5]at hy;subst hy;exact c4 (z▸hx)⟩
 ·rcases YR.mp hq with hq|hq
  ·exact h3 q hq
  ·rw[Y5]at hq;subst hq;exact⟨⟨k1.1,k1.2,k2.1,k2.2⟩,c3⟩
def Zbm{ws:List (Int×Int)}{a b:Int}(h:K0 ws):K0 (K9 ws a b):=
 ⟨Y8 (Wd _ _) h.1,h.2.1.filter _,fun q hq=>h.2.2 q (YS.mp hq).1⟩
def Mj:K0 []:=⟨by decide,Qq,fun q hq=>by cases hq⟩
def Ze4(m:List Int)(k:Int):Int:=1+(k*m.getD 1 0+m.getD 2 0) % 10
def Th(ps:List (Int×Int))(os:List Int):Option Str:=if os.isPerm (Ul ps)=true then none else some "BadOrder"
def IB{ps:List (Int×Int)}{os:List Int}(h:os.Perm (Ul ps)):Th ps os=none:=by
 unfold Th;rw[Yz (List.isPerm_iff.mpr h)]
def Zax{ps:List (Int×Int)}{os ns:List Int}(h1:ns.Perm os)(h2:ns.Pairwise (·<=·)):(ns=Ul ps)↔os.isPerm (Ul ps)=true:=by
 rw[List.isPerm_iff];exact⟨fun z=>z▸h1.symm,fun z=>HK z h1 h2⟩
def uniK(ps:List (Int×Int))(p:Int):List Bool:=if p<1\/(ps.length:Int)<=p then[true,true,false,false]else if ¬(atP1 ps p).1=(atP1 ps (p+1)).1 then[true,false,true,false]else if 1000<(atP1 ps p).2+(atP1 ps (p+1)).2 then[true,false,false,true]else[]
def Zei(ps:List (Int×Int))(p:Int):(uniE ps p=some ("NoStrip" : Str)/\uniK ps p=[true,true,false,false])\/(uniE ps p=some ("UnlikeHolders" : Str)/\uniK ps p=[true,false,true,false])\/(uniE ps p=some ("TooWide" : Str)/\uniK ps p=[true,false,false,true])\/
  (uniE ps p=none/\uniK ps p=[]/\1<=p/\p<ps.length):=by
 unfold uniE uniK;by_cases c:p<1\/(ps.length:Int)<=p
 ·rw[Yz c,Yz c];exact .inl ⟨rfl,rfl⟩
 ·rw[Yx c,Yx c];by_cases c2:(atP1 ps p).1=(atP1 ps (p+1)).1
  ·rw[Yx (Wu.mpr c2),Yx (Wu.mpr c2)];by_cases c3:1000<(atP1 ps p).2+(atP1 ps (p+1)).2
   ·rw[Yz c3,Yz c3];exact .inr (.inr (.inl ⟨rfl,rfl⟩))
   ·rw[Yx c3,Yx c3];exact .inr (.inr (.inr ⟨rfl,rfl,by omega,by omega⟩))
  ·rw[Yz c2,Yz c2];exact .inr (.inl ⟨rfl,rfl⟩)
def IP{ps:List (Int×Int)}{p:Int}(h1:1<=p)(h2:p<ps.length):atI (ps.map prD) p=some (prD (atP1 ps (p+1))):=by
 have:=KG (ps:=ps) (p:=p+1) (by omega) (by omega)
 rwa[show p+1-1=p by omega]at this
abbrev d3(k:Str)(a b:Int):D:=.tup [.str k,.int a,.int b]
end Pu
namespace M
open PySem PySem.Spec PyProof.Rows L2 Own Pu
def IR(c:Int->Int->Int):∀o:List Int,oc c o.reverse=oc (fun x y=>c y x) o
 |[]=>rfl
 |a::r=>by
  rw[List.reverse_cons,NF,IR c r,PL (List.reverse_perm r)];simp only[oc];omega
def GX(ps:List (Int×Int)):∀o:List Int,oc (fun x y=>pcM ps x y ps.length) o=ordM ps ps.length o
 |[]=>rfl
 |a::r=>by
  unfold oc ordM;rw[GX ps r]
def OB{ps:List (Int×Int)}{o:List Int}(hF:Field ps)(h:o.Perm (Ul ps)):oc (fun x y=>pcM ps x y ps.length) o=priM ps o ps.length:=by
 rw[GX];refine E9 (h.nodup_iff.mpr ((KQ ps).imp (fun h=>QK h))) ps.length fun j hj=>?_;rw[Yw,Yt hj];exact h.mem_iff.mpr ((B6 hF).mpr (YX.mpr ⟨_,YK hj,rfl⟩))
def GV{ps:List (Int×Int)}{o:List Int}(hF:Field ps)(h:o.Perm (Ul ps)):∀p∈ps,p.1∈o:=fun p hp=>h.mem_iff.mpr ((B6 hF).mpr (YX.mpr ⟨p,hp,rfl⟩))
end M
namespace Pu
open PySem PySem.Spec PyProof.Rows L2 Own
section
variable {K:Za}{mg:Str->Option Value}{E:L2.St->XK}
def rNeT(K:Za):R2:=fun x y H Q=>∃(p q:Addr) (xs ys:List V),x=.ref p/\y=.ref q/\SqT K H p xs/\SqT K H q ys/\xs.all XF=true/\ys.all XF=true/\Q (.bl (!eqL xs ys)) H
def D3{X:Cx}(hu:X.A.units<cLine)(hK:X.K=K:=by rfl):OpR X (compareOp .NotEq) (rNeT K):=by
 subst hK;intro pins s σ H x y v u Q I rx ry h;obtain⟨p,q,xs,ys,rfl,rfl,hp,hq,f1,f2,k⟩:=h;obtain rfl:v=Value.ref p:=rx;obtain rfl:u=Value.ref q:=ry;obtain⟨us,r1,p1,_⟩:=I.tuple hp;obtain⟨ws,r2,p2,_⟩:=I.tuple hq;have l1:=r1.length;have l2:=r2.length;refine SeqAt.RcNeAt.tuples p1 p2 hu (fun j h1 h2=>FI r1 r2 f1 f2 j h1 h2) _ _ _ _ ⟨.bl (!eqL xs ys),H,I,?_,k⟩;show _=Value.bool (!eqL xs ys);unfold eqL;rw[YD,YD,←l1,←l2];by_cases e:xs.length=ys.length
 ·rw[Yy e,Qw,←e,Nat.min_self,beq_self_eq_true,Bool.and_true]
 ·rw[YH e,Qo,WJ.mpr e,Vx]
def fNeT:S->S->(S->Prop)->Prop:=fun x y R=>∃xs ys:List Int,x.d=.tup (xs.map D.int)/\y.d=.tup (ys.map D.int)/\R (.sh (.bl (!decide (xs=ys))))
def CZ{ta tb:TE}{a b:PTE}(ha:SndE K mg E ta a)(hb:SndE K mg E tb b):SndE K mg E (tOp (rNeT K) ta tb) (p2 a b fNeT):=by
 refine se_2 ha hb fun H0 H H2 Z x y v u R Q s0 s1 hm tx ty h q=>?_;obtain⟨xs,ys,e1,e2,hR⟩:=h;have rx:=tx.rp s0;have ry:=ty.rp s0;rw[e1]at rx;rw[e2]at ry;obtain⟨p,us,rfl,hp,r1⟩:=Rp.tup_inv rx;obtain⟨p',ws,rfl,hp',r2⟩:=Rp.tup_inv ry;rw[r1.ints]at hp;rw[r2.ints]at hp';refine⟨p,p',_,_,rfl,rfl,SqT.of hp,SqT.of hp',Pe _,Pe _,?_⟩;rw[AL];exact q _ _ H2 hR (Same.refl _) (.bl _)
def I0:List S->(S->Prop)->Prop
 |[s],R=>(match s.d with | .int i=>R (.sh (.int i)) | .bl k=>R (.sh (.int (if k then 1 else 0)))|_=>False)
 |_,_=>False
def Zd2{ta:TA}{r:PTA}(hr:SndA K mg E ta r):SndE K mg E (tCB (fun xs H Q=>(∃i,xs=[.int i]/\Q (.int i) H)\/∃k,xs=[.bl k]/\Q (.int (if k then 1 else 0)) H) ta) (pCB I0 r):=by
 refine Kh hr fun H0 H H1 Z ss vs R Q s0 s1 hm tv h q=>?_;unfold I0 at h;split at h
 ·rename_i s;obtain⟨v,rfl,t1⟩:=tv.one_inv;have rv:=t1.rp s0;split at h
  ·rename_i i e;rw[e]at rv;exact .inl ⟨i,by rw[rv.int_inv],q _ _ H1 h (Same.refl _) (.int _)⟩
  ·rename_i k e;rw[e]at rv;exact .inr ⟨k,by rw[rv.bl_inv],q _ _ H1 h (Same.refl _) (.int _)⟩
  ·exact h.elim
 ·exact h.elim
def Zhc(p q:Int×Int):decide ([p.1,p.2]=[q.1,q.2])=decide (p=q):=by
 by_cases h:p=q
 ·rw[h,Yy rfl,Yy rfl]
 ·rw[YH h,YH];intro z;simp only[WR,and_true]at z;exact h (Prod.ext z.1 z.2)
def O5{p q:Int×Int}{R:S->Prop}(h:R (.sh (.bl (!decide (p=q))))):fNeT (.sh (prD p)) (.sh (prD q)) R:=by
 refine⟨[p.1,p.2],[q.1,q.2],rfl,rfl,?_⟩
 have e:decide ([p.1,p.2]=[q.1,q.2])=decide (p=q):=by
  by_cases h:p=q
  ·rw[h,Yy rfl,Yy rfl]
  ·rw[YH h,YH];intro z;simp only[WR,and_true]at z;exact h (Prod.ext z.1 z.2)
 rw[e];exact h
end
structure DI (K:Za) (x:Str) (st:Stmt):Prop where
 ex:∃f fd,PySem.W.nsIn K mainGlobals x=some (some (.ref f))/\Fun K x x st f fd
structure MI (K:Za) (C:Addr) (m q:Str) (st:Stmt):Prop where
 ex:∃f fd,PySem.W.findIn K (.ref C) m=some (some (.ref f))/\PySem.W.isFn K (.ref f)=true/\Fun K m q st f fd
section
variable {K:Za}{h:Heap}{mg:Str->Option Value}
def di{x:Str}{st:Stmt}{f:Addr}{oc:Value}{od an:Option Addr}{osl:Array (Option Value)}{kV doc pm cdv ct:Value}(a:PySem.W.nsIn K mainGlobals x=some (some (.ref f)))(l:K.lookup f=some ⟨oc,od,.func (PySem.W.fnOf x x (Kl st) (Xl st) (JV st) .none kV doc pm an cdv ct),osl⟩)(c:PySem.W.codeIn K cdv x=true)(k:PySem.W.keepIn K (.ref f)=true):DI K x st:=⟨f,_,a,Am l c k⟩
def mi{C:Addr}{m q:Str}{st:Stmt}{f:Addr}{oc:Value}{od an:Option Addr}{osl:Array (Option Value)}{kV doc pm cdv ct:Value}(a:PySem.W.findIn K (.ref C) m=some (some (.ref f)))(i:PySem.W.isFn K (.ref f)=true)(l:K.lookup f=some ⟨oc,od,.func (PySem.W.fnOf m q (Kl st) (Xl st) (JV st) .none kV doc pm an cdv ct),osl⟩)(c:PySem.W.codeIn K cdv q=true)(k:PySem.W.keepIn K (.ref f)=true):MI K C m q st:=⟨f,_,a,i,Am l c k⟩
def DI.d {x:Str}{st:Stmt}{ps:List Str} (D:DI K x st) (X:K.In h) (G0:h.Ns mainGlobals mg)
  (b:∀(kV doc pm:Value) (an:Option Addr) (cdv ct:Value) (us:List Value),us.length=ps.length->bindArgs (PySem.W.fnOf x x (Kl st) (Xl st) (JV st) .none kV doc pm an cdv ct) ⟨us,[]⟩=pure (ps.zip us)):Def K mg x st ps:=
 let ⟨_,_,a,F⟩:=D.ex
 ⟨_,_,F,W5 X G0 a,F.binds b⟩
def MI.d {C C':Addr}{m q:Str}{st:Stmt}{ps:List Str} (D:MI K C m q st) (e:C'=C)
  (b:∀(kV doc pm:Value) (an:Option Addr) (cdv ct:Value) (us:List Value),us.length=ps.length->bindArgs (PySem.W.fnOf m q (Kl st) (Xl st) (JV st) .none kV doc pm an cdv ct) ⟨us,[]⟩=pure (ps.zip us)):DefM K (Meth K C' m) m q st ps:=
 let ⟨_,_,a,i,F⟩:=D.ex
 ⟨_,_,F,by rw[e];exact⟨a,i,F.kp⟩,F.binds b⟩
def MI.i {C C':Addr}{q:Str}{st:Stmt}{ps:List Str} (D:MI K C "__init__" q st) (e:C'=C) (mk:PySem.W.makesIn K C=true) (kc:PySem.W.keepIn K (.ref C)=true)
  (b:∀(kV doc pm:Value) (an:Option Addr) (cdv ct:Value) (us:List Value),us.length=ps.length->bindArgs (PySem.W.fnOf "__init__" q (Kl st) (Xl st) (JV st) .none kV doc pm an cdv ct) ⟨us,[]⟩=pure (ps.zip us)):DefM K (Mk K C') "__init__" q st ps:=
 let ⟨_,_,a,i,F⟩:=D.ex
 ⟨_,_,F,by rw[e];exact⟨mk,a,i,kc⟩,F.binds b⟩
end
def fs{N P:List Str}{sc:Scope}(h1:sc.kind=.function:=by rfl)(h2:sc.isCoroutine=false:=by rfl)(h3:sc.isGenerator=false:=by rfl)(h4:N.Nodup:=by decide +kernel)(h5:N.take P.length=P:=by rfl)(h6:∀x∈P,sc.names.lookup x=some .local\/sc.names.lookup x=some .cell:=by decide +kernel)(h7:∀y∈sc.names,y.2≠.free:=by decide +kernel):FnScope N P sc:=⟨h1,h2,h3,h4,h5,h6,h7⟩
def pz{X:Cx}{pos:Pos}{x:Str}{e:Expr}{te:TE}{pos':Pos}(i:Nat)(hN:X.N.Nodup)(he:PE X e te)(hi:X.N[i]?=some x:=by rfl)(hx:Loc X.env.scope x:=by first|exact Or.inl rfl|exact Or.inr rfl)(hs:swapsWith e (some (.Name x pos')) pos.line X.env=pure false:=by rfl)(hf:X.fn x=true\/X.env.scope.names.lookup x=some .local:=by first|exact .inl rfl|exact .inr rfl|assumption) :
  PS X (.Assign [.Name x pos'] e pos) (tAsg te (PN i)):=LI hN hi hx he hs hf
section
variable {K:Za}{mg:Str->Option Value}{E:L2.St->XK}{H0 H H1 H':Hp}{B Z Z':Addr->Prop}{σ:L2.St}{γ:Γ}
def EnvR.named {i:Nat}{a:Addr}{ds:List D} (env:EnvR K H0 B H σ γ) (hi:γ[i]?=some (some (.own (.lst ds)))) (ha:σ[i]?=some (some (.ref a))):EnvR K H0 B H σ (γ.set i (some (.own (.lsA a ds))))/\Fr B H σ γ H σ (γ.set i (some (.own (.lsA a ds)))):=by
 obtain⟨v,hv,b,rfl,hb0,us,hb,rb⟩:=env.slot i _ hi;rw[ha]at hv;cases hv
 have hz:∀b,zof B (γ.set i (some (.own (.lsA a ds)))) σ b->zof B γ σ b:=fun b z=>by
  rcases z with z|⟨j,fs,a',e1,e2,e3⟩
  ·exact .inl z
  ·rcases UE e1 with⟨ej,q,_⟩|⟨_,e⟩
   ·subst ej;cases q
    rw[ha]at e2;cases e2
    exact .inr ⟨j,_,a,hi,ha,e3⟩
   ·exact .inr ⟨j,fs,a',e,e2,e3⟩
 exact env.change (o:=.lst ds) (o':=.lsA a ds) hi ha (fun _ _ h _=>h) (fun b h=>by rw[show b=a from h,hb];trivial) (fun b h=>.inl h) ⟨rfl,us,hb,Rps.mono (Uo (Same.refl _) fun b _ _ z y=>z (hz b y)) rb⟩
def pNm(i:Nat)(p:PTS):PTS:=fun R γ=>match γ[i]? with
 |some (some (.own (.lst ds)))=>∀a,p R (γ.set i (some (.own (.lsA a ds))))
 |_=>p R γ
def N2(i:Nat){t:TS}{p:PTS}(hp:SndS K mg E t p):SndS K mg E t (pNm i p):=by
 intro H0 B H σ γ R D hB env h e;unfold pNm at h;split at h
 ·rename_i ds hi;obtain⟨v,hv,b,rfl,hb0,us,hb,rb⟩:=env.slot i _ hi;obtain⟨e1,f1⟩:=env.named hi hv;exact hp H0 B H σ _ R D hB e1 (h b) (e.from f1)
 ·exact hp H0 B H σ γ R D hB env h e
def EnvR.change2 {i j:Nat}{a1 a2:Addr}{o1 o1' o2 o2':O} (E:EnvR K H0 B H σ γ) (hij:i≠j) (hi:γ[i]?=some (some (.own o1))) (hj:γ[j]?=some (some (.own o2))) (ha1:σ[i]?=some (some (.ref a1))) (ha2:σ[j]?=some (some (.ref a2)))
  (hH:∀b x,H b=some x->¬o1.adr a1 b->¬o2.adr a2 b->H' b=some x) (hm:∀b,o1.adr a1 b\/o2.adr a2 b->Mut (H' b)) (n1:∀b,o1'.adr a1 b->o1.adr a1 b\/H b=none) (n2:∀b,o2'.adr a2 b->o2.adr a2 b\/H b=none) (ap:∀b,o1'.adr a1 b->¬o2'.adr a2 b)
  (r1:OR K (Pu.off (zof B ((γ.set i (some (.own o1'))).set j (some (.own o2'))) σ) H') H' a1 o1') (r2:OR K (Pu.off (zof B ((γ.set i (some (.own o1'))).set j (some (.own o2'))) σ) H') H' a2 o2') :
  EnvR K H0 B H' σ ((γ.set i (some (.own o1'))).set j (some (.own o2')))/\Fr B H σ γ H' σ ((γ.set i (some (.own o1'))).set j (some (.own o2'))):=by
 generalize eg:(γ.set i (some (S.own o1'))).set j (some (.own o2'))=γ2 at r1 r2 ⊢
 have get:∀(k:Nat) (s:S),γ2[k]?=some (some s)->(k=j/\s=.own o2')\/(k=i/\k≠j/\s=.own o1')\/(k≠i/\k≠j/\γ[k]?=some (some s)):=fun k s h=>by
  rw[←eg]at h;rcases UE h with⟨e1,e2,_⟩|⟨e1,e2⟩
  ·exact .inl ⟨e1,(Y7 e2).symm⟩
  ·rcases UE e2 with⟨f1,f2,_⟩|⟨f1,f2⟩
   ·exact .inr (.inl ⟨f1,e1,(Y7 f2).symm⟩)
   ·exact .inr (.inr ⟨f1,e1,f2⟩)
 obtain⟨v1,q1,x1,rfl,h1,k1⟩:=E.slot i _ hi;rw[ha1]at q1;cases q1
 obtain⟨v2,q2,x2,rfl,h2,k2⟩:=E.slot j _ hj;rw[ha2]at q2;cases q2
 have za:∀b,o1.adr a1 b\/o2.adr a2 b->zof B γ σ b:=fun b hb=>hb.elim (fun hb=>.inr ⟨i,o1,a1,hi,ha1,hb⟩) fun hb=>.inr ⟨j,o2,a2,hj,ha2,hb⟩
 have hz:∀b x,H b=some x->zof B γ2 σ b->zof B γ σ b:=fun b x hx z=>by
  rcases z with z|⟨k,fs,a',e1,e2,e3⟩
  ·exact .inl z
  ·rcases get k _ e1 with⟨ek,es⟩|⟨ek,_,es⟩|⟨_,_,e⟩
   ·subst ek;cases es;rw[ha2]at e2;cases e2;rcases n2 b e3 with w|w
    ·exact za b (.inr w)
    ·rw[w]at hx;cases hx
   ·subst ek;cases es;rw[ha1]at e2;cases e2;rcases n1 b e3 with w|w
    ·exact za b (.inl w)
    ·rw[w]at hx;cases hx
   ·exact .inr ⟨k,fs,a',e,e2,e3⟩
 have hH':∀b x,H b=some x->¬(o1.adr a1 b\/o2.adr a2 b)->H' b=some x:=fun b x hx n=>hH b x hx (fun z=>n (.inl z)) fun z=>n (.inr z)
 have S1:Same (Pu.off (zof B γ σ) H) (Pu.off (zof B γ2 σ) H'):=fun b x h=>by
  obtain⟨q1,q2⟩:=Ki h;exact UQ (hH' b x q1 fun k=>q2 (za b k)) fun z=>q2 (hz b x q1 z)
 have old:∀(k:Nat) (ds:O) (a b:Addr),γ[k]?=some (some (.own ds))->σ[k]?=some (some (.ref a))->ds.adr a b->∃o,H b=some o:=fun k ds a b e1 e2 e3=>by
  obtain⟨u,q1,a',q2,_,q3⟩:=E.slot k _ e1;rw[e2]at q1;cases q1
  cases q2
  exact KF (q3.mut b e3)
 have apart1:∀(k:Nat) (ds:O) (a b:Addr),k≠i->γ[k]?=some (some (.own ds))->σ[k]?=some (some (.ref a))->ds.adr a b->¬o1'.adr a1 b:=fun k ds a b nk e1 e2 e3 w=>by
  rcases n1 b w with w|w
  ·exact nk (E.own k i a a1 ds o1 b e1 hi e2 ha1 e3 w)
  ·obtain⟨u,hu⟩:=old k ds a b e1 e2 e3;rw[w]at hu;cases hu
 have apart2:∀(k:Nat) (ds:O) (a b:Addr),k≠j->γ[k]?=some (some (.own ds))->σ[k]?=some (some (.ref a))->ds.adr a b->¬o2'.adr a2 b:=fun k ds a b nk e1 e2 e3 w=>by
  rcases n2 b w with w|w
  ·exact nk (E.own k j a a2 ds o2 b e1 hj e2 ha2 e3 w)
  ·obtain⟨u,hu⟩:=old k ds a b e1 e2 e3;rw[w]at hu;cases hu
 refine⟨⟨fun b x h=>?_,by rw[←eg,Wy,Wy];exact E.len,fun b hb=>?_,fun k l x x' fs fs' b e1 e2 e3 e4 e5 e6=>?_,fun k s h=>?_⟩,fun b x h z=>⟨?_,fun y=>z (hz b x h y)⟩⟩
 ·exact hH' b x (E.same b x h) fun k=>by
   rcases k with k|k
   ·rw[h1 b k]at h;cases h
   ·rw[h2 b k]at h;cases h
 ·by_cases k:o1.adr a1 b\/o2.adr a2 b
  ·exact hm b k
  ·have:=E.bm b hb
   obtain⟨x,hx⟩:=KF this;rw[hH' b x hx k,←hx];exact this
 ·rcases get k _ e1 with⟨ek,es⟩|⟨ek,nk,es⟩|⟨nk,nk',e⟩<;>rcases get l _ e2 with⟨el,et⟩|⟨el,nl,et⟩|⟨nl,nl',e'⟩
  ·rw[ek,el]
  ·subst ek el;cases es;cases et;rw[ha2]at e3;cases e3;rw[ha1]at e4;cases e4;exact absurd e5 (ap b e6)
  ·subst ek;cases es;rw[ha2]at e3;cases e3;exact absurd e5 (apart2 l fs' x' b nl' e' e4 e6)
  ·subst ek el;cases es;cases et;rw[ha1]at e3;cases e3;rw[ha2]at e4;cases e4;exact absurd e6 (ap b e5)
  ·rw[ek,el]
  ·subst ek;cases es;rw[ha1]at e3;cases e3;exact absurd e5 (apart1 l fs' x' b nl e' e4 e6)
  ·subst el;cases et;rw[ha2]at e4;cases e4;exact absurd e6 (apart2 k fs x b nk' e e3 e5)
  ·subst el;cases et;rw[ha1]at e4;cases e4;exact absurd e6 (apart1 k fs x b nk e e3 e5)
  ·exact E.own k l x x' fs fs' b e e' e3 e4 e5 e6
 ·rcases get k s h with⟨ek,es⟩|⟨ek,_,es⟩|⟨nk,nk',e⟩
  ·subst ek es;exact⟨_,ha2,a2,rfl,fun b hb=>(n2 b hb).elim (h2 b) fun w=>E.same.free w,r2⟩
  ·subst ek es;exact⟨_,ha1,a1,rfl,fun b hb=>(n1 b hb).elim (h1 b) fun w=>E.same.free w,r1⟩
  ·obtain⟨v,q1,q2⟩:=E.slot k s e;refine⟨v,q1,?_⟩;cases s with
   |bor d=>exact q2
   |sh d=>exact Rp.mono S1 q2
   |own fs=>
    obtain⟨x,rfl,e3,e4⟩:=q2;exact⟨x,rfl,e3,e4.mono S1 fun b hb y e2=>hH b y e2 (fun w=>nk (E.own k i x a1 fs o1 b e hi q1 ha1 hb w)) fun w=>nk' (E.own k j x a2 fs o2 b e hj q1 ha2 hb w)⟩
   |view ds=>exact q2
   |tmp d=>exact q2
 ·exact hH' b x h fun k=>z (za b k)
abbrev Pw2:=O->O->List S->(O->O->D->Prop)->(O->O->Str->Prop)->Prop
def two(o1 o2:O)(a1 a2:Addr):Addr->Prop:=fun b=>o1.adr a1 b\/o2.adr a2 b
structure After2 (K:Za) (B:Addr->Prop) (H:Hp) (a1 a2:Addr) (o1 o2 o1' o2':O) (H':Hp):Prop where
 same:Same (off (two o1 o2 a1 a2) H) H'
 old1:∀b,o1.adr a1 b->o1'.adr a1 b
 old2:∀b,o2.adr a2 b->o2'.adr a2 b
 new1:∀b,o1'.adr a1 b->o1.adr a1 b\/H b=none
 new2:∀b,o2'.adr a2 b->o2.adr a2 b\/H b=none
 apart:∀b,o1'.adr a1 b->¬o2'.adr a2 b
 at1:OR K (off (fun b=>B b\/two o1' o2' a1 a2 b) H') H' a1 o1'
 at2:OR K (off (fun b=>B b\/two o1' o2' a1 a2 b) H') H' a2 o2'
def spW2(mg:Str->Option Value)(c:Pw2)(K:Za):Sp:=fun vs H Q E=>∃(o1 o2:O) (a1 a2:Addr) (ss:List S) (us:List V) (B:Addr->Prop) (R:O->O->D->Prop) (X:O->O->Str->Prop),
 vs=.ref a1 :: .ref a2::us/\(∀b,B b->Mut (H b)/\¬two o1 o2 a1 a2 b)/\(∀b,o1.adr a1 b->¬o2.adr a2 b)/\OR K (off (fun b=>B b\/two o1 o2 a1 a2 b) H) H a1 o1/\OR K (off (fun b=>B b\/two o1 o2 a1 a2 b) H) H a2 o2/\
 TVs K (fun b=>B b\/two o1 o2 a1 a2 b) (off (two o1 o2 a1 a2) H) H H ss us/\(∀s∈ss,s.flat)/\c o1 o2 ss R X/\
 (∀o1' o2' d v H',R o1' o2' d->After2 K B H a1 a2 o1 o2 o1' o2' H'->Rp K (off (fun b=>B b\/two o1' o2' a1 a2 b) H') d v->Q v H')/\∀o1' o2' e H',X o1' o2' e->After2 K B H a1 a2 o1 o2 o1' o2' H'->E (.ref (ExcR.JU mg e)) none H'
def Kq(N:List Str)(o1 o2:O)(ss:List S):Γ:=some (.own o1)::some (.own o2)::(ss.map some++List.replicate (N.length-(ss.length+2)) none)
def O7{N:List Str}{o1 o2:O}{a1 a2:Addr}{ss:List S}{us:List V}(hB:∀b,B b->Mut (H b)/\¬two o1 o2 a1 a2 b)(ap:∀b,o1.adr a1 b->¬o2.adr a2 b)(ho1:OR K (off (fun b=>B b\/two o1 o2 a1 a2 b) H) H a1 o1)(ho2:OR K (off (fun b=>B b\/two o1 o2 a1 a2 b) H) H a2 o2)(r:TVs K (fun b=>B b\/two o1 o2 a1 a2 b) (off (two o1 o2 a1 a2) H) H H ss us)(hf:∀s∈ss,s.flat)(hn:ss.length+2<=N.length) :
  EnvR K (off (two o1 o2 a1 a2) H) B H (start N (.ref a1 :: .ref a2::us)) (Kq N o1 o2 ss):=by
 have hlen:=r.len
 have get:∀(i:Nat) (s:S),(Kq N o1 o2 ss)[i+2]?=some (some s)->ss[i]?=some s:=fun i s h=>by
  unfold Kq at h;rw[Ws,Ws]at h;by_cases hi:i<ss.length
  ·rw[YW (by rw[Yu];exact hi),Y6,Yt hi]at h;rw[Yt hi];exact Wj some (Y7 (Y7 h))
  ·rw[Wc (by rw[Yu];omega),WX]at h;split at h<;>cases h
 have noown:∀(i:Nat) (es:O),(Kq N o1 o2 ss)[i+2]?≠some (some (.own es)):=fun i es h=>hf _ (YM (get i _ h))
 have st0:(start N (V.ref a1::V.ref a2::us))[0]?=some (some (.ref a1)):=by
  unfold L2.start;rfl
 have st1:(start N (V.ref a1::V.ref a2::us))[1]?=some (some (.ref a2)):=by
  unfold L2.start;rfl
 have g0:∀s,(Kq N o1 o2 ss)[0]?=some (some s)->s=.own o1:=fun s h=>by
  have h:some (some (S.own o1))=some (some s):=h;cases h
  rfl
 have g1:∀s,(Kq N o1 o2 ss)[1]?=some (some s)->s=.own o2:=fun s h=>by
  have h:some (some (S.own o2))=some (some s):=h;cases h
  rfl
 have hz:∀b,zof B (Kq N o1 o2 ss) (start N (V.ref a1::V.ref a2::us)) b->B b\/two o1 o2 a1 a2 b:=fun b z=>by
  rcases z with z|⟨i,es,a',h1,h2,h3⟩
  ·exact .inl z
  ·match i,h1,h2 with
   | 0,h1,h2=>
    rw[st0]at h2;cases h2
    cases g0 _ h1
    exact .inr (.inl h3)
   | 1,h1,h2=>
    rw[st1]at h2;cases h2
    cases g1 _ h1
    exact .inr (.inr h3)
   |i+2,h1,_=>exact absurd h1 (noown i es)
 have toz:∀{o:O} {a:Addr},OR K (off (fun b=>B b\/two o1 o2 a1 a2 b) H) H a o->OR K (off (zof B (Kq N o1 o2 ss) (start N (V.ref a1::V.ref a2::us))) H) H a o:=fun h=>h.mono (Uo (Same.refl _) fun b _ _ z y=>z (hz b y)) fun _ _ _ q=>q;refine⟨off_sub,?_,fun b h=>(hB b h).1,fun i j x x' es es' b h1 h2 h3 h4 h5 h6=>?_,fun i s h=>?_⟩
 ·unfold L2.start Kq;simp[hlen]
 ·match i,j,h1,h2,h3,h4 with
  | 0,0,_,_,_,_=>rfl
  | 1,1,_,_,_,_=>rfl
  | 0,1,h1,h2,h3,h4=>
   cases g0 _ h1
   cases g1 _ h2
   rw[st0]at h3;cases h3
   rw[st1]at h4;cases h4
   exact absurd h6 (ap b h5)
  | 1,0,h1,h2,h3,h4=>
   cases g1 _ h1
   cases g0 _ h2
   rw[st1]at h3;cases h3
   rw[st0]at h4;cases h4
   exact absurd h5 (ap b h6)
  |i+2,_,h1,_,_,_=>exact absurd h1 (noown i es)
  | 0,j+2,_,h2,_,_=>exact absurd h2 (noown j es')
  | 1,j+2,_,h2,_,_=>exact absurd h2 (noown j es')
 ·match i,h with
  | 0,h=>
   cases g0 _ h
   refine⟨_,st0,a1,rfl,fun b hb=>?_,toz ho1⟩;unfold off;rw[Yz (.inl hb)]
  | 1,h=>
   cases g1 _ h
   refine⟨_,st1,a2,rfl,fun b hb=>?_,toz ho2⟩;unfold off;rw[Yz (.inr hb)]
  |i+2,h=>
   have hs:=get i s h;obtain⟨v,hv,tv⟩:=r.get hs;refine⟨v,?_,?_⟩
   ·unfold L2.start;rw[YW (by rw[Yu,YF,YF];have:=(YQ.mp hv).1;omega),Y6,Ws,Ws,hv];rfl
   ·have:=hf s (YM hs)
    cases s with
    |bor d=>exact tv
    |sh d=>exact Rp.mono (Uo (Same.refl _) fun b _ _ z y=>z (hz b y)) tv
    |own _=>exact this.elim
    |view _=>exact this.elim
    |tmp _=>exact this.elim
def D5(o1 o2:O)(R:O->O->D->Prop)(γ:Γ)(d:D):Prop:=∃o1' o2',γ[0]?=some (some (.own o1'))/\γ[1]?=some (some (.own o2'))/\o1.from o1'/\o2.from o2'/\R o1' o2' d
def Zbn(o1 o2:O)(X:O->O->Str->Prop)(γ:Γ)(e:Str):Prop:=∃o1' o2',γ[0]?=some (some (.own o1'))/\γ[1]?=some (some (.own o2'))/\o1.from o1'/\o2.from o2'/\X o1' o2' e
def IF(o1 o2:O)(R:O->O->D->Prop)(X:O->O->Str->Prop):PEnds:={nx:=fun γ=>D5 o1 o2 R γ .non,rt:=fun _=>False,ex:=Zbn o1 o2 X,rv:=D5 o1 o2 R}
def F1{a1 a2:Addr}{o1 o2 o1' o2':O}{σ':L2.St}{γ':Γ}(ho1:OR K (off (fun b=>B b\/two o1 o2 a1 a2 b) H) H a1 o1)(ho2:OR K (off (fun b=>B b\/two o1 o2 a1 a2 b) H) H a2 o2)(e:EnvR K (off (two o1 o2 a1 a2) H) B H' σ' γ')(h1:γ'[0]?=some (some (.own o1')))(h2:γ'[1]?=some (some (.own o2')))(k1:o1.from o1')(k2:o2.from o2') :
  After2 K B H a1 a2 o1 o2 o1' o2' H'/\∀b,B b\/two o1' o2' a1 a2 b->zof B γ' σ' b:=by
 obtain⟨v1,s1,x1,rfl,p1,q1⟩:=e.slot 0 _ h1;obtain rfl:=O.from_at k1 ho1 q1;obtain⟨v2,s2,x2,rfl,p2,q2⟩:=e.slot 1 _ h2;obtain rfl:=O.from_at k2 ho2 q2
 have hz:∀b,B b\/two o1' o2' x1 x2 b->zof B γ' σ' b:=fun b z=>by
  rcases z with z|z|z
  ·exact .inl z
  ·exact .inr ⟨0,o1',x1,h1,s1,z⟩
  ·exact .inr ⟨1,o2',x2,h2,s2,z⟩
 have ap:∀b,o1'.adr x1 b->¬o2'.adr x2 b:=fun b z y=>absurd (e.own 0 1 x1 x2 o1' o2' b h1 h2 s1 s2 z y) (by decide);have fromZ:∀{o:O} {a:Addr},OR K (off (zof B γ' σ') H') H' a o->OR K (off (fun b=>B b\/two o1' o2' x1 x2 b) H') H' a o:=fun h=>h.mono (Uo (Same.refl _) fun b _ _ z y=>z (hz b y)) fun _ _ _ q=>q
 have free:∀b,off (two o1 o2 x1 x2) H b=none->two o1 o2 x1 x2 b\/H b=none:=fun b w=>by
  unfold off at w;by_cases q:two o1 o2 x1 x2 b
  ·exact .inl q
  ·rw[Yx q]at w;exact .inr w
 refine⟨⟨e.same,O.from_adr k1,O.from_adr k2,fun b hb=>?_,fun b hb=>?_,ap,fromZ q1,fromZ q2⟩,hz⟩
 ·rcases free b (p1 b hb)with(w|w)|w
  ·exact .inl w
  ·exact absurd (O.from_adr k2 b w) (ap b hb)
  ·exact .inr w
 ·rcases free b (p2 b hb)with(w|w)|w
  ·exact absurd hb (ap b (O.from_adr k1 b w))
  ·exact .inl w
  ·exact .inr w
def Za5{c:Pw2}{N:List Str}{t:TS}{p:PTS}{vs:List V}{Q:VK}{Ec:XK}{n:Nat}(h:spW2 mg c K vs H Q Ec)(snd:SndS K mg (fun _=>Ec) t p)(hn:n+2<=N.length)(hp:∀o1 o2 ss R X,c o1 o2 ss R X->ss.length=n/\p (IF o1 o2 R X) (Kq N o1 o2 ss)):t {nx:=fun _ H'=>Q .non H',rt:=Q} (start N vs) H:=by
 obtain⟨o1,o2,a1,a2,ss,us,B,R,X,rfl,hB,ap,ho1,ho2,r,hf,hc,hQ,hX⟩:=h;obtain⟨e,hp⟩:=hp o1 o2 ss R X hc;have env:=O7 (N:=N) hB ap ho1 ho2 r hf (by rw[e];exact hn);refine snd _ B H _ _ _ _ (fun b z=>?_) env hp ⟨fun σ' γ' H' h1 e1 f1=>?_,fun _ _ _ z=>z.elim,fun σ' γ' c H' h1 e1 f1=>?_,fun _ _ _ z=>z.elim,fun _ _ _ z=>z.elim,fun σ' γ' d v H' h1 e1 f1 rd=>?_⟩
 ·obtain⟨q1,q2⟩:=hB b z;obtain⟨x,hx⟩:=KF q1;exact⟨x,UQ hx q2⟩
 ·obtain⟨o1',o2',q1,q2,q3,q4,q5⟩:=h1;exact hQ o1' o2' .non .non H' q5 (F1 ho1 ho2 e1 q1 q2 q3 q4).1 .non
 ·obtain⟨o1',o2',q1,q2,q3,q4,q5⟩:=h1;exact hX o1' o2' c H' q5 (F1 ho1 ho2 e1 q1 q2 q3 q4).1
 ·obtain⟨o1',o2',q1,q2,q3,q4,q5⟩:=h1;obtain⟨k1,k2⟩:=F1 ho1 ho2 e1 q1 q2 q3 q4;exact hQ o1' o2' d v H' q5 k1 (Rp.mono (Uo (Same.refl _) fun b _ _ z y=>z (k2 b y)) rd)
def Zgh{c:Pw2}{vs:List V}{Q:VK}{Ec:XK}{n:Nat}(h:spW2 mg c K vs H Q Ec)(hn:∀o1 o2 ss R X,c o1 o2 ss R X->ss.length=n):vs.length=n+2:=by
 obtain⟨o1,o2,a1,a2,ss,us,B,R,X,rfl,_,_,_,_,r,_,hc,_⟩:=h;rw[YF,YF,r.len,hn o1 o2 ss R X hc]
def IK{c:Pw2}{i j:Nat}{o1 o2:O}{a1 a2:Addr}{ss ss':List S}{us:List V}{R:Γ->D->Prop}{X:Γ->Str->Prop}{Q:VK}{Ec:XK}(env:EnvR K H0 B H σ γ)(hB:∀b,B b->∃o,H0 b=some o)(S1:Same H H1)(hij:i≠j)(hi:γ[i]?=some (some (.own o1)))(hj:γ[j]?=some (some (.own o2)))(ha1:σ[i]?=some (some (.ref a1)))(ha2:σ[j]?=some (some (.ref a2)))(t1:TVs K (zof B γ σ) H0 H H1 ss us)(hp:passes ss=some ss')(hc:c o1 o2 ss' (fun o1' o2' d=>R ((γ.set i (some (.own o1'))).set j (some (.own o2'))) d) (fun o1' o2' e=>X ((γ.set i (some (.own o1'))).set j (some (.own o2'))) e))(q:∀γ' d v H',R γ' d->EnvR K H0 B H' σ γ'->Fr B H σ γ H' σ γ'->Rp K (off (zof B γ' σ) H') d v->Q v H')(qx:∀γ' c H',X γ' c->EnvR K H0 B H' σ γ'->Fr B H σ γ H' σ γ'->Ec (.ref (ExcR.JU mg c)) none H'):spW2 mg c K (.ref a1 :: .ref a2::us) H1 Q Ec:=by
 have env1:=env.grow S1;obtain⟨v1,h1,x1,e1,h3,h4⟩:=env1.slot i _ hi;rw[ha1]at h1;cases h1
 cases e1
 obtain⟨v2,h2,x2,e2,h5,h6⟩:=env1.slot j _ hj;rw[ha2]at h2;cases h2
 cases e2
 have ap:∀b,o1.adr a1 b->¬o2.adr a2 b:=fun b z y=>hij (env.own i j a1 a2 o1 o2 b hi hj ha1 ha2 z y);have za:∀b,two o1 o2 a1 a2 b->zof B γ σ b:=fun b hb=>hb.elim (fun hb=>.inr ⟨i,o1,a1,hi,ha1,hb⟩) fun hb=>.inr ⟨j,o2,a2,hj,ha2,hb⟩;have h0:∀b,two o1 o2 a1 a2 b->H0 b=none:=fun b hb=>hb.elim (h3 b) (h5 b);have down:∀{o:O} {a:Addr},OR K (off (zof B γ σ) H1) H1 a o->OR K (off (fun b=>(zof B γ σ b/\¬two o1 o2 a1 a2 b)\/two o1 o2 a1 a2 b) H1) H1 a o:=fun h=>h.mono (Uo (Same.refl _) fun b _ _ z y=>z (y.elim (fun y=>y.1) (za b))) fun _ _ _ q=>q
 have aft:∀o1' o2' H',After2 K (fun b=>zof B γ σ b/\¬two o1 o2 a1 a2 b) H1 a1 a2 o1 o2 o1' o2' H'->EnvR K H0 B H' σ ((γ.set i (some (.own o1'))).set j (some (.own o2')))/\Fr B H σ γ H' σ ((γ.set i (some (.own o1'))).set j (some (.own o2')))/\∀b x,H' b=some x->¬((zof B γ σ b/\¬two o1 o2 a1 a2 b)\/two o1' o2' a1 a2 b)->¬zof B ((γ.set i (some (.own o1'))).set j (some (.own o2'))) σ b:=fun o1' o2' H' A=>by
  have hzz:∀b x,H' b=some x->¬((zof B γ σ b/\¬two o1 o2 a1 a2 b)\/two o1' o2' a1 a2 b)->¬zof B ((γ.set i (some (.own o1'))).set j (some (.own o2'))) σ b:=fun b x _ n z=>by
   rcases z with z|⟨k,fs,a',e1,e2,e3⟩
   ·refine n (.inl ⟨.inl z,fun w=>?_⟩);obtain⟨u,hu⟩:=hB b z;rw[h0 b w]at hu;cases hu
   ·rcases UE e1 with⟨ek,q,_⟩|⟨nk,q⟩
    ·subst ek;cases q
     rw[ha2]at e2;cases e2
     exact n (.inr (.inr e3))
    ·rcases UE q with⟨ek,q',_⟩|⟨nk',q'⟩
     ·subst ek;cases q'
      rw[ha1]at e2;cases e2
      exact n (.inr (.inl e3))
     ·refine n (.inl ⟨.inr ⟨k,fs,a',q',e2,e3⟩,fun w=>?_⟩);rcases w with w|w
      ·exact nk' (env.own k i a' a1 fs o1 b q' hi e2 ha1 e3 w)
      ·exact nk (env.own k j a' a2 fs o2 b q' hj e2 ha2 e3 w)
  have up:∀{o:O} {a:Addr},OR K (off (fun b=>(zof B γ σ b/\¬two o1 o2 a1 a2 b)\/two o1' o2' a1 a2 b) H') H' a o->OR K (off (zof B ((γ.set i (some (.own o1'))).set j (some (.own o2'))) σ) H') H' a o:=fun h=>h.mono (Uo (Same.refl _) fun b x hx z=>hzz b x hx z) fun _ _ _ q=>q;obtain⟨k1,k2⟩:=env1.change2 (o1':=o1') (o2':=o2') (H':=H') hij hi hj ha1 ha2 (fun b x hx n1 n2=>A.same b x (UQ hx fun w=>w.elim n1 n2)) (fun b hb=>hb.elim (fun hb=>A.at1.mut b (A.old1 b hb)) fun hb=>A.at2.mut b (A.old2 b hb)) A.new1 A.new2 A.apart (up A.at1) (up A.at2);exact⟨k1,(Fr.grow S1).trans k2,hzz⟩
 refine⟨o1,o2,a1,a2,ss',us,fun b=>zof B γ σ b/\¬two o1 o2 a1 a2 b,_,_,rfl,fun b hb=>⟨env1.zm b hb.1,hb.2⟩,ap,down h4,down h6,?_,Ng hp,hc,fun o1' o2' d v H' hR A rd=>?_,fun o1' o2' e H' hX A=>?_⟩
 ·refine t1.pass env1.same env.zm S1 (fun b x hx=>UQ (env1.same b x hx) fun w=>?_) (Uo (Same.refl _) fun b _ _ z y=>z (y.elim (fun y=>y.1) (za b))) hp;rw[h0 b w]at hx;cases hx
 ·obtain⟨k1,k2,k3⟩:=aft o1' o2' H' A;exact q _ d v H' hR k1 k2 (Rp.mono (fun b x h=>let ⟨p1,p2⟩:=Ki h;UQ p1 (k3 b x p1 p2)) rd)
 ·obtain⟨k1,k2,_⟩:=aft o1' o2' H' A;exact qx _ e H' hX k1 k2
def Zhv(i j:Nat)(c:Pw2)(r:PTA):PTW:=fun γ R X=>match γ[i]?,γ[j]? with
 |some (some (.own o1)),some (some (.own o2))=>r γ (fun ss=>match passes ss with|some ss'=>c o1 o2 ss' (fun o1' o2' d=>R ((γ.set i (some (.own o1'))).set j (some (.own o2'))) d) (fun o1' o2' e=>X ((γ.set i (some (.own o1'))).set j (some (.own o2'))) e)|none=>False) (X γ)
 |_,_=>False
def GY(i j:Nat)(c:Pw2)(r:PTA):PTW:=fun γ R X=>match γ[i]?,γ[j]? with
 |some (some (.own o1)),some (some (.own o2))=>r γ (fun ss=>match passes ss with|some ss'=>c o1 o2 ss' (fun o1' o2' d=>R ((γ.set i (some (.own o1'))).set j (some (.own o2'))) d) (fun _ _ _=>False)|none=>False) (X γ)
 |_,_=>False
def S4(i j:Nat)(hij:i≠j){c:Pw2}{ta:TA}{r:PTA}(hr:SndA K mg E ta r):SndW K mg E (Ph (spW2 mg c K) [] E0 (Xc (tVar i) (Xc (tVar j) ta))) (GY i j c r):=by
 intro H0 B H σ γ R X Q hB env h q qx;unfold GY at h;split at h
 ·rename_i o1 o2 hi hj;obtain⟨v1,hv1,a1,rfl,_,_⟩:=env.slot i _ hi;obtain⟨v2,hv2,a2,rfl,_,_⟩:=env.slot j _ hj;refine⟨_,hv1,_,hv2,hr H0 B H σ γ _ _ _ env h (fun ss us H1 h1 S1 t1=>?_) fun c H' hc S'=>qx γ c H' hc (env.grow S') (Fr.grow S')⟩;show spW2 mg c K ((V.ref a1::V.ref a2::us)++[]) H1 Q E0;rw[Wl];split at h1
  ·rename_i ss' ep;exact IK (X:=fun _ _=>False) env hB S1 hij hi hj hv1 hv2 t1 ep h1 q fun _ _ _ z=>z.elim
  ·exact h1.elim
 ·exact h.elim
abbrev PTV:=Γ->(Γ->Bool->Prop)->(Γ->Str->Prop)->Prop
def SndV(K:Za)(mg:Str->Option Value)(E:L2.St->XK)(t:TT)(p:PTV):Prop:=∀(H0:Hp) (B:Addr->Prop) (H:Hp) (σ:L2.St) (γ:Γ) (R:Γ->Bool->Prop) (X:Γ->Str->Prop) (Q:Bool->Hp->Prop),(∀b,B b->∃o,H0 b=some o)->EnvR K H0 B H σ γ->p γ R X->
 (∀γ' b H',R γ' b->EnvR K H0 B H' σ γ'->Fr B H σ γ H' σ γ'->Q b H')->(∀γ' c H',X γ' c->EnvR K H0 B H' σ γ'->Fr B H σ γ H' σ γ'->E σ (.ref (ExcR.JU mg c)) none H')->t σ H Q
def pVW(w:PTW):PTV:=fun γ R X=>w γ (fun γ' d=>match d with | .bl c=>R γ' c|_=>False) X
def sv_w{te:TE}{w:PTW}(hw:SndW K mg E te w):SndV K mg E (tTru K te) (pVW w):=by
 intro H0 B H σ γ R X Q hB env h q qx;refine hw H0 B H σ γ _ _ _ hB env h (fun γ' d v H' h1 e1 f1 rd=>?_) qx;split at h1
 ·rw[rd.bl_inv];exact⟨_,rfl,q _ _ _ h1 e1 f1⟩
 ·exact h1.elim
def Zbh(p:PTV):PTV:=fun γ R X=>p γ (fun γ' b=>R γ' (!b)) X
def SH{t:TT}{p:PTV}(hp:SndV K mg E t p):SndV K mg E (tNot t) (Zbh p):=by
 intro H0 B H σ γ R X Q hB env h q qx;exact hp H0 B H σ γ _ _ _ hB env h (fun γ' b H' h1 e1 f1=>q γ' (!b) H' h1 e1 f1) qx
def pIfV(c:PTV)(p q:PTS):PTS:=fun R γ=>c γ (fun γ' b=>if b=true then p R γ' else q R γ') R.ex
def Ss{tt:TT}{c:PTV}{t u:TS}{p q:PTS}(hc:SndV K mg E tt c)(hp:SndS K mg E t p)(hq:SndS K mg E u q):SndS K mg E (tIfS tt t u) (pIfV c p q):=by
 intro H0 B H σ γ R D hB env h e;refine hc H0 B H σ γ _ _ _ hB env h (fun γ' b H' h1 e1 f1=>?_) fun γ' c H' h1 e1 f1=>e.ex _ _ _ _ h1 e1 f1;cases b with
 |true=>
  rw[Yz rfl];exact hp H0 B H' σ γ' R D hB e1 (by simpa using h1) (e.from f1)
 |false=>
  rw[Yx (by decide)];exact hq H0 B H' σ γ' R D hB e1 (by simpa using h1) (e.from f1)
def GI(i:Nat):PTW:=fun γ R _=>match γ[i]? with
 |some (some (.own (.lsA x ds)))=>∃d,ds[ds.length-1]?=some d/\R (γ.set i (some (.own (.lsA x ds.dropLast)))) d
 |some (some (.own (.lst ds)))=>∃d,ds[ds.length-1]?=some d/\R (γ.set i (some (.own (.lst ds.dropLast)))) d
 |_=>False
def Zep(i:Nat):SndW K mg E (tBM0 K "list" rPop (tVar i)) (GI i):=by
 intro H0 B H σ γ R X Q hB env h q qx;unfold GI at h;split at h
 ·rename_i x ds hi;obtain⟨d,ed,h⟩:=h;obtain⟨v,hv,b,rfl,hb0,rfl,us,hb,rb⟩:=env.slot i _ hi;obtain⟨u,hu,ru⟩:=rb.get ed;refine⟨_,hv,.inl ⟨rfl,us,SqL.of hb⟩,b,us,u,rfl,rfl,hb,by rw[rb.len];exact hu,?_⟩;obtain⟨e2,f2⟩:=env.mutate (es:=.lsA b ds.dropLast) (us:=.lst us.dropLast) hi hv trivial fun F H' SF hF=>⟨rfl,_,hF,Rps.mono SF (Rps.dropLast rb)⟩;exact q _ _ _ _ h e2 f2 (Rp.mono f2.off ru)
 ·rename_i ds hi;obtain⟨d,ed,h⟩:=h;obtain⟨v,hv,b,rfl,hb0,us,hb,rb⟩:=env.slot i _ hi;obtain⟨u,hu,ru⟩:=rb.get ed;refine⟨_,hv,.inl ⟨rfl,us,SqL.of hb⟩,b,us,u,rfl,rfl,hb,by rw[rb.len];exact hu,?_⟩;obtain⟨e2,f2⟩:=env.mutate (es:=.lst ds.dropLast) (us:=.lst us.dropLast) hi hv trivial fun F H' SF hF=>⟨_,hF,Rps.mono SF (Rps.dropLast rb)⟩;exact q _ _ _ _ h e2 f2 (Rp.mono f2.off ru)
 ·exact h.elim
abbrev Pq:=List S->(S->Prop)->(Str->Prop)->Prop
def spS(mg:Str->Option Value)(c:Pq)(K:Za):Sp:=fun vs H Q E=>∃(ss:List S) (B:Addr->Prop) (R:S->Prop) (X:Str->Prop),(∀b,B b->Mut (H b))/\TVs K B H H H ss vs/\(∀s∈ss,s.flat)/\c ss R X/\
 (∀s v H',R s->Same H H'->TV K B H H H' s v->Q v H')/\∀e H',X e->Same H H'->E (.ref (ExcR.JU mg e)) none H'
def Pd(N:List Str)(ss:List S):Γ:=ss.map some++List.replicate (N.length-ss.length) none
def Md{N:List Str}{ss:List S}{us:List V}(hB:∀b,B b->Mut (H b))(r:TVs K B H H H ss us)(hf:∀s∈ss,s.flat)(hn:ss.length<=N.length):EnvR K H B H (start N us) (Pd N ss):=by
 have hlen:=r.len
 have get:∀(i:Nat) (s:S),(Pd N ss)[i]?=some (some s)->ss[i]?=some s:=fun i s h=>by
  unfold Pd at h;by_cases hi:i<ss.length
  ·rw[YW (by rw[Yu];exact hi),Y6,Yt hi]at h;rw[Yt hi];exact Wj some (Y7 (Y7 h))
  ·rw[Wc (by rw[Yu];omega),WX]at h;split at h<;>cases h
 have noown:∀(i:Nat) (es:O),(Pd N ss)[i]?≠some (some (.own es)):=fun i es h=>hf _ (YM (get i _ h))
 have hz:∀b,zof B (Pd N ss) (start N us) b->B b:=fun b z=>by
  rcases z with z|⟨i,es,a',h1,h2,h3⟩
  ·exact z
  ·exact absurd h1 (noown i es)
 refine⟨Same.refl _,?_,hB,fun i j x x' es es' b h1 _ _ _ _ _=>absurd h1 (noown i es),fun i s h=>?_⟩
 ·unfold L2.start Pd;simp[hlen]
 ·have hs:=get i s h;obtain⟨v,hv,tv⟩:=r.get hs;refine⟨v,?_,?_⟩
  ·unfold L2.start;rw[YW (by rw[Yu];exact(YQ.mp hv).1),Y6,hv];rfl
  ·have:=hf s (YM hs)
   cases s with
   |bor d=>exact tv
   |sh d=>exact Rp.mono (Uo (Same.refl _) fun b _ _ z y=>z (hz b y)) tv
   |own _=>exact this.elim
   |view _=>exact this.elim
   |tmp _=>exact this.elim
def Zeu{c:Pq}{N:List Str}{t:TS}{p:PTS}{vs:List V}{Q:VK}{Ec:XK}{n:Nat}(h:spS mg c K vs H Q Ec)(snd:SndS K mg (fun _=>Ec) t p)(hn:n<=N.length)(hp:∀ss R X,c ss R X->ss.length=n/\p {nx:=fun _=>R (.sh .non),rt:=R,ex:=fun _ e=>X e} (Pd N ss)):t {nx:=fun _ H'=>Q .non H',rt:=Q} (start N vs) H:=by
 obtain⟨ss,B,R,X,hB,r,hf,hc,hQ,hX⟩:=h;obtain⟨e,hp⟩:=hp ss R X hc;exact snd H B H _ _ _ _ (fun b z=>KF (hB b z)) (Md hB r hf (by rw[e];exact hn)) hp ⟨fun σ' γ' H' h1 e1 f1=>hQ _ _ H' h1 e1.same .non,fun s v H' h1 S1 tv=>hQ s v H' h1 S1 tv,fun σ' γ' c H' h1 e1 f1=>hX c H' h1 e1.same,fun _ _ _ z=>z.elim,fun _ _ _ z=>z.elim,fun _ _ _ _ _ z=>z.elim⟩
def Zd5{c:Pq}{vs:List V}{Q:VK}{Ec:XK}{n:Nat}(h:spS mg c K vs H Q Ec)(hn:∀ss R X,c ss R X->ss.length=n):vs.length=n:=by
 obtain⟨ss,B,R,X,_,r,_,hc,_⟩:=h;rw[r.len];exact hn ss R X hc
def TV.backS {s:S}{v:V} (env:EnvR K H0 B H1 σ γ) (S1:Same H H1) (S2:Same H1 H') (h:TV K (zof B γ σ) H1 H1 H' s v):TV K (zof B γ σ) H0 H H' s.back v:=by
 cases s with
 |bor d=>exact Pm (fun b z=>Ko S2 (env.zm b z)) (Rp.mono S2 h)
 |sh d=>exact h
 |own ds=>
  obtain⟨a,rfl,e0,r⟩:=h;exact⟨a,rfl,(fun b hb=>S1.free (e0 b hb)),r⟩
 |view ds=>
  obtain⟨a,rfl,r⟩:=h;exact r.rp off_sub
 |tmp d=>exact h
def TV.passS {s s':S}{v:V} (env:EnvR K H0 B H1 σ γ) (hm:∀b,zof B γ σ b->Mut (H b)) (S1:Same H H1) (h:TV K (zof B γ σ) H0 H H1 s v) (e:s.pass=some s'):TV K (zof B γ σ) H1 H1 H1 s' v:=by
 have shd:∀d,s.shd=some d->Rp K (off (zof B γ σ) H1) d v:=fun d ed=>h.shd env.same hm S1 ed;cases s with
 |sh d=>cases e;exact shd _ rfl
 |own o=>cases e;exact shd _ rfl
 |view o=>cases e
 |tmp d=>
  unfold S.pass at e;cases q:imm d with
  |false=>simp[q]at e
  |true=>simp[q]at e;subst e;exact shd d (by unfold S.shd;simp[q])
 |bor d=>
  unfold S.pass at e;cases q:imm d with
  |false=>simp[q]at e;subst e;exact Rp.mono env.same h
  |true=>simp[q]at e;subst e;exact shd d (by unfold S.shd;simp[q])
def TVs.passS (env:EnvR K H0 B H1 σ γ) (hm:∀b,zof B γ σ b->Mut (H b)) (S1:Same H H1):∀{ss ss':List S}{vs:List V},TVs K (zof B γ σ) H0 H H1 ss vs->passes ss=some ss'->TVs K (zof B γ σ) H1 H1 H1 ss' vs
 |_,_,_,.nil,e=>by cases e;exact .nil
 |_,_,_,.cons h r,e=>by
  unfold passes at e;split at e
  ·rename_i s1 r1 e1 e2;cases e
   exact .cons (h.passS env hm S1 e1) (TVs.passS env hm S1 r e2)
  ·cases e
def MZ(c:Pq)(r:PTA):PTE:=fun γ R X=>r γ (fun ss=>match passes ss with|some ss'=>c ss' (fun s=>R s.back) (fun _=>False)|none=>False) X
def Ar{c:Pq}{ta:TA}{r:PTA}(hr:SndA K mg E ta r):SndE K mg E (Ph (spS mg c K) [] E0 ta) (MZ c r):=by
 intro H0 B H σ γ R X Q env p q qx;refine hr H0 B H σ γ _ X _ env p (fun ss vs H1 h1 S1 t1=>?_) qx;rw[Wl];have env1:=env.grow S1;split at h1
 ·rename_i ss' ep;exact⟨ss',zof B γ σ,_,_,env1.zm,t1.passS env1 env.zm S1 ep,Ng ep,h1,fun s v H' hs S2 tv=>q _ _ H' hs (S1.trans S2) (tv.backS env1 S1 S2),fun _ _ z=>z.elim⟩
 ·exact h1.elim
def pSlN(a:PTE)(l u:PTO):PTE:=fun γ R X=>a γ (fun s=>l γ (fun lo=>u γ (fun hi=>match s.d with | .scr ns=>R (.own ((cutD ns lo hi).map D.int))|_=>False) X) X) X
def RO(ns:List Int)(lo hi:Option Int):cutV (ns.map V.int) lo hi=(cutD ns lo hi).map V.int:=by
 unfold cutV cutD;rw[Yu,List.map_take,List.map_drop]
def Zeh{te:TE}{tl th:TO}{a:PTE}{l u:PTO}(ha:SndE K mg E te a)(hl:SndO K mg E tl l)(hu:SndO K mg E th u):SndE K mg E (tSl (rSlL K) te tl th) (pSlN a l u):=by
 intro H0 B H σ γ R X Q env p q qx;refine ha H0 B H σ γ _ X _ env p (fun x v H1 h1 S1 t1=>?_) qx;refine hl H0 B H1 σ γ _ X _ (env.grow S1) h1 (fun lo H2 h2 S2=>?_) fun c H' hc S'=>qx c H' hc (S1.trans S');refine hu H0 B H2 σ γ _ X _ ((env.grow S1).grow S2) h2 (fun hi H3 h3 S3=>?_) fun c H' hc S'=>qx c H' hc ((S1.trans S2).trans S');have S13:=(S1.trans S2).trans S3;split at h3
 ·rename_i ns e;have rx:=(t1.grow (S2.trans S3)).rp (env.grow S13).same;rw[e]at rx;obtain⟨b,rfl,hb⟩:=rx.scr_inv;refine⟨b,_,rfl,hb,fun m nm=>?_⟩;rw[RO];exact q _ _ _ h3 (S13.trans (Xe nm)) (KR S13 nm (Rps.of_ints _))
 ·exact h3.elim
end
section
variable {K:Za}{mg:Str->Option Value}{E:L2.St->XK}{H:Hp}
def isN:D->Bool
 | .non=>true
 |_=>false
def Rp.isN {d:D}{v:V} (h:Rp K H d v):decide (v=V.non)=isN d:=by
 cases h<;>first|rfl|exact YH (fun z=>by cases z)
def pIsN(a:PTE):PTE:=fun γ R X=>a γ (fun x=>R (.sh (.bl (isN x.d)))) X
def LO{te:TE}{a:PTE}(ha:SndE K mg E te a):SndE K mg E (tIsN te) (pIsN a):=by
 intro H0 B H σ γ R X Q env p q qx;refine ha H0 B H σ γ _ X _ env p (fun x v H1 h1 S1 t1=>?_) qx;have rx:=t1.rp (env.grow S1).same;show Q (.bl (decide (v=V.non))) H1;rw[rx.isN];exact q _ _ H1 h1 S1 (.bl _)
end
open M
inductive Dd where
 |sell (p h:Int)|part (p w:Int)|unite (p:Int)|wish (a b:Int)|drop (a b:Int)
def Dd.q:Dd->Str×List Int
 | .sell p h=>("sell",[p,h]) | .part p w=>("part",[p,w]) | .unite p=>("unite",[p]) | .wish a b=>("wish",[a,b]) | .drop a b=>("drop",[a,b])
def Dd.land:Dd->Bool
 | .sell _ _=>true | .part _ _=>true | .unite _=>true|_=>false
def Dd.err (f w:List (Int×Int)):Dd->Option Str
 | .sell p h=>Xj f p h | .part p v=>Xf f p v | .unite p=>uniE f p | .wish a b=>UX w a b | .drop a b=>Xa w a b
def Dd.fld (f:List (Int×Int)):Dd->List (Int×Int)
 | .sell p h=>K8 f p h | .part p v=>Ka f p v | .unite p=>uniL f p|_=>f
def Dd.wsh (w:List (Int×Int)):Dd->List (Int×Int)
 | .wish a b=>w++[(a,b)] | .drop a b=>K9 w a b|_=>w
def codeN:Option Str->Int
 |none=>0
 |some c=>if c=("NoStrip" : Str)then 1 else if c=("BadHolder" : Str)then 2 else if c=("OwnStrip" : Str)then 3 else if c=("BadPart" : Str)then 4 else if c=("TooManyStrips" : Str)then 5 else if c=("UnlikeHolders" : Str)then 6 else if c=("TooWide" : Str)then 7 else if c=("LikeHolders" : Str)then 8 else if c=("WishStands" : Str)then 9 else if c=("TooManyWishes" : Str)then 10 else 11
def NR:codeN (some "NoStrip")=1:=by decide +kernel
def SB:codeN (some "BadHolder")=2:=by decide +kernel
def Du:codeN (some "OwnStrip")=3:=by decide +kernel
def FB:codeN (some "BadPart")=4:=by decide +kernel
def CL:codeN (some "TooManyStrips")=5:=by decide +kernel
def Dj:codeN (some "UnlikeHolders")=6:=by decide +kernel
def DA:codeN (some "TooWide")=7:=by decide +kernel
def GM:codeN (some "LikeHolders")=8:=by decide +kernel
def Cy:codeN (some "WishStands")=9:=by decide +kernel
def Iy:codeN (some "TooManyWishes")=10:=by decide +kernel
def Dq:codeN (some "NoWish")=11:=by decide +kernel
def Dd.fld' (f:List (Int×Int)) (x:Dd):List (Int×Int):=if x.err f []=none then x.fld f else f
def Dd.wsh' (w:List (Int×Int)) (x:Dd):List (Int×Int):=if x.err [] w=none then x.wsh w else w
def Dd.nf (f w:List (Int×Int)) (x:Dd):List (Int×Int):=if x.err f w=none then x.fld f else f
def Dd.nw (f w:List (Int×Int)) (x:Dd):List (Int×Int):=if x.err f w=none then x.wsh w else w
def Dd.err_land {x:Dd} (h:x.land=true) (f w u:List (Int×Int)):x.err f w=x.err f u:=by
 cases x<;>first|rfl|cases h
def Dd.err_wish {x:Dd} (h:x.land=false) (f g w:List (Int×Int)):x.err f w=x.err g w:=by
 cases x<;>first|rfl|cases h
def Dd.err_cases (f w : List (Int × Int)) (x : Dd) : x.err f w = none ∨ x.err f w = some ("NoStrip" : Str) ∨ x.err f w = some ("BadHolder" : Str) ∨ x.err f w = some ("OwnStrip" : Str) ∨ x.err f w = some ("BadPart" : Str) ∨ x.err f w = some ("TooManyStrips" : Str) ∨ x.err f w = some ("UnlikeHolders" : Str) ∨ x.err f w = some ("TooWide" : Str) ∨ x.err f w = some ("LikeHolders" : Str) ∨ x.err f w = some ("WishStands" : Str) ∨ x.err f w = some ("TooManyWishes" : Str) ∨ x.err f w = some ("NoWish" : Str) := by
  cases x with
  | sell p h => show Xj f p h = _ ∨ Xj f p h = _ ∨ Xj f p h = _ ∨ Xj f p h = _ ∨ _; unfold Xj; repeat' split
                all_goals simp
  | part p h => show Xf f p h = _ ∨ Xf f p h = _ ∨ Xf f p h = _ ∨ Xf f p h = _ ∨ Xf f p h = _ ∨ Xf f p h = _ ∨ _; unfold Xf; repeat' split
                all_goals simp
  | unite p => show uniE f p = _ ∨ uniE f p = _ ∨ uniE f p = _ ∨ uniE f p = _ ∨ uniE f p = _ ∨ uniE f p = _ ∨ uniE f p = _ ∨ uniE f p = _ ∨ _; unfold uniE; repeat' split
               all_goals simp
  | wish a b => show UX w a b = _ ∨ UX w a b = _ ∨ UX w a b = _ ∨ UX w a b = _ ∨ UX w a b = _ ∨ UX w a b = _ ∨ UX w a b = _ ∨ UX w a b = _ ∨ UX w a b = _ ∨ UX w a b = _ ∨ UX w a b = _ ∨ _; unfold UX; repeat' split
                all_goals simp
  | drop a b => show Xa w a b = _ ∨ Xa w a b = _ ∨ Xa w a b = _ ∨ Xa w a b = _ ∨ Xa w a b = _ ∨ Xa w a b = _ ∨ Xa w a b = _ ∨ Xa w a b = _ ∨ Xa w a b = _ ∨ Xa w a b = _ ∨ Xa w a b = _ ∨ Xa w a b = _; unfold Xa; repeat' split
                all_goals simp
abbrev Hist:=List (Dd×List (Int×Int)×List (Int×Int))
def bkH(hs:Hist):List (Str×List Int):=hs.map fun h=>h.1.q
def fsH(f0:List (Int×Int))(hs:Hist):List (List (Int×Int)):=f0::hs.map fun h=>h.2.1
def wsH(hs:Hist):List (List (Int×Int)):=[]::hs.map fun h=>h.2.2
def pstD(h:Dd×List (Int×Int)×List (Int×Int)):D:=.tup [plD h.2.1,plD h.2.2,dD h.1.q]
def pst0(f0:List (Int×Int)):D:=.tup [plD f0,.lst [],.tup []]
def UK(f0:List (Int×Int))(hs:Hist):List D:=pst0 f0::hs.map pstD
def curF(f0:List (Int×Int))(hs:Hist):List (Int×Int):=match hs.getLast? with|some h=>h.2.1|none=>f0
def curW(hs:Hist):List (Int×Int):=match hs.getLast? with|some h=>h.2.2|none=>[]
def Ah(f0:List (Int×Int))(hs:Hist):∃fs,fsH f0 hs=fs++[curF f0 hs]/\fs.length=hs.length:=by
 unfold fsH curF;rcases W6 hs with rfl|⟨h,x,rfl⟩
 ·exact⟨[],rfl,rfl⟩
 ·refine⟨f0::h.map fun h=>h.2.1,?_,by simp⟩;simp
def Bc(hs:Hist):∃ws,wsH hs=ws++[curW hs]/\ws.length=hs.length:=by
 unfold wsH curW;rcases W6 hs with rfl|⟨h,x,rfl⟩
 ·exact⟨[],rfl,rfl⟩
 ·refine⟨[]::h.map fun h=>h.2.2,?_,by simp⟩;simp
def NI(f0:List (Int×Int))(hs:Hist):∃d,atI (UK f0 hs) (-1)=some (.tup [plD (curF f0 hs),plD (curW hs),d]):=by
 have key:∀(l:List D) (x:D),l≠[]->l[l.length-1]?=some x->atI l (-1)=some x:=fun l x hn h=>by
  have hp:0<l.length:=Qu.mpr hn;unfold atI ixN;rw[Yx (by omega),Yz (by omega)];show l[_]?=_;rw[show((-1:Int)+(l.length:Int)).toNat=l.length-1 by omega];exact h
 unfold UK curF curW;rcases W6 hs with rfl|⟨h,x,rfl⟩
 ·exact⟨.tup [],key _ _ (by simp) rfl⟩
 ·refine⟨dD x.1.q,key _ _ (by simp) ?_⟩;rw[WO,Qn,YF,Yu,Y4,Wn,WN,Ws,Y9,Wc (by rw[Yu];exact Y3 _),Yu,VE];rfl
def BF(hs:Hist)(h:Dd×List (Int×Int)×List (Int×Int)):bkH (hs++[h])=bkH hs++[h.1.q]:=by unfold bkH;rw[Y9];rfl
def Sd(f0:List (Int×Int))(hs:Hist)(h:Dd×List (Int×Int)×List (Int×Int)):fsH f0 (hs++[h])=fsH f0 hs++[h.2.1]:=by unfold fsH;rw[Y9];rfl
def NK(hs:Hist)(h:Dd×List (Int×Int)×List (Int×Int)):wsH (hs++[h])=wsH hs++[h.2.2]:=by unfold wsH;rw[Y9];rfl
def S9(f0:List (Int×Int))(hs:Hist)(h:Dd×List (Int×Int)×List (Int×Int)):UK f0 (hs++[h])=UK f0 hs++[pstD h]:=by unfold UK;rw[Y9];rfl
def BQ(hs:Hist):(bkH hs).length=hs.length:=Yu ..
def Zey(f0:List (Int×Int))(hs:Hist):(fsH f0 hs).length=hs.length+1:=by unfold fsH;rw[YF,Yu]
def Ze2(hs:Hist):(wsH hs).length=hs.length+1:=by unfold wsH;rw[YF,Yu]
def Sj(f0:List (Int×Int))(hs:Hist):(UK f0 hs).length=hs.length+1:=by unfold UK;rw[YF,Yu]
end Pu
namespace Pu
@[irreducible] def mixP (c k:Int):Int:=((c % 2147483647+7919*k+1)*48271 % 2147483647+104729*k+11)*69621 % 2147483647
open L2 M Own PyProof.Rows PySem PySem.Spec
def Dd.fld_ok {f w:List (Int×Int)}{d:Dd} (hF:Field f) (hl:f.length<=40) (e:d.err f w=none):Field (d.fld f)/\(d.fld f).length<=40:=by
 cases d with
 |sell p h=>exact⟨O8 hF e,by rw[show(Dd.sell p h).fld f=K8 f p h from rfl,LY];exact hl⟩
 |part p v=>
  have e:Xf f p v=none:=e;rcases Zeo f p v with⟨z,_⟩|⟨z,_⟩|⟨z,_⟩|⟨_,_,h1,h2,h3,h4,h5⟩
  ·rw[e]at z;cases z
  ·rw[e]at z;cases z
  ·rw[e]at z;cases z
  ·exact⟨Zay hF h1 h2 h3 h4,by rw[show(Dd.part p v).fld f=Ka f p v from rfl,Zc7 h1 h2];omega⟩
 |unite p=>
  have e:uniE f p=none:=e;rcases Zei f p with⟨z,_⟩|⟨z,_⟩|⟨z,_⟩|⟨_,_,h1,h2⟩
  ·rw[e]at z;cases z
  ·rw[e]at z;cases z
  ·rw[e]at z;cases z
  ·exact⟨Zc4 hF e,by rw[show(Dd.unite p).fld f=uniL f p from rfl];have:=L7 h1 h2;omega⟩
 |wish a b=>exact⟨hF,hl⟩
 |drop a b=>exact⟨hF,hl⟩
def Dd.wsh_ok {f w:List (Int×Int)}{d:Dd} (hW:K0 w) (e:d.err f w=none):K0 (d.wsh w):=by
 cases d with
 |wish a b=>exact IH hW e
 |drop a b=>exact Zbm hW
 |sell p h=>exact hW
 |part p v=>exact hW
 |unite p=>exact hW
def FineH(f0:List (Int×Int))(hs:Hist):Prop:=(∀g∈fsH f0 hs,Field g/\g.length<=40)/\∀g∈wsH hs,K0 g
def FineH.cur {f0:List (Int×Int)}{hs:Hist} (h:FineH f0 hs):(Field (curF f0 hs)/\(curF f0 hs).length<=40)/\K0 (curW hs):=by
 obtain⟨fs,ef,_⟩:=Ah f0 hs;obtain⟨ws,ew,_⟩:=Bc hs;exact⟨h.1 _ (by rw[ef];simp),h.2 _ (by rw[ew];simp)⟩
def FineH.nil {f0:List (Int×Int)} (hF:Field f0) (hl:f0.length<=40):FineH f0 []:=
 ⟨fun g hg=>by rw[show fsH f0 []=[f0]from rfl,Y5]at hg;subst hg;exact⟨hF,hl⟩,fun g hg=>by rw[show wsH []=[[]]from rfl,Y5]at hg;subst hg;exact Mj⟩
def FineH.snoc {f0:List (Int×Int)}{hs:Hist}{x:Dd×List (Int×Int)×List (Int×Int)} (h:FineH f0 hs) (h1:Field x.2.1/\x.2.1.length<=40) (h2:K0 x.2.2):FineH f0 (hs++[x]):=
 ⟨fun g hg=>by rw[Sd]at hg;rcases YR.mp hg with hg|hg;{exact h.1 g hg};{rw[Y5]at hg;subst hg;exact h1},fun g hg=>by rw[NK]at hg;rcases YR.mp hg with hg|hg;{exact h.2 g hg};{rw[Y5]at hg;subst hg;exact h2}⟩
def FineH.init {f0:List (Int×Int)}{hs:Hist}{x:Dd×List (Int×Int)×List (Int×Int)} (h:FineH f0 (hs++[x])):FineH f0 hs:=
 ⟨fun g hg=>h.1 g (by rw[Sd];exact Qk _ hg),fun g hg=>h.2 g (by rw[NK];exact Qk _ hg)⟩
def FineH.back {f0:List (Int×Int)}{hs:Hist} (h:FineH f0 hs):FineH f0 hs.dropLast:=by
 rcases W6 hs with rfl|⟨l,x,rfl⟩
 ·exact h
 ·rw[WO]at h ⊢;rw[WT];exact h.init
def addH(f0:List (Int×Int))(hs:Hist)(d:Dd):Hist:=if d.err (curF f0 hs) (curW hs)=none then hs++[(d,d.fld (curF f0 hs),d.wsh (curW hs))]else hs
def Ci(f0:List (Int×Int))(hs:Hist)(d:Dd):(addH f0 hs d).length<=hs.length+1:=by
 unfold addH;split
 ·rw[Y4,Wn];exact Y3 _
 ·omega
def FineH.add {f0:List (Int×Int)}{hs:Hist} (h:FineH f0 hs) (d:Dd):FineH f0 (addH f0 hs d):=by
 unfold addH;split
 ·rename_i e;obtain⟨⟨h1,h2⟩,h3⟩:=h.cur;exact h.snoc (Dd.fld_ok h1 h2 e) (Dd.wsh_ok h3 e)
 ·exact h
def Dd.code_pos {f w:List (Int×Int)}{x:Dd} (h:¬x.err f w=none):0<codeN (x.err f w):=by
 rcases x.err_cases f w with e|e|e|e|e|e|e|e|e|e|e|e<;>rw[e]at h ⊢
 ·exact absurd rfl h
 ·rw[NR];decide
 ·rw[SB];decide
 ·rw[Du];decide
 ·rw[FB];decide
 ·rw[CL];decide
 ·rw[Dj];decide
 ·rw[DA];decide
 ·rw[GM];decide
 ·rw[Cy];decide
 ·rw[Iy];decide
 ·rw[Dq];decide
def Dd.not_back (d:Dd):¬d.q.1=("back" : Str):=by
 cases d with
 |sell p h=>exact(by decide +kernel:¬("sell" : Str) = "back")
 |part p h=>exact(by decide +kernel:¬("part" : Str) = "back")
 |unite p=>exact(by decide +kernel:¬("unite" : Str) = "back")
 |wish p h=>exact(by decide +kernel:¬("wish" : Str) = "back")
 |drop p h=>exact(by decide +kernel:¬("drop" : Str) = "back")
def P2(ds:List D):Nat:=match ds.getLast? with
 |some (.tup (_ :: .lst w::_))=>w.length
 |_=>0
def Zhh(γ:List (Option Pu.S)):Nat:=match γ[1]? with
 |some (some (Pu.S.own (Pu.O.lsA _ ds)))=>P2 ds
 |_=>0
def Zek(ds:List D)(x:D):P2 (ds++[x])=P2 [x]:=by
 unfold P2;rw[Qn];rfl
def DN(f0:List (Int×Int))(hs:Hist):P2 (UK f0 hs)=(curW hs).length:=by
 rcases W6 hs with rfl|⟨l,x,rfl⟩
 ·rfl
 ·rw[WO,S9,Zek];unfold curW;rw[Qn];show(List.map prD x.2.2).length=_;rw[Yu]
def RG{w:List (Int×Int)}{a b:Int}(h:(a,b)∈w):(K9 w a b).length<w.length:=by
 unfold K9;refine Nat.lt_of_le_of_ne (Wd _ _) fun e=>?_
 have:=List.length_filter_eq_length_iff.mp e _ h
 simp at this
def Ra{f0:List (Int×Int)}{hs:Hist}{a b:Int}(h:(a,b)∈curW hs):addH f0 hs (.drop a b)=hs++[(.drop a b,curF f0 hs,K9 (curW hs) a b)]:=by
 unfold addH;rw[Yz]
 ·rfl
 ·show Xa (curW hs) a b=none;unfold Xa;rw[Yz h]
def CV(hs:Hist)(x:Dd×List (Int×Int)×List (Int×Int)):curW (hs++[x])=x.2.2:=by unfold curW;rw[Qn]
def RN(f0:List (Int×Int))(hs:Hist)(x:Dd×List (Int×Int)×List (Int×Int)):curF f0 (hs++[x])=x.2.1:=by unfold curF;rw[Qn]
def Zfm{α:Type}(f:α->D){xs:List α}(h:xs≠[]):∃x∈xs,atI (xs.map f) (-1)=some (f x):=by
 rcases W6 xs with rfl|⟨l,x,rfl⟩
 ·exact absurd rfl h
 ·rw[WO];exact⟨x,by simp,Nz f l x⟩
def Zho{hs r:List Int}(h:Ring hs [] r):False:=by
 have h2:=h.two
 have:=h.last r[0] (r[r.length-1]'(by omega)) (Yt (by omega)) (Yt (by omega))
 cases this
end Pu
namespace Own
open PySem PySem.Spec PyProof.Rows L2
section
variable {prog:Program}{w:World}{A:Around}{E:Value->Shared->Prop}{s:Shared}{l:Addr}{xs:Array (Int×Tok)}
def Zfp{Q:Value->Shared->Prop}(hh:A.handled=none)(hl:s.heap.IsTuple l (intItems xs))(hne:0<xs.size)(h:∀v h' tk,(intItems xs)[argBest (fun i j=>decide (numAt xs i<numAt xs j)) (xs.size-1)]?=some v->(∀b o,s.heap.get? b=some o->h'.get? b=some o)->Q v {s with heap:=h',toks:=tk}) :
  wpAny (model prog w) A (call (.builtin "min") [.ref l]) Q E s:=by
 have hlt:l<s.heap.objs.size:=by obtain⟨_,e,_⟩:=hl;exact YB e
 refine call_min_walk (wpAny_pyIter_tuple hl ?_);refine⟨_,[_,l],[_],_,_,_,_,rfl,Walks.tuple (A:=A.in1) hh _ l (YT hlt) (intItems xs),⟨⟨_,YE _ rfl,rfl,rfl⟩,hl.push _⟩,fun c hc=>?_,by simpa [intItems]using hne,CmpOf.ints_lt (numAt xs) (fun _ _=>intItems_at),fun v h' tk hP hk=>?_⟩
 ·show c<(s.heap.push _).objs.size;rw[Qp];rcases YA.mp hc with rfl|hc
  ·exact Qr _
  ·rcases YA.mp hc with rfl|hc
   ·exact Qj hlt
   ·cases hc
 ·refine h v h' tk (by simpa [intItems]using hP) fun b o e=>hk b o (fun hm=>?_) (Y1 _ e);rcases YA.mp hm with e1|hm
  ·exact absurd (e1▸YB e) (WD _)
  ·cases hm
def Zbs{Q:Value->Shared->Prop}(hh:A.handled=none)(hl:s.heap.IsTuple l (intItems xs))(hne:0<xs.size)(h:∀v h' tk,(intItems xs)[argBest (fun i j=>decide (numAt xs i>numAt xs j)) (xs.size-1)]?=some v->(∀b o,s.heap.get? b=some o->h'.get? b=some o)->Q v {s with heap:=h',toks:=tk}) :
  wpAny (model prog w) A (call (.builtin "max") [.ref l]) Q E s:=by
 have hlt:l<s.heap.objs.size:=by obtain⟨_,e,_⟩:=hl;exact YB e
 refine call_max_walk (wpAny_pyIter_tuple hl ?_);refine⟨_,[_,l],[_],_,_,_,_,rfl,Walks.tuple (A:=A.in1) hh _ l (YT hlt) (intItems xs),⟨⟨_,YE _ rfl,rfl,rfl⟩,hl.push _⟩,fun c hc=>?_,by simpa [intItems]using hne,CmpOf.ints_gt (numAt xs) (fun _ _=>intItems_at),fun v h' tk hP hk=>?_⟩
 ·show c<(s.heap.push _).objs.size;rw[Qp];rcases YA.mp hc with rfl|hc
  ·exact Qr _
  ·rcases YA.mp hc with rfl|hc
   ·exact Qj hlt
   ·cases hc
 ·refine h v h' tk (by simpa [intItems]using hP) fun b o e=>hk b o (fun hm=>?_) (Y1 _ e);rcases YA.mp hm with e1|hm
  ·exact absurd (e1▸YB e) (WD _)
  ·cases hm
end
section
variable {X:Cx}{K:Za}
def OS(hc:X.calm=true)(hK:X.K=K:=by rfl):Xd X (.builtin "min") (fun xs H Q=>∃(p:Addr) (a b:Int),xs=[.ref p]/\SqT K H p [.int a,.int b]/\Q (.int (if b<a then b else a)) H):=by
 subst hK;intro pins s σ H xs us Q I rv h;obtain⟨p,a,b,rfl,hS,q⟩:=h;obtain⟨u,rfl,ru⟩:=rv.one;obtain rfl:u=Value.ref p:=ru;obtain⟨its,r,pl,_⟩:=I.tuple hS;cases r with
 |cons r1 r=>
  cases r with
  |cons r2 r=>
   cases r
   obtain⟨t1,rfl⟩:=r1;obtain⟨t2,rfl⟩:=r2;have hl:s.heap.IsTuple p (intItems #[(a,t1),(b,t2)]):=by have this:s.heap.IsTuple p _:=pl;simpa [intItems]using this
   refine Zfp (I.ok.hd hc) hl (by simp) fun v h' tk hP hk=>?_;have hP':(intItems #[(a,t1),(b,t2)])[argBest (fun i j=>decide (numAt #[(a,t1),(b,t2)] i<numAt #[(a,t1),(b,t2)] j)) 1]?=some v:=hP;by_cases hba:b<a
   ·have e:argBest (fun i j=>decide (numAt #[(a,t1),(b,t2)] i<numAt #[(a,t1),(b,t2)] j)) 1=1:=by simp[argBest,numAt,hba]
    rw[e]at hP';obtain rfl:Value.int b t2=v:=by simpa [intItems]using hP'
    rw[Yz hba]at q;exact⟨.int b,H,I.kept (t':=tk) hk,⟨_,rfl⟩,q⟩
   ·have e:argBest (fun i j=>decide (numAt #[(a,t1),(b,t2)] i<numAt #[(a,t1),(b,t2)] j)) 1=0:=by simp[argBest,numAt,hba]
    rw[e]at hP';obtain rfl:Value.int a t1=v:=by simpa [intItems]using hP'
    rw[Yx hba]at q;exact⟨.int a,H,I.kept (t':=tk) hk,⟨_,rfl⟩,q⟩
def OQ(hc:X.calm=true)(hK:X.K=K:=by rfl):Xd X (.builtin "max") (fun xs H Q=>∃(p:Addr) (a b:Int),xs=[.ref p]/\SqT K H p [.int a,.int b]/\Q (.int (if b>a then b else a)) H):=by
 subst hK;intro pins s σ H xs us Q I rv h;obtain⟨p,a,b,rfl,hS,q⟩:=h;obtain⟨u,rfl,ru⟩:=rv.one;obtain rfl:u=Value.ref p:=ru;obtain⟨its,r,pl,_⟩:=I.tuple hS;cases r with
 |cons r1 r=>
  cases r with
  |cons r2 r=>
   cases r
   obtain⟨t1,rfl⟩:=r1;obtain⟨t2,rfl⟩:=r2;have hl:s.heap.IsTuple p (intItems #[(a,t1),(b,t2)]):=by have this:s.heap.IsTuple p _:=pl;simpa [intItems]using this
   refine Zbs (I.ok.hd hc) hl (by simp) fun v h' tk hP hk=>?_;have hP':(intItems #[(a,t1),(b,t2)])[argBest (fun i j=>decide (numAt #[(a,t1),(b,t2)] i>numAt #[(a,t1),(b,t2)] j)) 1]?=some v:=hP;by_cases hba:b>a
   ·have e:argBest (fun i j=>decide (numAt #[(a,t1),(b,t2)] i>numAt #[(a,t1),(b,t2)] j)) 1=1:=by simp[argBest,numAt,hba]
    rw[e]at hP';obtain rfl:Value.int b t2=v:=by simpa [intItems]using hP'
    rw[Yz hba]at q;exact⟨.int b,H,I.kept (t':=tk) hk,⟨_,rfl⟩,q⟩
   ·have e:argBest (fun i j=>decide (numAt #[(a,t1),(b,t2)] i>numAt #[(a,t1),(b,t2)] j)) 1=0:=by simp[argBest,numAt,hba]
    rw[e]at hP';obtain rfl:Value.int a t1=v:=by simpa [intItems]using hP'
    rw[Yx hba]at q;exact⟨.int a,H,I.kept (t':=tk) hk,⟨_,rfl⟩,q⟩
end
end Own
namespace Pu
open PySem PySem.Spec PyProof.Rows L2 Own
section
variable {K:Za}{mg:Str->Option Value}{E:L2.St->XK}
def Ed:List S->(S->Prop)->Prop
 |[s],R=>(match s.d with | .tup [.int a,.int b]=>R (.sh (.int (if b<a then b else a)))|_=>False)
 |_,_=>False
def G3:List S->(S->Prop)->Prop
 |[s],R=>(match s.d with | .tup [.int a,.int b]=>R (.sh (.int (if b>a then b else a)))|_=>False)
 |_,_=>False
def RB{ta:TA}{r:PTA}(hr:SndA K mg E ta r):SndE K mg E (tCB (fun xs H Q=>∃(p:Addr) (a b:Int),xs=[.ref p]/\SqT K H p [.int a,.int b]/\Q (.int (if b<a then b else a)) H) ta) (pCB Ed r):=by
 refine Kh hr fun H0 H H1 Z ss vs R Q s0 s1 hm tv h q=>?_;unfold Ed at h;split at h
 ·rename_i s;obtain⟨v,rfl,t1⟩:=tv.one_inv;have rv:=t1.rp s0;split at h
  ·rename_i a b e;rw[e]at rv;obtain⟨p,us,rfl,hp,r1⟩:=Rp.tup_inv rv;obtain⟨x,y,rfl,q1,q2⟩:=r1.two_inv;rw[q1.int_inv,q2.int_inv]at hp;exact⟨p,a,b,rfl,SqT.of hp,q _ _ H1 h (Same.refl _) (.int _)⟩
  ·exact h.elim
 ·exact h.elim
def OG{ta:TA}{r:PTA}(hr:SndA K mg E ta r):SndE K mg E (tCB (fun xs H Q=>∃(p:Addr) (a b:Int),xs=[.ref p]/\SqT K H p [.int a,.int b]/\Q (.int (if b>a then b else a)) H) ta) (pCB G3 r):=by
 refine Kh hr fun H0 H H1 Z ss vs R Q s0 s1 hm tv h q=>?_;unfold G3 at h;split at h
 ·rename_i s;obtain⟨v,rfl,t1⟩:=tv.one_inv;have rv:=t1.rp s0;split at h
  ·rename_i a b e;rw[e]at rv;obtain⟨p,us,rfl,hp,r1⟩:=Rp.tup_inv rv;obtain⟨x,y,rfl,q1,q2⟩:=r1.two_inv;rw[q1.int_inv,q2.int_inv]at hp;exact⟨p,a,b,rfl,SqT.of hp,q _ _ H1 h (Same.refl _) (.int _)⟩
  ·exact h.elim
 ·exact h.elim
end
end Pu
namespace M
open PySem PySem.Spec PyProof.Rows L2 Own Pu
def ltS(k:Int):List (Int×Int)->Int
 |[]=>0
 |q::l=>(if q.1<k then q.2 else 0)+ltS k l
def gtS(k:Int):List (Int×Int)->Int
 |[]=>0
 |q::l=>(if k<q.1 then q.2 else 0)+gtS k l
def invL:List (Int×Int)->Int
 |[]=>0
 |p::l=>ltS p.1 l*p.2+invL l
def HF(k:Int)(a b:Int×Int)(B:List (Int×Int)):∀A:List (Int×Int),ltS k (A++a::b::B)=ltS k (A++b::a::B)
 |[]=>by simp only[List.nil_append,ltS];omega
 |q::A=>by simp only[W9,ltS];rw[HF k a b B A]
def B4(a b:Int×Int)(B:List (Int×Int)):∀A:List (Int×Int),invL (A++a::b::B)+(if a.1<b.1 then a.2*b.2 else 0)=invL (A++b::a::B)+(if b.1<a.1 then a.2*b.2 else 0)
 |[]=>by
  simp only[List.nil_append,invL,ltS];rw[QV,QV];by_cases h1:a.1<b.1
  ·rw[Yz h1,Yx (by omega:¬b.1<a.1),Yz h1,Yx (by omega:¬b.1<a.1)];omega
  ·rw[Yx h1];by_cases h2:b.1<a.1
   ·rw[Yz h2,Yx h1,Yz h2,Int.mul_comm b.2 a.2];omega
   ·rw[Yx h2,Yx h1,Yx h2];omega
 |q::A=>by
  simp only[W9,invL];rw[HF q.1 a b B A]
  have:=B4 a b B A
  omega
def Cz{k:Int}:∀{l:List (Int×Int)},(∀q∈l,k<=q.1)->ltS k l=0
 |[],_=>rfl
 |q::l,h=>by
  unfold ltS;rw[Yx (by have:=h q YO;omega),Cz fun x hx=>h x (YJ _ hx)];rfl
def BO:∀{l:List (Int×Int)},l.Pairwise (fun x y=>x.1<=y.1)->invL l=0
 |[],_=>rfl
 |p::l,h=>by
  obtain⟨h1,h2⟩:=Wh.mp h;unfold invL;rw[Cz h1,BO h2,Int.zero_mul];rfl
def GL(k:Int)(p:Int×Int):∀l:List (Int×Int),ltS k (l++[p])=ltS k l+(if p.1<k then p.2 else 0)
 |[]=>by simp[ltS]
 |q::l=>by simp only[W9,ltS];rw[GL k p l];omega
def Bt(k:Int)(p:Int×Int):∀l:List (Int×Int),gtS k (l++[p])=gtS k l+(if k<p.1 then p.2 else 0)
 |[]=>by simp[gtS]
 |q::l=>by simp only[W9,gtS];rw[Bt k p l];omega
def A8(p:Int×Int):∀l:List (Int×Int),invL (l++[p])=invL l+gtS p.1 l*p.2
 |[]=>by simp[invL,ltS,gtS]
 |q::l=>by
  simp only[W9,invL,gtS];rw[GL,A8 p l,QV,QV];by_cases h:p.1<q.1
  ·rw[Yz h,Yz h,Int.mul_comm p.2 q.2];omega
  ·rw[Yx h,Yx h];omega
def KP(os:List Int)(ps:List (Int×Int)):List (Int×Int):=ps.map fun q=>((os.idxOf q.1:Nat),q.2)
def IE(ps:List (Int×Int))(os:List Int)(h:Int):∀n,n<=ps.length->rsM ps os h n=gtS (os.idxOf h:Nat) (KP os (ps.take n))
 | 0,_=>by simp[rsM,gtS,KP]
 |n+1,hn=>by
  unfold rsM KP;rw[IE ps os h n (by omega),YL (by omega),Y9,Qd,Bt,Yw,Yt (show n<ps.length by omega)];show _+(if os.idxOf h<os.idxOf ps[n].1 then ps[n].2 else 0)=_+(if ((os.idxOf h:Nat):Int)<((os.idxOf ps[n].1:Nat):Int)then ps[n].2 else 0);by_cases c:os.idxOf h<os.idxOf ps[n].1
  ·rw[Yz c,Yz (by omega)];rfl
  ·rw[Yx c,Yx (by omega)];rfl
def Dg(ps:List (Int×Int))(os:List Int):∀n,n<=ps.length->priM ps os n=invL (KP os (ps.take n))
 | 0,_=>by simp[priM,invL,KP]
 |n+1,hn=>by
  unfold priM;rw[Dg ps os n (by omega),IE ps os _ n (by omega),Yw,Yt (show n<ps.length by omega)];rw[YL (show n<ps.length by omega)];show _=invL (List.map _ (ps.take n++[ps[n]]));rw[Y9,Qd,A8];rfl
def Lg(ps:List (Int×Int))(os:List Int):priM ps os ps.length=invL (KP os ps):=by
 rw[Dg ps os _ (Y3 _),Wr]
def wdN(ps:List (Int×Int))(m:Int):Int:=(ps.getD (m-1).toNat (0,0)).2
def hdN(ps:List (Int×Int))(m:Int):Int:=(ps.getD (m-1).toNat (0,0)).1
def keyL(ps:List (Int×Int))(f:Int->Int)(ns:List Int):List (Int×Int):=ns.map fun m=>(f m,wdN ps m)
def Fn{ns:List Int}{p:Nat}(h1:1<=p)(h2:p<ns.length):∃A x y B,ns=A++x::y::B/\A.length+1=p/\UR ns p=A++y::x::B/\ns.getD (p-1) 0=x/\ns.getD p 0=y:=by
 have h3:ns.drop (p-1)=ns[p-1]'(by omega)::ns.drop (p-1+1):=Wk (by omega);have h4:ns.drop p=ns[p]::ns.drop (p+1):=Wk h2;have h5:p-1+1=p:=by omega
 rw[h5,h4]at h3;have e1:ns.getD p 0=ns[p]:=by rw[Yw,Yt h2];rfl
 have e2:ns.getD (p-1) 0=ns[p-1]'(by omega):=by rw[Yw,Yt (by omega)];rfl
 refine⟨ns.take (p-1),ns[p-1]'(by omega),ns[p],ns.drop (p+1),by rw[←h3,Vg],by rw[We];omega,?_,e2,e1⟩;unfold UR;rw[e1,e2];simp
def Zbw{ps:List (Int×Int)}{ns:List Int}{p:Nat}{x y:Int}(hx:ns.getD (p-1) 0=x)(hy:ns.getD p 0=y):exM ps ns p=wdN ps x*wdN ps y:=by
 unfold exM wdN;rw[hx,hy]
def Gp{ns:List Int}{p:Nat}(h1:1<=p)(h2:p<ns.length):(UR ns p).length=ns.length:=(N3 h1 h2).length_eq
def Zhe{ps:List (Int×Int)}(f:Int->Int){ns:List Int}{p:Nat}(h1:1<=p)(h2:p<ns.length)(h:f (ns.getD p 0)<f (ns.getD (p-1) 0)):invL (keyL ps f ns)=invL (keyL ps f (UR ns p))+exM ps ns p:=by
 obtain⟨A,x,y,B,e,_,es,ex,ey⟩:=Fn h1 h2;rw[es,Zbw ex ey];rw[ex,ey]at h;rw[e];unfold keyL;rw[Y9,YC,YC,Y9,YC,YC];have k:=B4 (f x,wdN ps x) (f y,wdN ps y) (B.map fun m=>(f m,wdN ps m)) (A.map fun m=>(f m,wdN ps m));simp only at k;rw[Yx (by omega),Yz h]at k;omega
def Zfh(ps:List (Int×Int))(os:List Int):keyL ps (fun m=>(os.idxOf (hdN ps m):Nat)) (runI 1 ps.length)=KP os ps:=by
 unfold keyL KP runI;refine Vc (by simp) fun i h1 h2=>?_;have hi:i<ps.length:=by simpa using h2
 have e:((1:Int)+(i:Int)-1).toNat=i:=by omega
 simp only[Vd,V3,hdN,wdN];rw[e,Yw,Yt hi];rfl
def EU(ps:List (Int×Int))(p:Int):∀(pl:List Int) (st st':List Int×Int),XU ps pl st=some st'->XU ps (pl++[p]) st=XU ps [p] st'
 |[],st,st',h=>by rw[Bp]at h;cases h;rfl
 |q::r,st,st',h=>by
  rw[W9,Ti];rw[Ti]at h;split at h
  ·cases h
  ·rename_i c;rw[Yx c];exact EU ps p r _ st' h
def rkN(ps:List (Int×Int))(o:List Int)(m:Int):Int:=(o.idxOf (hdN ps m):Nat)
def numN(ps:List (Int×Int))(h:Int):List Int:=((List.range ps.length).filter fun i=>decide ((ps.getD i (0,0)).1=h)).map fun i:Nat=>0+(i:Int)+1
def RQ{ps:List (Int×Int)}{h x:Int}:x∈numN ps h↔(1<=x/\x<=ps.length)/\hdN ps x=h:=by
 unfold numN hdN;rw[YX];constructor
 ·rintro⟨i,hi,rfl⟩;obtain⟨h1,h2⟩:=YS.mp hi
  have:=Q4.mp h1
  refine⟨by omega,?_⟩;rw[show(0+(i:Int)+1-1).toNat=i by omega];exact Y0 h2
 ·rintro⟨h1,h2⟩;exact⟨(x-1).toNat,YS.mpr ⟨Q4.mpr (by omega),Yy h2⟩,by omega⟩
def EZ(ps:List (Int×Int))(h:Int):(numN ps h).Pairwise (· < ·):=by
 unfold numN;rw[Q1];exact(List.pairwise_lt_range.filter _).imp fun {a b} hab=>by omega
def HL(ps:List (Int×Int))(h:Int):(numN ps h).length<=ps.length:=by
 unfold numN;rw[Yu];exact Y8 (Wd _ _) (by rw[Q3];exact Y3 _)
def G7(n:Nat):(runI 1 n).Nodup:=by
 unfold runI;exact VA _ (fun a b (h:a≠b) z=>h (by omega)) List.nodup_range
def Zfq{ps:List (Int×Int)}{o G mine:List Int}{i:Nat}(nd:o.Nodup)(hi:i<o.length)(g1:G.Nodup)(g2:∀x,x∈G↔(1<=x/\x<=ps.length)/\hdN ps x∈o.take i)(hm:mine.Perm (numN ps o[i])) :
  (G++mine).Nodup/\(∀x,x∈G++mine↔(1<=x/\x<=ps.length)/\hdN ps x∈o.take (i+1))/\(∀x∈G,∀y∈mine,rkN ps o x<rkN ps o y)/\∀y∈mine,rkN ps o y=i:=by
 have hmem:∀x,x∈mine↔(1<=x/\x<=ps.length)/\hdN ps x=o[i]:=fun x=>hm.mem_iff.trans RQ
 have hni:o[i]∉o.take i:=fun z=>by
  obtain⟨j,hj,e⟩:=W1.mp z;rw[We]at hj;rw[VB]at e
  have:=(List.getElem_inj (h₀:=by omega) (h₁:=hi) nd).mp e
  omega
 have hr:∀y∈mine,rkN ps o y=i:=fun y hy=>by
  unfold rkN;rw[((hmem y).mp hy).2,nd.idxOf_getElem i hi]
 have hl:∀x∈G,rkN ps o x<i:=fun x hx=>by
  obtain⟨j,hj,e⟩:=W1.mp ((g2 x).mp hx).2;rw[We]at hj;rw[VB]at e;unfold rkN;rw[←e,nd.idxOf_getElem j (by omega)];omega
 refine⟨W4.mpr ⟨g1,hm.symm.nodup ((EZ ps _).imp fun h=>QK h),fun x hx y hy z=>?_⟩,fun x=>?_,fun x hx y hy=>?_,hr⟩
 ·subst z
  have:=((g2 x).mp hx).2
  rw[((hmem x).mp hy).2]at this;exact hni this
 ·rw[YR,g2 x,hmem x,YL hi,YR,Y5];constructor
  ·rintro(⟨h1,h2⟩|⟨h1,h2⟩)
   ·exact⟨h1,.inl h2⟩
   ·exact⟨h1,.inr h2⟩
  ·rintro⟨h1,h2|h2⟩
   ·exact .inl ⟨h1,h2⟩
   ·exact .inr ⟨h1,h2⟩
 ·have:=hl x hx
  rw[hr y hy];exact this
def triN:Nat->Nat
 | 0=>0
 |k+1=>triN k+k
def Oi:∀n,n<41->triN n<=780:=by decide
def Cr(n:Nat):(runI 1 n).Pairwise (· < ·):=by
 unfold runI;rw[Q1];exact List.pairwise_lt_range.imp fun {a b} h=>by omega
def FW(ks:List Int)(p:Nat):Prop:=(∀q,1<=q->q<(if p=0 then ks.length else p)->ks.getD (q-1) 0<=ks.getD q 0)/\(p=0\/(1<=p/\p<ks.length/\ks.getD p 0<ks.getD (p-1) 0))
abbrev Mo:=Int×Int×Int×Int
inductive Mv (ps:List (Int×Int)) (f:Int->Int):List Int->List Mo->Prop
 |done (ns:List Int):FW (ns.map f) 0->Mv ps f ns []
 |step (ns:List Int) (p:Nat) (ms:List Mo):FW (ns.map f) p->p≠0->Mv ps f (UR ns p) ms->Mv ps f ns (((p:Int),ns.getD (p-1) 0,ns.getD p 0,exM ps ns p)::ms)
def XY{f:Int->Int}{ns:List Int}{i:Nat}(h:i<ns.length):(ns.map f).getD i 0=f (ns.getD i 0):=by
 rw[Yw,Yw,Y6,Yt h];rfl
def Mv.cut {ps:List (Int×Int)}{f:Int->Int}{ns:List Int}{ms:List Mo} (h:Mv ps f ns ms) (hl:ns.length=ps.length) (c:Int):∀k,k<=ms.length->∃ns' c',XU ps ((ms.take k).map (·.1)) (ns,c)=some (ns',c')/\Mv ps f ns' (ms.drop k)/\invL (keyL ps f ns)+c=invL (keyL ps f ns')+c'/\ns'.Perm ns:=by
 induction h generalizing c with
 |done ns hw=>
  intro k hk
  have:k=0:=Nat.le_zero.mp hk
  subst this;exact⟨ns,c,rfl,.done ns hw,rfl,.refl _⟩
 |step ns p ms hp h0 hm ih=>
  intro k hk;cases k with
  |zero=>exact⟨ns,c,rfl,.step ns p ms hp h0 hm,rfl,.refl _⟩
  |succ k=>
   obtain⟨h1,h2,h3⟩:=hp.2.resolve_left h0;rw[Yu]at h2;rw[XY h2,XY (by omega)]at h3;obtain⟨ns',c',w1,w2,w3,w4⟩:=ih (by rw[Gp h1 h2];exact hl) (c+exM ps ns p) k (by simpa using hk);refine⟨ns',c',?_,w2,?_,w4.trans (N3 h1 h2)⟩
   ·rw[Vv,YC,Ti,Yx (by show ¬((p:Int)<1\/(ps.length:Int)<=(p:Int));omega)];exact w1
   ·have:=Zhe (ps:=ps) f h1 h2 h3
    omega
def fldN(ps:List (Int×Int))(ns:List Int):List (Int×Int):=ns.map fun m=>ps.getD (m-1).toNat (0,0)
def cntN(f:Int->Int)(ns:List Int):Int:=invL (ns.map fun m=>(f m,1))
def CU(f:Int->Int){ns:List Int}{p:Nat}(h1:1<=p)(h2:p<ns.length)(h:f (ns.getD p 0)<f (ns.getD (p-1) 0)):cntN f ns=cntN f (UR ns p)+1:=by
 obtain⟨A,x,y,B,e,_,es,ex,ey⟩:=Fn h1 h2;rw[ex,ey]at h;rw[es,e];unfold cntN;rw[Y9,YC,YC,Y9,YC,YC];have k:=B4 (f x,1) (f y,1) (B.map fun m=>(f m,1)) (A.map fun m=>(f m,1));simp only at k;rw[Yx (by omega),Yz h]at k;omega
def Be(f:Int->Int)(k:Int):∀l:List Int,0<=ltS k (l.map fun m=>(f m,1))/\ltS k (l.map fun m=>(f m,1))<=l.length
 |[]=>⟨Q0 0,Q0 0⟩
 |m::l=>by
  have:=Be f k l
  rw[YC,YF];unfold ltS;simp only;split<;>omega
def Sh(f:Int->Int):∀l:List Int,0<=cntN f l/\cntN f l<=(l.length:Int)*l.length
 |[]=>⟨Q0 0,Q0 0⟩
 |m::l=>by
  have h1:=Sh f l;have h2:=Be f (f m) l;unfold cntN at h1 ⊢;rw[YC,YF];unfold invL
  have e:((l.length+1:Nat):Int)*((l.length+1:Nat):Int)=(l.length:Int)*l.length+l.length+l.length+1:=by
   rw[show((l.length+1:Nat):Int)=(l.length:Int)+1 by omega,QV,Int.mul_add];omega
  rw[e];simp only[Int.mul_one];omega
def toI:D->Int
 | .int i=>i
 |_=>0
def mvN(γ:List (Option Pu.S)):Nat:=match γ[2]?,γ[3]? with
 |some (some (Pu.S.own (Pu.O.lst rs))),some (some (Pu.S.own (Pu.O.lst ns)))=>(cntN (fun m=>(rs.map toI).getD (m-1).toNat 0) (ns.map toI)).toNat
 |_,_=>0
def BD(xs:List Int):(xs.map D.int).map toI=xs:=by
 rw[YZ];exact List.map_id _
end M
namespace Pu
open PySem PySem.Spec PyProof.Rows L2 Own M
abbrev mvD(m:Mo):D:=.tup [.int m.1,.int m.2.1,.int m.2.2.1,.int m.2.2.2]
end Pu
namespace M
open PySem PySem.Spec PyProof.Rows L2 Own Pu
def Hf(f:Int->Int):∀l:List Int,cntN f l<=(triN l.length:Nat)
 |[]=>Q0 0
 |m::l=>by
  have h1:=Hf f l;have h2:=Be f (f m) l;unfold cntN at h1 ⊢;rw[YC,YF];unfold invL triN;simp only[Int.mul_one];omega
end M
namespace Pu
open PySem PySem.Spec PyProof.Rows L2 Own
section
variable {X:Cx}{k j:Nat}{x:Str}{ps:List Str}{sp:Sp}{e a b c:Expr}{es:List Expr}{t:TA}{te tf tg:TE}{p pos:Pos}
def fz(C:Callee X.prog X.w X.K X.mg X.base CX0 k x ps sp)(hr:Room j X.A)(ha:PA X (e::es) t)(hk:k<=j:=by decide)(hg:Gl X x:=by rfl)(hdb:(x==("__debug__" : Str))=false:=by decide)(he:starEach (e::es) X.env=(false,eval e X.env)::starEach es X.env:=by rfl)(hpl:(backTo pos (starEach es X.env)).any (·.1)=false:=by rfl) :
  PE X (.Call (.Name x p) (e::es) [] pos) (Ph sp [] E0 t):=Xk C (hr.mono hk) UH ha hg hdb he hpl
def jx(K:Za)(ha:PE X a te)(hb:PE X b tf)(hK:X.K=K:=by rfl)(hs:Ea b:=by intro _ _;rfl):PE X (.Subscript a b pos) (tOp (fun x y H Q=>rIxL K x y H Q\/rIxT K x y H Q) te tf):=Ia (Ei hK) ha hb hs
def gz(i:Nat)(hN:X.N.Nodup)(hi:X.N[i]?=some x:=by rfl)(hx:Loc X.env.scope x:=by first|exact Or.inl rfl|exact Or.inr rfl)(hf:X.fn x=true\/X.env.scope.names.lookup x=some .local:=by first|exact .inl rfl|exact .inr rfl|assumption):PG X (.Name x pos) (PN i):=Bn hN hi hx hf
def ln(K:Za)(hm:X.mg "len"=none)(ha:PE X a te)(hK:X.K=K:=by rfl)(hg:Gl X "len":=by rfl)(hs:starEach [a] X.env=(false,eval a X.env)::starEach [] X.env:=by rfl)(hpl:(backTo pos (starEach [] X.env)).any (·.1)=false:=by rfl) :
  PE X (.Call (.Name "len" p) [a] [] pos) (tCB (fun xs H Q=>∃x n,xs=[x]/\LenV K x H n/\Q (.int (n:Nat)) H) (Xc te tNil)):=UZ (Zfz hK) hg hm PySem.boot_len (Ug ha U0 hs) (by decide) (by decide) hs hpl
def cq(K:Za)(hr:Room j X.A)(ha:PE X a te)(hb:PE X b tf)(hK:X.K=K:=by rfl):PT X (.Compare a [.Eq] [b] pos) (Sw (tOp (fun x y H Q=>rEq x y H Q\/rEqL K false x y H Q) te tf)):=Uk (Tw hr.units0 hK) ha hb (Up _)
def cn(K:Za)(hr:Room j X.A)(ha:PE X a te)(hb:PE X b tf)(hK:X.K=K:=by rfl):PT X (.Compare a [.NotEq] [b] pos) (Sw (tOp (fun x y H Q=>rNe x y H Q\/rEqL K true x y H Q) te tf)):=Uk (Lr hr.units0 hK) ha hb (Up _)
def az(ha:PE X a te)(h1:starEach [a] X.env=(false,eval a X.env)::starEach [] X.env:=by rfl):PA X [a] (Xc te tNil):=Ug ha U0 h1
def bz(ha:PE X a te)(hb:PE X b tf)(h1:starEach [a,b] X.env=(false,eval a X.env)::starEach [b] X.env:=by rfl)(h2:starEach [b] X.env=(false,eval b X.env)::starEach [] X.env:=by rfl):PA X [a,b] (Xc te (Xc tf tNil)):=Ug ha (Ug hb U0 h2) h1
def dz(ha:PE X a te)(hb:PE X b tf)(hc:PE X c tg)(h1:starEach [a,b,c] X.env=(false,eval a X.env)::starEach [b,c] X.env:=by rfl)(h2:starEach [b,c] X.env=(false,eval b X.env)::starEach [c] X.env:=by rfl)(h3:starEach [c] X.env=(false,eval c X.env)::starEach [] X.env:=by rfl):PA X [a,b,c] (Xc te (Xc tf (Xc tg tNil))):=Ug ha (Ug hb (Ug hc U0 h3) h2) h1
end
section
variable {K:Za}{mg:Str->Option Value}{E:L2.St->XK}{ta tb tc:TE}{a b c:PTE}
def sz(ha:SndE K mg E ta a):SndA K mg E (Xc ta tNil) (P4 a pNil):=Uh ha Um
def tz(ha:SndE K mg E ta a)(hb:SndE K mg E tb b):SndA K mg E (Xc ta (Xc tb tNil)) (P4 a (P4 b pNil)):=Uh ha (sz hb)
def uz(ha:SndE K mg E ta a)(hb:SndE K mg E tb b)(hc:SndE K mg E tc c):SndA K mg E (Xc ta (Xc tb (Xc tc tNil))) (P4 a (P4 b (P4 c pNil))):=Uh ha (tz hb hc)
end
section
variable {K:Za}{h:Heap}{mg:Str->Option Value}{C C':Addr}{x m q:Str}{st:Stmt}{ps:List Str}
abbrev Bd(x q:Str)(st:Stmt)(ps:List Str):Prop:=∀(kV doc pm:Value) (an:Option Addr) (cdv ct:Value) (us:List Value),us.length=ps.length->bindArgs (PySem.W.fnOf x q (Kl st) (Xl st) (JV st) .none kV doc pm an cdv ct) ⟨us,[]⟩=pure (ps.zip us)
def DI.e (D:DI K x st) (X:K.In h) (G0:h.Ns mainGlobals mg) (b:Bd x x st ps:=by
  intro _ _ _ _ _ _ us hl
  first
   |(obtain⟨_,rfl⟩:=Pu.len1 hl;rfl)
   |(obtain⟨_,_,rfl⟩:=Pu.len2 hl;rfl)
   |(obtain⟨_,_,_,rfl⟩:=Pu.len3 hl;rfl)
   |(obtain⟨_,_,_,_,rfl⟩:=Pu.len4 hl;rfl)
   |(obtain⟨_,_,_,_,_,rfl⟩:=Pu.len5 hl;rfl)):Def K mg x st ps:=D.d X G0 b
def MI.e (D:MI K C m q st) (e:C'=C) (b:Bd m q st ps:=by
  intro _ _ _ _ _ _ us hl
  first
   |(obtain⟨_,rfl⟩:=Pu.len1 hl;rfl)
   |(obtain⟨_,_,rfl⟩:=Pu.len2 hl;rfl)
   |(obtain⟨_,_,_,rfl⟩:=Pu.len3 hl;rfl)
   |(obtain⟨_,_,_,_,rfl⟩:=Pu.len4 hl;rfl)):DefM K (Meth K C' m) m q st ps:=D.d e b
def MI.j (D:MI K C "__init__" q st) (e:C'=C) (mk:PySem.W.makesIn K C=true) (kc:PySem.W.keepIn K (.ref C)=true) (b:Bd "__init__" q st ps:=by
  intro _ _ _ _ _ _ us hl
  first
   |(obtain⟨_,rfl⟩:=Pu.len1 hl;rfl)
   |(obtain⟨_,_,rfl⟩:=Pu.len2 hl;rfl)
   |(obtain⟨_,_,_,rfl⟩:=Pu.len3 hl;rfl)):DefM K (Mk K C') "__init__" q st ps:=D.i e mk kc b
end
section
variable {P:Program}{w:World}{K:Za}{mg:Str->Option Value}{base:Heap}{N ps:List Str}{sp:Sp}{p:PTS}{x q:Str}{st:Stmt}{k:Nat}{W:Addr->Prop}
structure Uz (K:Za) (mg:Str->Option Value) (N ps:List Str) (sp:Sp) (p:PTS):Prop where
 len:∀vs H Q E,sp vs H Q E->vs.length=ps.length
 run:∀vs H Q E t,sp vs H Q E->SndS K mg (fun _=>E) t p->t {nx:=fun _ H'=>Q .non H',rt:=Q} (start N vs) H
def Uz.a {c:Pc} (hp:∀ds R X,c ds R X->ds.length=ps.length/\p {nx:=fun _=>R (.sh .non),rt:=R,ex:=fun _ e=>X e} (K7 N ds)) (hn:ps.length<=N.length:=by decide):Uz K mg N ps (spOf mg c K) p:=
 ⟨fun _ _ _ _ h=>Lv h fun ds R X z=>(hp ds R X z).1,fun _ _ _ _ _ h s=>Zdo h s hn hp⟩
def Uz.b {c:Pq} (hp:∀ss R X,c ss R X->ss.length=ps.length/\p {nx:=fun _=>R (.sh .non),rt:=R,ex:=fun _ e=>X e} (Pd N ss)) (hn:ps.length<=N.length:=by decide):Uz K mg N ps (spS mg c K) p:=
 ⟨fun _ _ _ _ h=>Zd5 h fun ds R X z=>(hp ds R X z).1,fun _ _ _ _ _ h s=>Zeu h s hn hp⟩
def Uz.c {c:Pw}{y:Str} (hp:∀o ss R X,c o ss R X->ss.length=ps.length/\p (Dy o R X) (KO N o ss)) (hn:ps.length+1<=N.length:=by decide):Uz K mg N (y::ps) (spW mg c K) p:=
 ⟨fun _ _ _ _ h=>IY h fun o ds R X z=>(hp o ds R X z).1,fun _ _ _ _ _ h s=>L5 h s hn hp⟩
def Uz.d {c:Pw2}{y z:Str} (hp:∀o1 o2 ss R X,c o1 o2 ss R X->ss.length=ps.length/\p (IF o1 o2 R X) (Kq N o1 o2 ss)) (hn:ps.length+2<=N.length:=by decide):Uz K mg N (y::z::ps) (spW2 mg c K) p:=
 ⟨fun _ _ _ _ h=>Zgh h fun o1 o2 ds R X z=>(hp o1 o2 ds R X z).1,fun _ _ _ _ _ h s=>Za5 h s hn hp⟩
def _root_.Own.Def.oz (D:Def K mg x st ps) (S:FnScope N ps (JV st))
  (tr:∀(f:Addr) (cdv:Value) (A:Around) (outer:List Env) (s:Shared) (H:Hp) (E:XK),Room k (A.deeper (envOfC x (JV st) s.heap.objs.size f cdv))->
   ∃t,PSs (cxOf CX0 P w K mg base N x (JV st) f cdv A outer s H E).nox (Xl st) t/\SndS K mg (fun _=>E) t p) (u:Uz K mg N ps sp p):Callee P w K mg base CX0 (k+1) x ps sp:=
 D.ok S u.len fun f cdv A outer s H vs Q E hr h=>(tr f cdv A outer s H E hr).elim fun t z=>⟨t,z.1,u.run _ _ _ _ _ h z.2⟩
def _root_.Own.Def.ox (D:Def K mg x st ps) (S:FnScope N ps (JV st))
  (tr:∀(f:Addr) (cdv:Value) (A:Around) (outer:List Env) (s:Shared) (H:Hp) (E:XK),Room k (A.deeper (envOfC x (JV st) s.heap.objs.size f cdv))->
   ∃t,PSs (cxOf (ExcR.CXe P w) P w K mg base N x (JV st) f cdv A outer s H E) (Xl st) t/\SndS K mg (fun _=>E) t p) (u:Uz K mg N ps sp p):Callee P w K mg base (ExcR.CXe P w) (k+1) x ps sp:=
 ExcR.Def.okX D S u.len fun f cdv A outer s H vs Q E hr h=>(tr f cdv A outer s H E hr).elim fun t z=>⟨t,z.1,u.run _ _ _ _ _ h z.2⟩
def DefM.oz (D:DefM K W x q st ps) (S:FnScope N ps (JV st))
  (tr:∀(f:Addr) (cdv:Value) (A:Around) (outer:List Env) (s:Shared) (H:Hp) (E:XK),Room k (A.deeper (envOfC q (JV st) s.heap.objs.size f cdv))->
   ∃t,PSs (cxOf CX0 P w K mg base N q (JV st) f cdv A outer s H E).nox (Xl st) t/\SndS K mg (fun _=>E) t p) (u:Uz K mg N ps sp p):CalleeM P w K mg base CX0 (k+1) W ps sp:=
 D.ok S u.len fun f cdv A outer s H vs Q E hr h=>(tr f cdv A outer s H E hr).elim fun t z=>⟨t,z.1,u.run _ _ _ _ _ h z.2⟩
def DefM.ox (D:DefM K W x q st ps) (S:FnScope N ps (JV st))
  (tr:∀(f:Addr) (cdv:Value) (A:Around) (outer:List Env) (s:Shared) (H:Hp) (E:XK),Room k (A.deeper (envOfC q (JV st) s.heap.objs.size f cdv))->
   ∃t,PSs (cxOf (ExcR.CXe P w) P w K mg base N q (JV st) f cdv A outer s H E) (Xl st) t/\SndS K mg (fun _=>E) t p) (u:Uz K mg N ps sp p):CalleeM P w K mg base (ExcR.CXe P w) (k+1) W ps sp:=
 D.okX S u.len fun f cdv A outer s H vs Q E hr h=>(tr f cdv A outer s H E hr).elim fun t z=>⟨t,z.1,u.run _ _ _ _ _ h z.2⟩
end
section
variable {K:Za}{h:Heap}{mg:Str->Option Value}{x:Str}{C:Addr}
structure EI (K:Za) (x:Str) (C:Addr):Prop where
 a:PySem.W.nsIn K mainGlobals x=some (some (.ref C))
 g:ExcR.ErrGet K C
def ei{d:ClassData}(a:PySem.W.nsIn K mainGlobals x=some (some (.ref C)))(q:PySem.W.excIn K C [.type "ValueError",.type "Exception",.type "BaseException",.type "object"] "ValueError.__new__"=true)(ga:PySem.W.findIn K (.ref C) "__getattribute__"=some (some (.builtin "BaseException.__getattribute__")))(gt:PySem.W.findIn K (.ref C) "__getattr__"=some none)(cl:PySem.W.findIn K (.ref C) "__class__"=some (some (.builtin "object.__class__")))(i:PySem.W.clsIn K C=some d):EI K x C:=⟨a,⟨⟨q⟩,ga,gt,cl,by rw[i];rfl⟩⟩
def EI.c (y:EI K x C) (X:K.In h) (G0:h.Ns mainGlobals mg):ExcR.JU mg x=C:=ExcR.GR (W5 X G0 y.a)
def EI.m (y:EI K x C) (X:K.In h) (G0:h.Ns mainGlobals mg):mg x=some (.ref (ExcR.JU mg x)):=by rw[y.c X G0];exact W5 X G0 y.a
def EI.k (y:EI K x C) (X:K.In h) (G0:h.Ns mainGlobals mg):ExcR.ErrGet K (ExcR.JU mg x):=by rw[y.c X G0];exact y.g
end
end Pu
namespace M
open PySem PySem.Spec PyProof.Rows L2 Own Pu
def AG{f:Int->Int}{ns:List Int}(h:FW (ns.map f) 0):ns.Pairwise fun x y=>f x<=f y:=by
 have key:∀(d i j:Nat) (hj:j<ns.length) (hi:i<ns.length),j=i+d->f ns[i]<=f ns[j]:=fun d=>by
  induction d with
  |zero=>intro i j hj hi e;subst e;exact Q0 _
  |succ d ih=>
   intro i j hj hi e;have h1:=ih i (j-1) (by omega) hi (by omega);have h2:=h.1 j (by omega) (by rw[Yz rfl,Yu];exact hj);rw[XY (by omega),XY hj,Yw,Yt (show j-1<ns.length by omega),Yw,Yt hj]at h2;exact Int.le_trans h1 h2
 rw[Ql];intro i j hi hj hij;exact key (j-i) i j hj hi (by omega)
def R1{f:Int->Int}{ns:List Int}(h:FW (ns.map f) 0):cntN f ns=0:=by
 unfold cntN;refine BO ?_;rw[Q1];exact AG h
def Mv.count {ps:List (Int×Int)}{f:Int->Int}{ns:List Int}{ms:List Mo} (h:Mv ps f ns ms):(ms.length:Int)=cntN f ns:=by
 induction h with
 |done ns hw=>rw[R1 hw];rfl
 |step ns p ms hp h0 hm ih=>
  obtain⟨h1,h2,h3⟩:=hp.2.resolve_left h0;rw[Yu]at h2;rw[XY h2,XY (by omega)]at h3
  have:=CU f h1 h2 h3
  rw[YF];omega
def Mv.step_of {ps:List (Int×Int)}{f:Int->Int}{ns:List Int}{m:Mo}{ms:List Mo} (h:Mv ps f ns (m::ms)):∃p:Nat,m=((p:Int),ns.getD (p-1) 0,ns.getD p 0,exM ps ns p)/\FW (ns.map f) p/\p≠0/\1<=p/\p<ns.length/\f (ns.getD p 0)<f (ns.getD (p-1) 0)/\Mv ps f (UR ns p) ms:=by
 cases h with
 |step _ p _ hp h0 hm=>
  obtain⟨h1,h2,h3⟩:=hp.2.resolve_left h0;rw[Yu]at h2;rw[XY h2,XY (by omega)]at h3;exact⟨p,rfl,hp,h0,h1,h2,h3,hm⟩
def HS{R:Int->Int->Prop}{A B:List Int}{x y:Int}(h:(A++x::y::B).Pairwise R)(hyx:R y x):(A++y::x::B).Pairwise R:=by
 rw[WE]at h ⊢;obtain⟨h1,h2,h3⟩:=h;rw[Wh,Wh]at h2;refine⟨h1,?_,fun a ha b hb=>h3 a ha b ?_⟩
 ·rw[Wh,Wh];refine⟨fun b hb=>?_,fun b hb=>h2.1 b (YJ _ hb),h2.2.2⟩;rcases YA.mp hb with rfl|hb
  ·exact hyx
  ·exact h2.2.1 b hb
 ·simp only[YA]at hb ⊢;rcases hb with hb|hb|hb
  ·exact .inr (.inl hb)
  ·exact .inl hb
  ·exact .inr (.inr hb)
def M6{f:Int->Int}{kvs:List (List Key×V)}{A B:List Int}{x y:Int}{v:V}(nd:(A++x::y::B).Nodup)(hp:(A++x::y::B).Pairwise fun a b=>valV kvs [.inl a,.inl b]=none)(hk:∀a b,(valV kvs [.inl a,.inl b]).isSome=true->f b<f a)(hf:f y<f x) :
  (A++y::x::B).Pairwise (fun a b=>valV (putK kvs [.inl x,.inl y] v) [.inl a,.inl b]=none)/\∀a b,(valV (putK kvs [.inl x,.inl y] v) [.inl a,.inl b]).isSome=true->f b<f a:=by
 have hyx:valV kvs [.inl y,.inl x]=none:=by
  cases e:valV kvs [.inl y,.inl x]with
  |none=>rfl
  |some u=>
   have:=hk y x (by rw[e];rfl)
   omega
 have h1:=HS hp hyx
 have nd2:(A++y::x::B).Nodup:=by
  have:(A++y::x::B).Perm (A++x::y::B):=(List.Perm.swap x y B).append_left A
  exact this.symm.nodup nd
 have h2:(A++y::x::B).Pairwise fun a b=>¬(a=x/\b=y):=by
  rw[W4,YV,YV]at nd2;obtain⟨_,⟨n1,n2,_⟩,n3⟩:=nd2;rw[WE,Wh,Wh];refine⟨?_,⟨fun b hb z=>n1 (by rw[z.1];exact YO),fun b hb z=>n1 (by rw[←z.2];exact YJ _ hb),?_⟩,fun a ha b hb z=>n3 a ha x (by simp) z.1⟩
  ·exact Ve fun a ha b hb z=>n3 a ha x (by simp) z.1
  ·exact Ve fun a ha b hb z=>n2 (by rw[←z.1];exact ha)
 refine⟨(h1.and h2).imp fun {a b} h=>?_,fun a b h=>?_⟩
 ·rw[Tc,Yx fun e=>?_]
  ·exact h.1
  ·simp only[WR,V5,and_true]at e;exact h.2 e
 ·rw[Tc]at h;by_cases e:([.inl a,.inl b]:List Key)=[.inl x,.inl y]
  ·simp only[WR,V5,and_true]at e;rw[e.1,e.2];exact hf
  ·rw[Yx e]at h;exact hk a b h
def endsN(ps:List (Int×Int))(o:List Int):List Int:=o.flatMap (numN ps)
def LexR(ps:List (Int×Int))(o:List Int)(x y:Int):Prop:=rkN ps o x<rkN ps o y\/(rkN ps o x=rkN ps o y/\x<y)
def EX{ps:List (Int×Int)}{o:List Int}(nd:o.Nodup):∀i,i<=o.length->(endsN ps (o.take i)).Nodup/\(∀x,x∈endsN ps (o.take i)↔(1<=x/\x<=ps.length)/\hdN ps x∈o.take i)/\(endsN ps (o.take i)).Pairwise (LexR ps o)
 | 0,_=>by simp[endsN]
 |i+1,hi=>by
  obtain⟨g1,g2,g5⟩:=EX (ps:=ps) nd i (by omega)
  have et:endsN ps (o.take (i+1))=endsN ps (o.take i)++numN ps o[i]:=by
   unfold endsN;rw[YL (by omega),Vw];simp
  rw[et];obtain⟨s1,s2,s3,s4⟩:=Zfq (mine:=numN ps o[i]) nd (by omega) g1 g2 (.refl _);refine⟨s1,s2,WE.mpr ⟨g5,?_,fun x hx y hy=>.inl (s3 x hx y hy)⟩⟩;exact(List.Pairwise.and_mem.mp (EZ ps o[i])).imp fun {x y} h=>.inr ⟨by rw[s4 x h.1,s4 y h.2.1],h.2.2⟩
def Zbx{ps:List (Int×Int)}{o:List Int}(nd:o.Nodup)(hin:∀q∈ps,q.1∈o):(endsN ps o).Perm (runI 1 ps.length)/\(endsN ps o).Pairwise (LexR ps o):=by
 obtain⟨g1,g2,g3⟩:=EX (ps:=ps) nd o.length (Y3 _);rw[Wr]at g1 g2 g3;refine⟨(List.perm_ext_iff_of_nodup g1 (G7 _)).mpr fun x=>?_,g3⟩;rw[g2 x,runI_mem];refine⟨fun h=>h.1,fun h=>⟨h,?_⟩⟩;have hx:(x-1).toNat<ps.length:=by omega
 unfold hdN;rw[Yw,Yt hx];exact hin _ (YK hx)
def GZ{ps:List (Int×Int)}{o:List Int}:∀{a b:List Int},a.Perm b->a.Pairwise (LexR ps o)->b.Pairwise (LexR ps o)->a=b
 |[],b,h,_,_=>(List.nil_perm.mp h).symm
 |x::a,[],h,_,_=>absurd h.length_eq (by simp)
 |x::a,y::b,h,h1,h2=>by
  rw[Wh]at h1 h2
  have e:x=y:=by
   rcases YA.mp (h.mem_iff.mp YO)with e|e
   ·exact e
   ·rcases YA.mp (h.mem_iff.mpr YO)with e'|e'
    ·exact e'.symm
    ·have p1:=h1.1 y e';have p2:=h2.1 x e;unfold LexR at p1 p2;omega
  subst e;rw[GZ (List.Perm.cons_inv h) h1.2 h2.2]
def Mm{ps:List (Int×Int)}{o ns:List Int}(h1:FW (ns.map (rkN ps o)) 0)(h2:ns.Pairwise fun x y=>rkN ps o x=rkN ps o y->x<y):ns.Pairwise (LexR ps o):=
 ((AG h1).and h2).imp fun {x y} h=>by
  unfold LexR;by_cases e:rkN ps o x=rkN ps o y
  ·exact .inr ⟨e,h.2 e⟩
  ·exact .inl (by have:=h.1;omega)
def Zfw(ps:List (Int×Int))(o:List Int):(o.flatMap fun h=>ps.filter fun q=>decide (q.1=h))=fldN ps (endsN ps o):=by
 unfold fldN endsN;rw[List.map_flatMap];congr 1;funext h;unfold numN;rw[YZ]
 have e0:ps=(List.range ps.length).map fun i=>ps.getD i (0,0):=by
  refine Vc (by simp) fun i h1 h2=>?_;rw[Vd,V3,Yw,Yt h1];rfl
 have e1:ps.filter (fun q=>decide (q.1=h))=((List.range ps.length).map fun i=>ps.getD i (0,0)).filter fun q=>decide (q.1=h):=by rw[←e0]
 rw[e1,List.filter_map];refine WK fun i hi=>?_;show ps.getD i (0,0)=ps.getD ((0:Int)+(i:Int)+1-1).toNat (0,0);rw[show((0:Int)+(i:Int)+1-1).toNat=i by omega]
end M
namespace Pu
open PySem PySem.Spec PyProof.Rows L2 Own
def NoFld.of {m:Str}:∀{xs:List Str},(xs.all fun x=>!(m==x))=true->NoFld m xs
 |[],_,_=>rfl
 |_::_,_,[]=>rfl
 |x::xs,h,v::vs=>by
  rw[QW,Wf]at h;show(match m==x with|true=>some v|false=>(xs.zip vs).lookup m)=none
  rw[show(m==x)=false by simpa using h.1];exact NoFld.of h.2 vs
def FldAt.of {f:Str} (h0:(f==f)=true):∀{xs:List Str}{j:Nat},((xs.take j).all fun x=>!(f==x))=true->xs[j]?=some f->FldAt f xs j
 |[],_,_,e,_,_=>by simp at e
 |_::_,_,_,_,[],e=>by cases e
 |x::xs,0,_,e,v::vs,_=>by
  simp at e;subst e;show(match x==x with|true=>some v|false=>(xs.zip vs).lookup x)=some v
  rw[h0]
 |x::xs,j+1,h,e,v::vs,l=>by
  rw[Vv,QW,Wf]at h;show(match f==x with|true=>some v|false=>(xs.zip vs).lookup f)=(v::vs)[j+1]?
  rw[show(f==x)=false by simpa using h.1];exact FldAt.of h0 (j:=j) h.2 (by simpa using e) vs (by simpa using l)
def PutAt.of {f:Str}:∀{xs:List Str},(xs.all fun x=>decide (x≠f))=true->PutAt f xs
 |[],_,[],_,_=>rfl
 |[],_,_::_,_,e=>by cases e
 |_::_,_,[],_,e=>by cases e
 |x::xs,h,v::vs,y,e=>by
  rw[QW,Wf]at h;show(if x=f then(x,y)::xs.zip vs else(x,v)::putF f y (xs.zip vs))=(x,v)::(xs++[f]).zip (vs++[y]);rw[Yx (Y0 h.1),PutAt.of h.2 vs y (by simpa using e)]
end Pu
namespace T
open PySem PySem.Spec PyProof.Rows L2
def top(i:Nat):Stmt:=PySem.Challenge.pw_stripmeld_k37_whole_exchanges.main.body.getD i (.Pass ⟨0,0,0,0⟩)
abbrev AH:Stmt:=top 23
def OO:FnScope ["holder"] ["holder"] (JV AH):=Pu.fs
abbrev F2:Stmt:=top 24
def LL:FnScope ["width"] ["width"] (JV F2):=Pu.fs
abbrev Br:Stmt:=top 25
def SN:FnScope ["strips","holder","width"] ["strips"] (JV Br):=Pu.fs
abbrev AQ:Stmt:=top 26
def OE:FnScope ["strips"] ["strips"] (JV AQ):=Pu.fs
abbrev A0:Stmt:=top 27
def Zff:FnScope ["strips","order"] ["strips","order"] (JV A0):=Pu.fs
abbrev Fi:Stmt:=top 28
def Bl:FnScope ["strips","order","field","holder"] ["strips","order"] (JV Fi):=Pu.fs
abbrev Av:Stmt:=top 30
def Py:FnScope ["strips","ahead","behind","to_pass","cost","holder","width"] ["strips","ahead","behind"] (JV Av):=Pu.fs
abbrev B8:Stmt:=top 32
def Zhk:FnScope ["strips"] ["strips"] (JV B8):=Pu.fs
abbrev BL:Stmt:=top 33
def AJ:FnScope ["strips","numbers","place","left","right"] ["strips","numbers","place"] (JV BL):=Pu.fs
abbrev Fc:Stmt:=top 34
def Zaa:FnScope ["numbers","place"] ["numbers","place"] (JV Fc):=Pu.fs
abbrev BN:Stmt:=top 35
def D9:FnScope ["numbers","ranks","place"] ["numbers","ranks"] (JV BN):=Pu.fs
abbrev BJ:Stmt:=top 36
def Pv:FnScope ["strips","order","ranks","numbers","moves","place"] ["strips","order"] (JV BJ):=Pu.fs
abbrev SW:Stmt:=top 37
def Lw:FnScope ["strips","place"] ["strips","place"] (JV SW):=Pu.fs
abbrev Ag:Stmt:=top 38
def To:FnScope ["strips","places","numbers","cost","place"] ["strips","places"] (JV Ag):=Pu.fs
abbrev BP:Stmt:=top 41
def TJ:FnScope ["paths","left","wishes","longer","reached","path","holder"] ["paths","left","wishes"] (JV BP):=Pu.fs
abbrev Fp:Stmt:=top 42
def P3:FnScope ["least","holders","wishes","paths","left","rings","reached"] ["least","holders","wishes"] (JV Fp):=Pu.fs
abbrev AX:Stmt:=top 43
def TZ:FnScope ["holders","wishes","ring","least","found"] ["holders","wishes"] (JV AX):=Pu.fs
abbrev Bb:Stmt:=top 44
def DS:FnScope ["strips","wishes","ring"] ["strips","wishes"] (JV Bb):=Pu.fs
abbrev As:Stmt:=top 46
def Zcy:FnScope ["strips","place"] ["strips","place"] (JV As):=Pu.fs
abbrev Aj:Stmt:=top 47
def GH:FnScope ["strips","place","holder","strip"] ["strips","place","holder"] (JV Aj):=Pu.fs
abbrev FV:Stmt:=top 48
def CC:FnScope ["strips","place","width","strip"] ["strips","place","width"] (JV FV):=Pu.fs
abbrev FY:Stmt:=top 49
def Ac:FnScope ["strips","place","left","right"] ["strips","place"] (JV FY):=Pu.fs
abbrev F4:Stmt:=top 50
def Zcb:FnScope ["wishes","ahead","behind"] ["wishes","ahead","behind"] (JV F4):=Pu.fs
abbrev BX:Stmt:=top 51
def Ro:FnScope ["wishes","ahead","behind"] ["wishes","ahead","behind"] (JV BX):=Pu.fs
abbrev AN:Stmt:=top 53
def Nt:FnScope ["strips","holders","costs","ahead","behind"] ["strips"] (JV AN):=Pu.fs
abbrev FU:Stmt:=top 54
def NG:FnScope ["holders","sets","holder"] ["holders"] (JV FU):=Pu.fs
abbrev Bk:Stmt:=top 55
def Za4:FnScope ["members","holder"] ["members","holder"] (JV Bk):=Pu.fs
abbrev Az:Stmt:=top 56
def OC:FnScope ["members","holder","wishes"] ["members","holder","wishes"] (JV Az):=Pu.fs
abbrev Fg:Stmt:=top 57
def MX:FnScope ["members","holder","wishes"] ["members","holder","wishes"] (JV Fg):=Pu.fs
abbrev Ai:Stmt:=top 58
def D6:FnScope ["members","last","least","pairs","others"] ["members","last","least","pairs"] (JV Ai):=Pu.fs
abbrev Bh:Stmt:=top 59
def IC:FnScope ["members","first","least","pairs","others"] ["members","first","least","pairs"] (JV Bh):=Pu.fs
abbrev Bf:Stmt:=top 60
def S8:FnScope ["strips","wishes","pairs","least","members","lasts"] ["strips","wishes","pairs"] (JV Bf):=Pu.fs
abbrev FF:Stmt:=top 61
def EJ:FnScope ["strips","wishes","least"] ["strips","wishes"] (JV FF):=Pu.fs
abbrev FT:Stmt:=top 62
def Pf:FnScope ["strips","wishes","pairs","least","members","order","firsts","best"] ["strips","wishes"] (JV FT):=Pu.fs
abbrev Bu:Stmt:=top 63
def RR:FnScope ["strips","wishes"] ["strips","wishes"] (JV Bu):=Pu.fs
abbrev Fm:Stmt:=inClass (top 66) 0
def Zhu:FnScope ["self","strips"] ["self","strips"] (JV Fm):=Pu.fs
abbrev Fq:Stmt:=inClass (top 66) 1
def Za1:FnScope ["self"] ["self"] (JV Fq):=Pu.fs
abbrev BH:Stmt:=inClass (top 66) 2
def OF:FnScope ["self"] ["self"] (JV BH):=Pu.fs
abbrev SS:Stmt:=inClass (top 66) 4
def Mq:FnScope ["self"] ["self"] (JV SS):=Pu.fs
abbrev BW:Stmt:=inClass (top 66) 5
def Ow:FnScope ["self","deed","field","wishes"] ["self","deed","field","wishes"] (JV BW):=Pu.fs
abbrev AU:Stmt:=inClass (top 66) 6
def DR:FnScope ["self","place","holder","field"] ["self","place","holder"] (JV AU):=Pu.fs
abbrev A1:Stmt:=inClass (top 66) 7
def Gi:FnScope ["self","place","width","field"] ["self","place","width"] (JV A1):=Pu.fs
abbrev A4:Stmt:=inClass (top 66) 8
def GP:FnScope ["self","place","field"] ["self","place"] (JV A4):=Pu.fs
abbrev FJ:Stmt:=inClass (top 66) 9
def HC:FnScope ["self","ahead","behind","wishes"] ["self","ahead","behind"] (JV FJ):=Pu.fs
abbrev AR:Stmt:=inClass (top 66) 10
def Dt:FnScope ["self","ahead","behind","wishes"] ["self","ahead","behind"] (JV AR):=Pu.fs
abbrev SM:Stmt:=inClass (top 66) 11
def Zfn:FnScope ["self"] ["self"] (JV SM):=Pu.fs
abbrev FR:Stmt:=inClass (top 66) 14
def LA:FnScope ["self"] ["self"] (JV FR):=Pu.fs
abbrev FE:Stmt:=inClass (top 66) 15
def Zb2:FnScope ["self"] ["self"] (JV FE):=Pu.fs
abbrev FH:Stmt:=inClass (top 66) 17
def Zfa:FnScope ["self"] ["self"] (JV FH):=Pu.fs
abbrev F8:Stmt:=inClass (top 66) 18
def Zf7:FnScope ["self"] ["self"] (JV F8):=Pu.fs
abbrev Fb:Stmt:=top 68
def Oo:FnScope ["_law_script","_law_k"] ["_law_script","_law_k"] (JV Fb):=Pu.fs
abbrev Ba:Stmt:=top 69
def Mz:FnScope ["_law_found"] ["_law_found"] (JV Ba):=Pu.fs
abbrev A6:Stmt:=top 70
def GK:FnScope ["_law_cell","_law_place_here","_law_first"] ["_law_cell","_law_place_here"] (JV A6):=Pu.fs
abbrev FN:Stmt:=top 71
def Zam:FnScope ["_law_script","_law_k"] ["_law_script","_law_k"] (JV FN):=Pu.fs
abbrev BS:Stmt:=top 72
def F5:FnScope ["_law_cell","_law_wide","_law_least"] ["_law_cell"] (JV BS):=Pu.fs
abbrev AF:Stmt:=top 73
def Zau:FnScope ["_law_menu_here","_law_k"] ["_law_menu_here","_law_k"] (JV AF):=Pu.fs
abbrev Ft:Stmt:=top 74
def Gj:FnScope ["_law_found","_law_due","_law_k"] ["_law_found","_law_due"] (JV Ft):=Pu.fs
abbrev B0:Stmt:=top 75
def AC:FnScope ["_law_found","_law_due","_law_k","_law_j"] ["_law_found","_law_due"] (JV B0):=Pu.fs
abbrev Fx:Stmt:=top 76
def El:FnScope ["_law_strips","_law_owners"] ["_law_strips"] (JV Fx):=Pu.fs
abbrev F7:Stmt:=top 77
def AI:FnScope ["_law_order","_law_wishes","_law_one","_law_two"] ["_law_order","_law_wishes"] (JV F7):=Pu.fs
abbrev Ae:Stmt:=top 78
def PY:FnScope ["_law_holders","_law_wishes","_law_left","_law_turn","_law_inside","_law_behind"] ["_law_holders","_law_wishes"] (JV Ae):=Pu.fs
abbrev By:Stmt:=top 79
def F3:FnScope ["_law_strips","_law_order","_law_numbers","_law_holder_here"] ["_law_strips","_law_order"] (JV By):=Pu.fs
abbrev AD:Stmt:=top 80
def T8:FnScope ["_law_strips","_law_order","_law_many","_law_k","_law_j"] ["_law_strips","_law_order"] (JV AD):=Pu.fs
abbrev A3:Stmt:=top 81
def Ex:FnScope ["_law_village","_law_past","_law_pair_here"] ["_law_village","_law_past"] (JV A3):=Pu.fs
abbrev B3:Stmt:=top 82
def Sy:FnScope ["_law_move","_law_numbers","_law_strips","_law_ranks","_law_part","_law_place_here","_law_k"] ["_law_move","_law_numbers","_law_strips","_law_ranks"] (JV B3):=Pu.fs
abbrev FO:Stmt:=top 83
def Pl:FnScope ["_law_told","_law_strips","_law_order","_law_ranks","_law_numbers","_law_met","_law_total","_law_move"] ["_law_told","_law_strips","_law_order"] (JV FO):=Pu.fs
abbrev FD:Stmt:=top 84
def TL:FnScope ["_law_strips","_law_deed_here","_law_place_here","_law_holder_here","_law_width_here","_law_parts"] ["_law_strips","_law_deed_here"] (JV FD):=Pu.fs
abbrev Bv:Stmt:=top 85
def Ih:FnScope ["_law_wishes","_law_deed_here","_law_pair_here"] ["_law_wishes","_law_deed_here"] (JV Bv):=Pu.fs
abbrev AA:Stmt:=top 86
def Fy:FnScope ["_law_now","_law_deed_here","_law_step_here"] ["_law_now","_law_deed_here"] (JV AA):=Pu.fs
abbrev BR:Stmt:=top 87
def Zcd:FnScope ["_law_village","_law_deed_here"] ["_law_village","_law_deed_here"] (JV BR):=Pu.fs
abbrev BZ:Stmt:=top 88
def F9:FnScope ["_law_village","_law_past","_law_deed_here","_law_step_here","_law_found"] ["_law_village","_law_past","_law_deed_here"] (JV BZ):=Pu.fs
abbrev Ax:Stmt:=top 89
def KN:FnScope ["_law_script","_law_menu_here","_law_many","_law_rest","_law_strips","_law_k","_law_cell","_law_width_here"] ["_law_script","_law_menu_here","_law_many"] (JV Ax):=Pu.fs
abbrev BU:Stmt:=top 90
def Oa:FnScope ["_law_script","_law_most"] ["_law_script","_law_most"] (JV BU):=Pu.fs
abbrev BI:Stmt:=top 91
def Zbb:FnScope ["_law_cell","_law_good"] ["_law_cell","_law_good"] (JV BI):=Pu.fs
abbrev AB:Stmt:=top 92
def Zb4:FnScope ["_law_cell","_law_strips"] ["_law_cell","_law_strips"] (JV AB):=Pu.fs
abbrev BV:Stmt:=top 93
def Nm:FnScope ["_law_cell","_law_menu_here","_law_pool","_law_one","_law_two","_law_ahead"] ["_law_cell","_law_menu_here"] (JV BV):=Pu.fs
abbrev BA:Stmt:=top 94
def KS:FnScope ["_law_script","_law_menu_here","_law_seed","_law_many","_law_deeds","_law_k","_law_pair_here"] ["_law_script","_law_menu_here"] (JV BA):=Pu.fs
abbrev Ab:Stmt:=top 95
def L6:FnScope ["_law_cell","_law_strips","_law_place_here"] ["_law_cell","_law_strips","_law_place_here"] (JV Ab):=Pu.fs
abbrev AV:Stmt:=top 96
def Po:FnScope ["_law_cell","_law_menu_here","_law_now","_law_kind","_law_rest","_law_place_here","_law_more","_law_pair_here"] ["_law_cell","_law_menu_here","_law_now"] (JV AV):=Pu.fs
abbrev Kw:Stmt:=top 97
def Km:FnScope ["_law_script","_law_menu_here","_law_strips","_law_village","_law_past","_law_deed_here","_law_cell","_law_order","_law_told","_law_end","_law_walk"] ["_law_script"] (JV Kw):=Pu.fs
structure Glob (K:Za) (mg:Str->Option Value):Prop where
 any:mg "any"=none
 bool:mg "bool"=none
 int:mg "int"=none
 isinstance:mg "isinstance"=none
 len:mg "len"=none
 list:mg "list"=none
 max:mg "max"=none
 min:mg "min"=none
 range:mg "range"=none
 set:mg "set"=none
 sorted:mg "sorted"=none
 sum:mg "sum"=none
 tuple:mg "tuple"=none
 HOLDERS:∃u,mg "HOLDERS"=some u/\RelV (.int 10) u
 STRIPS:∃u,mg "STRIPS"=some u/\RelV (.int 40) u
 WIDEST:∃u,mg "WIDEST"=some u/\RelV (.int 1000) u
 MOST_WISHES:∃u,mg "MOST_WISHES"=some u/\RelV (.int 20) u
 MOST_DEEDS:∃u,mg "MOST_DEEDS"=some u/\RelV (.int 100) u
 m_TooManyStrips:mg "TooManyStrips"=some (.ref (ExcR.JU mg "TooManyStrips"))
 g_TooManyStrips:ExcR.ErrGet K (ExcR.JU mg "TooManyStrips")
 m_BadHolder:mg "BadHolder"=some (.ref (ExcR.JU mg "BadHolder"))
 g_BadHolder:ExcR.ErrGet K (ExcR.JU mg "BadHolder")
 m_BadWidth:mg "BadWidth"=some (.ref (ExcR.JU mg "BadWidth"))
 g_BadWidth:ExcR.ErrGet K (ExcR.JU mg "BadWidth")
 m_NoStrip:mg "NoStrip"=some (.ref (ExcR.JU mg "NoStrip"))
 g_NoStrip:ExcR.ErrGet K (ExcR.JU mg "NoStrip")
 m_BadOrder:mg "BadOrder"=some (.ref (ExcR.JU mg "BadOrder"))
 g_BadOrder:ExcR.ErrGet K (ExcR.JU mg "BadOrder")
 m_OwnStrip:mg "OwnStrip"=some (.ref (ExcR.JU mg "OwnStrip"))
 g_OwnStrip:ExcR.ErrGet K (ExcR.JU mg "OwnStrip")
 m_BadPart:mg "BadPart"=some (.ref (ExcR.JU mg "BadPart"))
 g_BadPart:ExcR.ErrGet K (ExcR.JU mg "BadPart")
 m_UnlikeHolders:mg "UnlikeHolders"=some (.ref (ExcR.JU mg "UnlikeHolders"))
 g_UnlikeHolders:ExcR.ErrGet K (ExcR.JU mg "UnlikeHolders")
 m_TooWide:mg "TooWide"=some (.ref (ExcR.JU mg "TooWide"))
 g_TooWide:ExcR.ErrGet K (ExcR.JU mg "TooWide")
 m_LikeHolders:mg "LikeHolders"=some (.ref (ExcR.JU mg "LikeHolders"))
 g_LikeHolders:ExcR.ErrGet K (ExcR.JU mg "LikeHolders")
 m_WishStands:mg "WishStands"=some (.ref (ExcR.JU mg "WishStands"))
 g_WishStands:ExcR.ErrGet K (ExcR.JU mg "WishStands")
 m_TooManyWishes:mg "TooManyWishes"=some (.ref (ExcR.JU mg "TooManyWishes"))
 g_TooManyWishes:ExcR.ErrGet K (ExcR.JU mg "TooManyWishes")
 m_NoWish:mg "NoWish"=some (.ref (ExcR.JU mg "NoWish"))
 g_NoWish:ExcR.ErrGet K (ExcR.JU mg "NoWish")
 m_BookFull:mg "BookFull"=some (.ref (ExcR.JU mg "BookFull"))
 g_BookFull:ExcR.ErrGet K (ExcR.JU mg "BookFull")
 m_NothingDone:mg "NothingDone"=some (.ref (ExcR.JU mg "NothingDone"))
 g_NothingDone:ExcR.ErrGet K (ExcR.JU mg "NothingDone")
 m_Village:mg "Village"=some (.ref (ExcR.JU mg "Village"))
 cl_Village:Cls K (ExcR.JU mg "Village")
 n_Village_book:NoAttr K (ExcR.JU mg "Village") "book"
 n_Village_fields:NoAttr K (ExcR.JU mg "Village") "fields"
 n_Village_wished:NoAttr K (ExcR.JU mg "Village") "wished"
def Na:Pu.FldAt "book" ["book","fields","wished"] 0:=.of (by decide +kernel) (by decide +kernel) rfl
def Zcq:Pu.PutAt "book" []:=.of (by decide +kernel)
def Al:Pu.FldAt "fields" ["book","fields","wished"] 1:=.of (by decide +kernel) (by decide +kernel) rfl
def Lp:Pu.PutAt "fields" ["book"]:=.of (by decide +kernel)
def Au:Pu.FldAt "wished" ["book","fields","wished"] 2:=.of (by decide +kernel) (by decide +kernel) rfl
def Ze6:Pu.PutAt "wished" ["book","fields"]:=.of (by decide +kernel)
def KB:Pu.NoFld "strips" ["book","fields","wished"]:=.of (by decide +kernel)
def Pt:Pu.NoFld "wishes" ["book","fields","wished"]:=.of (by decide +kernel)
def TN:Pu.NoFld "check_room" ["book","fields","wished"]:=.of (by decide +kernel)
def TH:Pu.NoFld "enter" ["book","fields","wished"]:=.of (by decide +kernel)
def LM:Pu.NoFld "sell" ["book","fields","wished"]:=.of (by decide +kernel)
def Zdz:Pu.NoFld "part" ["book","fields","wished"]:=.of (by decide +kernel)
def Zd9:Pu.NoFld "unite" ["book","fields","wished"]:=.of (by decide +kernel)
def IT:Pu.NoFld "wish" ["book","fields","wished"]:=.of (by decide +kernel)
def Zb7:Pu.NoFld "drop" ["book","fields","wished"]:=.of (by decide +kernel)
def Zaq:Pu.NoFld "take_back" ["book","fields","wished"]:=.of (by decide +kernel)
def Bz:Pu.NoFld "order" ["book","fields","wished"]:=.of (by decide +kernel)
def Zch:Pu.NoFld "cost" ["book","fields","wished"]:=.of (by decide +kernel)
def Zee:Pu.NoFld "moves" ["book","fields","wished"]:=.of (by decide +kernel)
def Rt:Pu.NoFld "melded" ["book","fields","wished"]:=.of (by decide +kernel)
end T
namespace M
open PySem PySem.Spec PyProof.Rows L2 Own Pu
def Zgg:Pc:=fun ds R X=>∃h:Int,ds=[.int h]/\UW (Tr h) X (R (.sh .non))
def AO(h:Int):Option Str:=if 1<=h/\h<=1000 then none else some "BadWidth"
def Rg:Pc:=fun ds R X=>∃h:Int,ds=[.int h]/\UW (AO h) X (R (.sh .non))
def EL(_:Za):Sp:=fun vs H Q _=>∃(l:Addr) (ps:List (Int×Int)),vs=[.ref l]/\LAt XQ H l ps/\Field ps/\ps.length<=50/\
 ∀(q:Addr) (H':Hp),H q=none->Same H H'->H' q=some (.lst ((Ul ps).map V.int))->Q (.ref q) H'
def Ee:Pc:=fun ds R _=>∃ps:List (Int×Int),ds=[.lst (ps.map prD)]/\Field ps/\ps.length<=50/\R (.own ((Ul ps).map D.int))
def Nk{P:Program}{w:World}{K:Za}{mg:Str->Option Value}{base:Heap}(C:Callee P w K mg base CX0 1 "holders_of" ["strips"] (EL K)):Callee P w K mg base CX0 1 "holders_of" ["strips"] (Pu.spOf mg Ee K):=Zdb C fun ds R X vs H Q E r hc hQ hX=>by
 obtain⟨ps,rfl,hF,hz,hR⟩:=hc;obtain⟨v,rfl,r1⟩:=r.one_inv;obtain⟨a,rfl,ha⟩:=r1.pairs_inv;exact⟨a,ps,rfl,ha,hF,hz,fun q H' nq S h=>hQ _ _ H' hR S (Zha nq h)⟩
def Zaf:Pc:=fun ds R _=>∃(ps:List (Int×Int)) (x y:Int),ds=[.lst (ps.map prD),.int x,.int y]/\Field ps/\R (.sh (.int (pcM ps x y ps.length)))
def Zgv:Pc:=fun ds R _=>∃ps:List (Int×Int),ds=[.lst (ps.map prD)]/\ps.length<=1000/\R (.own ((runI 1 ps.length).map D.int))
def Zcn:Pc:=fun ds R _=>∃(ps:List (Int×Int)) (ns:List Int) (p:Int),ds=[.lst (ps.map prD),.lst (ns.map D.int),.int p]/\Field ps/\(∀n∈ns,1<=n/\n<=ps.length)/\1<=p/\p<ns.length/\R (.sh (.int (exM ps ns p.toNat)))
def L9:Pc:=fun ds R _=>∃(ns:List Int) (p:Int),ds=[.lst (ns.map D.int),.int p]/\1<=p/\p<ns.length/\ns.length<=1000/\R (.own ((UR ns p.toNat).map D.int))
def Oc:Pc:=fun ds R _=>∃ns rs:List Int,ds=[.lst (ns.map D.int),.lst (rs.map D.int)]/\(∀m∈ns,1<=m/\m<=rs.length)/\ns.length<=1000/\∀p:Nat,FW (ns.map fun m=>rs.getD (m-1).toNat 0) p->R (.sh (.int p))
def Rn:Pc:=fun ds R X=>∃(ps:List (Int×Int)) (p:Int),ds=[.lst (ps.map prD),.int p]/\(if p<1\/(ps.length:Int)<=p then X "NoStrip" else R (.sh .non))
def LW(ws:List (Int×Int))(l:Int)(ps:List (List Int))(ls:List Int)(lg:List (List Int)):Prop:=∀q∈lg,∃p∈ps,∃h∈ls,q=p++[h]/\(U9 l p,h)∈ws
def Rl:Pc:=fun ds R _=>∃(l:Int) (ps:List (List Int)) (ls:List Int) (ws:List (Int×Int)),ds=[.lst (ps.map (em l)),.lst (ls.map D.int),.lst (ws.map prD)]/\(∀p∈ps,p.length<=100)/\ls.length<=100/\
 ∀lg,LW ws l ps ls lg->lg.length<=ls.length->R (.own (lg.map (em l)))
def Zhg:Pc:=fun ds R X=>∃(ps:List (Int×Int)) (p:Int),ds=[plD ps,.int p]/\UW (NQ ps p) X (R (.sh .non))
def Zbo:Pc:=fun ds R X=>∃(ws:List (Int×Int)) (a b:Int),ds=[plD ws,.int a,.int b]/\ws.length<=1000/\UW (Xa ws a b) X (R (.own ((K9 ws a b).map prD)))
def Zbi:Pc:=fun ds R _=>∃hs:List Int,ds=[.lst (hs.map D.int)]/\hs.length<=10/\R (.own ((U2 hs).map tD))
def Zbr:Pc:=fun ds R _=>∃(ms:List Int) (h:Int),ds=[tD ms,.int h]/\ms.length<=1000/\R (.sh (tD (Uq ms h)))
def Zag:Pc:=fun ds R _=>∃(ms:List Int) (h:Int) (ws:List (Int×Int)),ds=[tD ms,.int h,.lst (ws.map prD)]/\ws.length<=50/\R (.sh (.bl (K5 ws ms h)))
def Zbq:Pc:=fun ds R _=>∃(ms:List Int) (h:Int) (ws:List (Int×Int)),ds=[tD ms,.int h,.lst (ws.map prD)]/\ws.length<=50/\R (.sh (.bl (firstM ws ms h)))
def R7(C:Addr):Pc:=fun ds R _=>∃(bk:List (Str×List Int)) (fs ws:List (List (Int×Int))) (f:List (Int×Int)),ds=[vilD C bk (fs++[f]) ws]/\R (.own (f.map prD))
def Zc5(C:Addr):Pc:=fun ds R _=>∃(bk:List (Str×List Int)) (fs ws:List (List (Int×Int))) (f:List (Int×Int)),ds=[vilD C bk fs (ws++[f])]/\R (.own (f.map prD))
def PD(bk:List (Str×List Int)):Option Str:=if 100<=bk.length then some "BookFull" else none
def Zf0(C:Addr):Pc:=fun ds R X=>∃(bk:List (Str×List Int)) (fs ws:List (List (Int×Int))),ds=[vilD C bk fs ws]/\UW (PD bk) X (R (.sh .non))
def L4(C:Addr):Pw:=fun o ss R _=>∃(x b1 b2 b3:Addr) (bk:List (Str×List Int)) (fs ws:List (List (Int×Int))) (q:Str×List Int) (f w:List (Int×Int)),o=vO C x b1 b2 b3 bk fs ws/\ss=[.sh (dD q),.sh (plD f),.sh (plD w)]/\bk.length<=1000/\fs.length<=1000/\ws.length<=1000/\
 R (vO C x b1 b2 b3 (bk++[q]) (fs++[f]) (ws++[w])) (.int (bk.length+1))
def Zg2(C:Addr):Pw:=fun o ss R X=>∃(x b1 b2 b3:Addr) (bk:List (Str×List Int)) (fs ws:List (List (Int×Int))),o=vO C x b1 b2 b3 bk fs ws/\ss=[]/\fs.length=bk.length+1/\ws.length=bk.length+1/\
 (bk=[]->X (vO C x b1 b2 b3 bk fs ws) "NothingDone")/\∀b0 q,bk=b0++[q]->R (vO C x b1 b2 b3 b0 fs.dropLast ws.dropLast) (dD q)
def Lq:Pc:=fun ds R _=>∃(ns:List Int) (k:Int),ds=[.scr ns,.int k]/\0<=k/\R (.sh (.int (ns.getD k.toNat 0)))
def LB:Pc:=fun ds R _=>∃i:Int,ds=[.int i]/\R (.sh (.bl true))
def Mt:Pc:=fun ds R _=>∃c p:Int,ds=[.int c,.int p]/\R (.sh (.int (mixP c p)))
def Zd1:Pc:=fun ds R _=>∃c:Int,ds=[.int c]/\∀m,Menu m->R (.own (m.map D.int))
def Zef:Pc:=fun ds R _=>∃(m:List Int) (k:Int),ds=[.lst (m.map D.int),.int k]/\Menu m/\∀h:Int,1<=h->h<=10->h=Ze4 m k->R (.sh (.int h))
def Zdy:Pc:=fun ds R _=>∃ps:List (Int×Int),ds=[.lst (ps.map prD)]/\ps.length<=50/\R (.own ((Ul ps).map D.int))
def badM(os:List Int)(q:Int×Int):Bool:=decide (q.1∈os)&&(decide (q.2∈os)&&decide (os.idxOf q.2<os.idxOf q.1))
def Zf3:Pc:=fun ds R _=>∃(os:List Int) (ws:List (Int×Int)),ds=[.lst (os.map D.int),.lst (ws.map prD)]/\((∀q∈ws,badM os q=false)->R (.sh (.bl true)))/\((∃q∈ws,badM os q=true)->R (.sh (.bl false)))
def Lz:Pc:=fun ds R _=>∃(hs:List Int) (ws:List (Int×Int)),ds=[.lst (hs.map D.int),.lst (ws.map prD)]/\hs.length<=50/\ws.length<=50/\R (.sh (.bl (decide (UA ws hs hs.length=[]))))
def Zbt:Pc:=fun ds R _=>∃(ps:List (Int×Int)) (o:List Int),ds=[plD ps,.lst (o.map D.int)]/\ps.length<=50/\o.length<=50/\R (.own ((o.flatMap (numN ps)).map D.int))
def rowK(ps:List (Int×Int))(o:List Int):List (Int×Int):=ps.map fun q=>(((o.idxOf q.1:Nat):Int),1)
def Za9:Pc:=fun ds R _=>∃(ps:List (Int×Int)) (o:List Int),ds=[plD ps,.lst (o.map D.int)]/\ps.length<=50/\(∀q∈ps,q.1∈o)/\R (.sh (.int (cntN (rkN ps o) (runI 1 ps.length))))
def Mb:Pq:=fun ss R _=>∃(f:List (Int×Int)) (x:Dd),ss=[.sh (plD f),.sh (dD x.q)]/\x.land=true/\f.length<=40/\R (.own [.int (codeN (x.err f [])),plD (x.fld' f)])
def M8:Pq:=fun ss R _=>∃(w:List (Int×Int)) (x:Dd),ss=[.sh (plD w),.sh (dD x.q)]/\x.land=false/\w.length<=20/\R (.own [.int (codeN (x.err [] w)),plD (x.wsh' w)])
def RH:Pc:=fun ds R _=>∃c g:Int,ds=[.int c,.int g]/\∀v:Int,R (.sh (.int v))
def IW:Pc:=fun ds R _=>∃(c:Int) (ps:List (Int×Int)),ds=[.int c,plD ps]/\ps.length<=1000/\∀v:Int,R (.sh (.int v))
def Zgj:Pc:=fun ds R _=>∃(c:Int) (ps:List (Int×Int)) (p:Int),ds=[.int c,plD ps,.int p]/\ps.length<=1000/\Field ps/\∀v:Int,R (.sh (.int v))
def Zd0:Pc:=fun ds R X=>∃ps:List (Int×Int),ds=[plD ps]/\ps.length<=1000/\UW (Tt ps) X (R (.sh .non))
def Zg4:Pc:=fun ds R X=>∃(ps:List (Int×Int)) (os:List Int),ds=[plD ps,.lst (os.map D.int)]/\Field ps/\ps.length<=50/\os.length<64/\UW (Th ps os) X (R (.sh .non))
def Zbd:Pc:=fun ds R X=>∃(ps:List (Int×Int)) (pl:List Int),ds=[.lst (ps.map prD),.lst (pl.map D.int)]/\Field ps/\ps.length<=50/\pl.length<=1000/\
 (match XU ps pl (runI 1 ps.length,0)with|some st=>R (.sh (.tup [.lst (st.1.map D.int),.int st.2]))|none=>X "NoStrip")
def Rr:Pc:=fun ds R _=>∃(l:Int) (hs:List Int) (ws:List (Int×Int)),ds=[.int l,.lst (hs.map D.int),.lst (ws.map prD)]/\hs.length<=50/\(∀t,¬Td hs ws l t)/\R (.sh (.lst []))
def MN:Pc:=fun ds R X=>∃(ps:List (Int×Int)) (p h:Int),ds=[plD ps,.int p,.int h]/\ps.length<=1000/\UW (Xj ps p h) X (R (.own (K8 ps p h |>.map prD)))
def Zet:Pc:=fun ds R X=>∃(ps:List (Int×Int)) (p w:Int),ds=[plD ps,.int p,.int w]/\ps.length<=1000/\UW (Xf ps p w) X (R (.own ((Ka ps p w).map prD)))
def Oh:Pc:=fun ds R X=>∃(ps:List (Int×Int)) (p:Int),ds=[plD ps,.int p]/\ps.length<=1000/\UW (uniE ps p) X (R (.own ((uniL ps p).map prD)))
def Zav:Pc:=fun ds R X=>∃(ws:List (Int×Int)) (a b:Int),ds=[plD ws,.int a,.int b]/\ws.length<=1000/\UW (UX ws a b) X (R (.own ((ws++[(a,b)]).map prD)))
def MP:Pc:=fun ds R _=>∃ps:List (Int×Int),ds=[.lst (ps.map prD)]/\Field ps/\ps.length<=50/\
 ∀kvs:List (List Key×V),(∀x∈Ul ps,∀y∈Ul ps,valV kvs [.inl x,.inl y]=some (.int (pcM ps x y ps.length)))->R (.own (.dT kvs))
def IM:Pc:=fun ds R _=>∃(ms:List Int) (l:Int) (le pa:List (List Key×V)) (c:Int->Int) (v:Int),ds=[tD ms,.int l,.dT le,.dT pa]/\ms.length<=1000/\valV le (kT (Uq ms l))=some (.int v)/\
 (∀m∈Uq ms l,valV pa [.inl m,.inl l]=some (.int (c m)))/\R (.sh (.int (v+((Uq ms l).map c).sum)))
def RT:Pc:=fun ds R _=>∃(ms:List Int) (l:Int) (le pa:List (List Key×V)) (c:Int->Int) (v:Int),ds=[tD ms,.int l,.dT le,.dT pa]/\ms.length<=1000/\valV le (kT (Uq ms l))=some (.int v)/\
 (∀m∈Uq ms l,valV pa [.inl l,.inl m]=some (.int (c m)))/\R (.sh (.int (v+((Uq ms l).map c).sum)))
def SD(bk:List (Str×List Int))(w:List (Int×Int))(a b:Int):Option Str:=if 100<=bk.length then some "BookFull" else Xa w a b
def MR(C:Addr):Pw:=fun o ss R X=>∃(x b1 b2 b3:Addr) (bk:List (Str×List Int)) (fs ws:List (List (Int×Int))) (f w:List (Int×Int)) (p h:Int),o=vO C x b1 b2 b3 bk (fs++[f]) (ws++[w])/\ss=[.sh (.int p),.sh (.int h)]/\bk.length<=1000/\fs.length<=900/\ws.length<=900/\w.length<=1000/\
 UW (SD bk w p h) (X (vO C x b1 b2 b3 bk (fs++[f]) (ws++[w]))) (R (vO C x b1 b2 b3 (bk++[(("drop" : Str),[p,h])]) (fs++[f]++[f]) (ws++[w]++[K9 w p h])) (.int (bk.length+1)))
def LJ:Pc:=fun ds R _=>∃(ns:List Int) (k:Int),ds=[.scr ns,.int k]/\0<=k/\∀v:Int,R (.sh (.int v))
def Zaj:Pc:=fun ds R _=>∃xs:List Int,ds=[.lst (xs.map D.int),.lst (xs.map D.int)]/\xs.length<=1000000/\R (.sh (.bl true))
def Ot:Pc:=fun ds R _=>∃ps:List (Int×Int),ds=[.lst (ps.map prD),.lst (ps.map prD)]/\ps.length<=1000000/\R (.sh (.bl true))
def La:Pc:=fun ds R _=>∃(ps:List (Int×Int)) (ns rs:List Int) (p:Nat),ds=[mvD ((p:Int),ns.getD (p-1) 0,ns.getD p 0,exM ps ns p),.lst (ns.map D.int),plD ps,.lst (rs.map D.int)]/\Field ps/\ns.length<=100/\(∀m∈ns,1<=m/\m<=ps.length)/\rs.length=ps.length/\FW (ns.map fun m=>rs.getD (m-1).toNat 0) p/\p≠0/\R (.sh (.bl true))
def Zbk:Pq:=fun ss R _=>∃(f w:List (Int×Int)) (ds:List D) (x:Dd),ss=[.sh (.tup (plD f::plD w::ds)),.sh (dD x.q)]/\f.length<=40/\w.length<=20/\R (.own [.int (codeN (x.err f w)),plD (x.nf f w),plD (x.nw f w)])
def Zab:Pc:=fun ds R _=>∃(ns m:List Int) (n:Int),ds=[.scr ns,.lst (m.map D.int),.int n]/\Menu m/\0<=n/\n<=1000/\∀ps:List (Int×Int),Field ps->ps.length=n.toNat->R (.own (ps.map prD))
def LZ:Pc:=fun ds R _=>∃(ns:List Int) (n:Int),ds=[.scr ns,.int n]/\0<=n/\n<=1000/\∀cs:List Int,(cs.length:Int)<=n->R (.own (cs.map D.int))
def OV:Pc:=fun ds R _=>∃(c:Int) (m:List Int),ds=[.int c,.lst (m.map D.int)]/\Menu m/\∀a b:Int,R (.sh (prD (a,b)))
def Kx(ps:List (Int×Int))(os:List Int):List (Int×Int):=os.flatMap fun h=>ps.filter fun q=>decide (q.1=h)
def Zao:Pc:=fun ds R X=>∃(ps:List (Int×Int)) (os:List Int),ds=[plD ps,.lst (os.map D.int)]/\Field ps/\ps.length<=50/\os.length<64/\UW (Th ps os) X (R (.own ((Kx ps os).map prD)))
def Zhs:Pc:=fun ds R _=>∃(ps:List (Int×Int)) (o:List Int),ds=[plD ps,.lst (o.map D.int)]/\Field ps/\ps.length<=40/\o.Perm (Ul ps)/\∀ms:List Mo,Mv ps (rkN ps o) (runI 1 ps.length) ms->R (.own (ms.map mvD))
def Zdi:Pc:=fun ds R _=>∃(hs:List Int) (ws:List (Int×Int)),ds=[.lst (hs.map D.int),.lst (ws.map prD)]/\hs.length<=50/\(∀l∈hs,∀t,¬Td hs ws l t)/\R (.sh (.lst []))
def Oy:Pc:=fun ds R _=>∃(ps ws:List (Int×Int)) (pa:List (List Key×V)) (c:Int->Int->Int),ds=[.lst (ps.map prD),.lst (ws.map prD),.dT pa]/\Field ps/\ps.length<=50/\ws.length<=50/\(∀q∈ws,q.1≠q.2)/\
 (∀x∈Ul ps,∀y∈Ul ps,valV pa [.inl x,.inl y]=some (.int (c x y)))/\DY (Ul ps) ws/\∀kvs,Tab ws c (U2 (Ul ps)) kvs->R (.own (.dT kvs))
def Zak(C:Addr):Pw:=fun o ss R X=>∃(x:Addr) (ps:List (Int×Int)),o=.ins x C [] []/\ss=[.sh (plD ps)]/\ps.length<=1000/\UW (Tt ps) (X (.ins x C [] [])) (∀b1 b2 b3,R (vO C x b1 b2 b3 [] [ps] [[]]) .non)
def Sl(bk:List (Str×List Int))(f:List (Int×Int))(p h:Int):Option Str:=if 100<=bk.length then some "BookFull" else Xj f p h
def Zas(C:Addr):Pw:=fun o ss R X=>∃(x b1 b2 b3:Addr) (bk:List (Str×List Int)) (fs ws:List (List (Int×Int))) (f w:List (Int×Int)) (p h:Int),o=vO C x b1 b2 b3 bk (fs++[f]) (ws++[w])/\ss=[.sh (.int p),.sh (.int h)]/\bk.length<=1000/\fs.length<=900/\ws.length<=900/\f.length<=1000/\
 UW (Sl bk f p h) (X (vO C x b1 b2 b3 bk (fs++[f]) (ws++[w]))) (R (vO C x b1 b2 b3 (bk++[(("sell" : Str),[p,h])]) (fs++[f]++[K8 f p h]) (ws++[w]++[w])) (.int (bk.length+1)))
def Sf(bk:List (Str×List Int))(f:List (Int×Int))(p h:Int):Option Str:=if 100<=bk.length then some "BookFull" else Xf f p h
def Zed(C:Addr):Pw:=fun o ss R X=>∃(x b1 b2 b3:Addr) (bk:List (Str×List Int)) (fs ws:List (List (Int×Int))) (f w:List (Int×Int)) (p h:Int),o=vO C x b1 b2 b3 bk (fs++[f]) (ws++[w])/\ss=[.sh (.int p),.sh (.int h)]/\bk.length<=1000/\fs.length<=900/\ws.length<=900/\f.length<=1000/\
 UW (Sf bk f p h) (X (vO C x b1 b2 b3 bk (fs++[f]) (ws++[w]))) (R (vO C x b1 b2 b3 (bk++[(("part" : Str),[p,h])]) (fs++[f]++[Ka f p h]) (ws++[w]++[w])) (.int (bk.length+1)))
def NH(bk:List (Str×List Int))(f:List (Int×Int))(p:Int):Option Str:=if 100<=bk.length then some "BookFull" else uniE f p
def IJ(C:Addr):Pw:=fun o ss R X=>∃(x b1 b2 b3:Addr) (bk:List (Str×List Int)) (fs ws:List (List (Int×Int))) (f w:List (Int×Int)) (p:Int),o=vO C x b1 b2 b3 bk (fs++[f]) (ws++[w])/\ss=[.sh (.int p)]/\bk.length<=1000/\fs.length<=900/\ws.length<=900/\f.length<=1000/\
 UW (NH bk f p) (X (vO C x b1 b2 b3 bk (fs++[f]) (ws++[w]))) (R (vO C x b1 b2 b3 (bk++[(("unite" : Str),[p])]) (fs++[f]++[uniL f p]) (ws++[w]++[w])) (.int (bk.length+1)))
def NZ(bk:List (Str×List Int))(w:List (Int×Int))(a b:Int):Option Str:=if 100<=bk.length then some "BookFull" else UX w a b
def Zb8(C:Addr):Pw:=fun o ss R X=>∃(x b1 b2 b3:Addr) (bk:List (Str×List Int)) (fs ws:List (List (Int×Int))) (f w:List (Int×Int)) (p h:Int),o=vO C x b1 b2 b3 bk (fs++[f]) (ws++[w])/\ss=[.sh (.int p),.sh (.int h)]/\bk.length<=1000/\fs.length<=900/\ws.length<=900/\w.length<=1000/\
 UW (NZ bk w p h) (X (vO C x b1 b2 b3 bk (fs++[f]) (ws++[w]))) (R (vO C x b1 b2 b3 (bk++[(("wish" : Str),[p,h])]) (fs++[f]++[f]) (ws++[w]++[w++[(p,h)]])) (.int (bk.length+1)))
def Zf5:Pc:=fun ds R _=>∃(ps:List (Int×Int)) (o:List Int) (ms:List Mo),ds=[.lst (ms.map mvD),plD ps,.lst (o.map D.int)]/\Field ps/\ps.length<=40/\(∀q∈ps,q.1∈o)/\Mv ps (rkN ps o) (runI 1 ps.length) ms/\ms.length<=2000/\
 ∀(ns:List Int) (c:Int),XU ps (ms.map (·.1)) (runI 1 ps.length,0)=some (ns,c)->ns.Perm (runI 1 ps.length)->FW (ns.map (rkN ps o)) 0->(ns.Pairwise fun x y=>rkN ps o x=rkN ps o y->x<y)->invL (keyL ps (rkN ps o) (runI 1 ps.length))=c->R (.own (.lst [.int c,.lst (ns.map D.int)]))
def M9:Pc:=fun ds R _=>∃(ns m:List Int),ds=[.scr ns,.lst (m.map D.int)]/\Menu m/\∀qs:List (Int×Int),qs.length<=24->R (.own (qs.map fun q=>dD (Dd.wish q.1 q.2).q))
def Zen:Pc:=fun ds R _=>∃(c:Int) (m:List Int) (f w:List (Int×Int)) (es:List D),ds=[.int c,.lst (m.map D.int),.tup (plD f::plD w::es)]/\Menu m/\f.length<=1000/\Field f/\w.length<=1000/\(∀x:Dd,R (.sh (dD x.q)))/\R (.sh (.tup [.str "back"]))
def Zd7:Pc:=fun ds R _=>∃(ps ws:List (Int×Int)),ds=[.lst (ps.map prD),.lst (ws.map prD)]/\Field ps/\ps.length<=50/\(∀q∈ws,q.1≠q.2)/\(¬ ∃r,Ring (Ul ps) ws r)/\R (.sh .non)
def Bi(bk:List (Str×List Int))(f w:List (Int×Int))(d:Dd):Option Str:=if 100<=bk.length then some "BookFull" else d.err f w
def Zgx(C:Addr):Pw:=fun o ss R X=>∃(x b1 b2 b3:Addr) (bk:List (Str×List Int)) (fs ws:List (List (Int×Int))) (f w:List (Int×Int)) (d:Dd),o=vO C x b1 b2 b3 bk (fs++[f]) (ws++[w])/\ss=[.sh (dD d.q)]/\bk.length<=1000/\fs.length<=900/\ws.length<=900/\f.length<=1000/\w.length<=1000/\
 UW (Bi bk f w d) (X (vO C x b1 b2 b3 bk (fs++[f]) (ws++[w]))) (R (vO C x b1 b2 b3 (bk++[d.q]) (fs++[f]++[d.fld f]) (ws++[w]++[d.wsh w])) (.int (bk.length+1)))
def pcc(ps:List (Int×Int)):Int->Int->Int:=fun x y=>pcM ps x y ps.length
def Zba:Pc:=fun ds R _=>∃(ps ws:List (Int×Int)),ds=[.lst (ps.map prD),.lst (ws.map prD)]/\Field ps/\ps.length<=50/\ws.length<=50/\(∀q∈ws,q.1≠q.2)/\(¬ ∃r,Ring (Ul ps) ws r)/\
 ∀vs,TabV ws (pcc ps) (U2 (Ul ps)) vs->R (.own (vs.map D.int))
def M3:Pc:=fun ds R _=>∃(ps ws:List (Int×Int)),ds=[.lst (ps.map prD),.lst (ws.map prD)]/\Field ps/\ps.length<=50/\ws.length<=50/\(∀q∈ws,q.1≠q.2)/\(¬ ∃r,Ring (Ul ps) ws r)/\
 ∀o,Best ws (pcc ps) (Ul ps) o->R (.own (o.map D.int))
def Zhm(C:Addr):Pw2:=fun o1 o2 ss R _=>∃(x b1 b2 b3 a:Addr) (f0:List (Int×Int)) (hs:Hist) (q:D),o1=vO C x b1 b2 b3 (bkH hs) (fsH f0 hs) (wsH hs)/\o2=.lsA a (UK f0 hs)/\ss=[.sh q]/\hs.length<100/\FineH f0 hs/\
 ((q=.tup [.str "back"]/\R (vO C x b1 b2 b3 (bkH hs.dropLast) (fsH f0 hs.dropLast) (wsH hs.dropLast)) (.lsA a (UK f0 hs.dropLast)) (.bl true))\/
  ∃d:Dd,q=dD d.q/\R (vO C x b1 b2 b3 (bkH (addH f0 hs d)) (fsH f0 (addH f0 hs d)) (wsH (addH f0 hs d))) (.lsA a (UK f0 (addH f0 hs d))) (.bl true))
def ON:Pc:=fun ds R _=>∃(ps ws:List (Int×Int)),ds=[.lst (ps.map prD),.lst (ws.map prD)]/\Field ps/\ps.length<=50/\ws.length<=50/\(∀q∈ws,q.1≠q.2)/\(¬ ∃r,Ring (Ul ps) ws r)/\
 ∀v,Least ws (pcc ps) (Ul ps) v->R (.sh (.int v))
def RD(C:Addr):Pc:=fun ds R _=>∃(bk:List (Str×List Int)) (fs ws:List (List (Int×Int))) (f w:List (Int×Int)),ds=[vilD C bk (fs++[f]) (ws++[w])]/\Field f/\f.length<=50/\w.length<=50/\(∀q∈w,q.1≠q.2)/\(¬ ∃r,Ring (Ul f) w r)/\∀o,Best w (pcc f) (Ul f) o->R (.own (o.map D.int))
def Zc2(C:Addr):Pw2:=fun o1 o2 ss R _=>∃(x b1 b2 b3 a:Addr) (f0:List (Int×Int)) (hs:Hist),o1=vO C x b1 b2 b3 (bkH hs) (fsH f0 hs) (wsH hs)/\o2=.lsA a (UK f0 hs)/\ss=[]/\hs.length<=60/\FineH f0 hs/\
 ∀hs':Hist,hs'.length<=hs.length+20->FineH f0 hs'->(¬ ∃r,Ring (Ul (curF f0 hs')) (curW hs') r)->curF f0 hs'=curF f0 hs->R (vO C x b1 b2 b3 (bkH hs') (fsH f0 hs') (wsH hs')) (.lsA a (UK f0 hs')) (.bl true)
def Zcz(C:Addr):Pc:=fun ds R _=>∃(bk:List (Str×List Int)) (fs ws:List (List (Int×Int))) (f w:List (Int×Int)),ds=[vilD C bk (fs++[f]) (ws++[w])]/\Field f/\f.length<=50/\w.length<=50/\(∀q∈w,q.1≠q.2)/\(¬ ∃r,Ring (Ul f) w r)/\∀v,Least w (pcc f) (Ul f) v->R (.sh (.int v))
def Zcv(C:Addr):Pc:=fun ds R _=>∃(bk:List (Str×List Int)) (fs ws:List (List (Int×Int))) (f w:List (Int×Int)),ds=[vilD C bk (fs++[f]) (ws++[w])]/\Field f/\f.length<=40/\w.length<=50/\(∀q∈w,q.1≠q.2)/\(¬ ∃r,Ring (Ul f) w r)/\∀o ms,Best w (pcc f) (Ul f) o->Mv f (rkN f o) (runI 1 f.length) ms->R (.own (ms.map mvD))
def Zdn(C:Addr):Pc:=fun ds R _=>∃(bk:List (Str×List Int)) (fs ws:List (List (Int×Int))) (f w:List (Int×Int)),ds=[vilD C bk (fs++[f]) (ws++[w])]/\Field f/\f.length<=50/\w.length<=50/\(∀q∈w,q.1≠q.2)/\(¬ ∃r,Ring (Ul f) w r)/\∀o,Best w (pcc f) (Ul f) o->R (.own ((Kx f o).map prD))
variable (P:Program) (w:World) (K:Za) (mg:Str->Option Value) (base:Heap)
abbrev NN:Prop:=Callee P w K mg base (ExcR.CXe P w) 1 "check_holder" ["holder"] (Pu.spOf mg Zgg K)
abbrev Ii:Prop:=Callee P w K mg base (ExcR.CXe P w) 1 "check_width" ["width"] (Pu.spOf mg Rg K)
abbrev TQ:Prop:=Callee P w K mg base CX0 1 "holders_of" ["strips"] (Pu.spOf mg Ee K)
abbrev GT:Prop:=Callee P w K mg base CX0 1 "pair_cost" ["strips","ahead","behind"] (Pu.spOf mg Zaf K)
abbrev Bx:Prop:=Callee P w K mg base CX0 1 "own_numbers" ["strips"] (Pu.spOf mg Zgv K)
abbrev A5:Prop:=Callee P w K mg base CX0 1 "exchange_cost" ["strips","numbers","place"] (Pu.spOf mg Zcn K)
abbrev Fh:Prop:=Callee P w K mg base CX0 1 "exchanged" ["numbers","place"] (Pu.spOf mg L9 K)
abbrev HY:Prop:=Callee P w K mg base CX0 1 "first_wrong_place" ["numbers","ranks"] (Pu.spOf mg Oc K)
abbrev Aw:Prop:=Callee P w K mg base (ExcR.CXe P w) 1 "check_neighbours" ["strips","place"] (Pu.spOf mg Rn K)
abbrev Cq:Prop:=Callee P w K mg base CX0 1 "longer_paths" ["paths","left","wishes"] (Pu.spOf mg Rl K)
abbrev A7:Prop:=Callee P w K mg base (ExcR.CXe P w) 1 "check_place" ["strips","place"] (Pu.spOf mg Zhg K)
abbrev E6:Prop:=Callee P w K mg base (ExcR.CXe P w) 1 "without_wish" ["wishes","ahead","behind"] (Pu.spOf mg Zbo K)
abbrev D7:Prop:=Callee P w K mg base CX0 1 "sets_of" ["holders"] (Pu.spOf mg Zbi K)
abbrev Sg:Prop:=Callee P w K mg base CX0 1 "without" ["members","holder"] (Pu.spOf mg Zbr K)
abbrev DQ:Prop:=Callee P w K mg base CX0 1 "may_lie_last" ["members","holder","wishes"] (Pu.spOf mg Zag K)
abbrev EO:Prop:=Callee P w K mg base CX0 1 "may_lie_first" ["members","holder","wishes"] (Pu.spOf mg Zbq K)
abbrev K4:Prop:=Pu.CalleeM P w K mg base CX0 1 (Meth K (ExcR.JU mg "Village") "strips") ["self"] (Pu.spOf mg (R7 (ExcR.JU mg "Village")) K)
abbrev Pi:Prop:=Pu.CalleeM P w K mg base CX0 1 (Meth K (ExcR.JU mg "Village") "wishes") ["self"] (Pu.spOf mg (Zc5 (ExcR.JU mg "Village")) K)
abbrev PZ:Prop:=Pu.CalleeM P w K mg base (ExcR.CXe P w) 1 (Meth K (ExcR.JU mg "Village") "check_room") ["self"] (Pu.spOf mg (Zf0 (ExcR.JU mg "Village")) K)
abbrev PP:Prop:=Pu.CalleeM P w K mg base CX0 1 (Meth K (ExcR.JU mg "Village") "enter") ["self","deed","field","wishes"] (Pu.spW mg (L4 (ExcR.JU mg "Village")) K)
abbrev HJ:Prop:=Pu.CalleeM P w K mg base (ExcR.CXe P w) 1 (Meth K (ExcR.JU mg "Village") "take_back") ["self"] (Pu.spW mg (Zg2 (ExcR.JU mg "Village")) K)
abbrev Te:Prop:=Callee P w K mg base CX0 1 "_law_at" ["_law_script","_law_k"] (Pu.spOf mg Lq K)
abbrev N5:Prop:=Callee P w K mg base CX0 1 "_law_whole" ["_law_found"] (Pu.spOf mg LB K)
abbrev Nu:Prop:=Callee P w K mg base CX0 1 "_law_mix" ["_law_cell","_law_place_here"] (Pu.spOf mg Mt K)
abbrev CB:Prop:=Callee P w K mg base CX0 1 "_law_menu" ["_law_cell"] (Pu.spOf mg Zd1 K)
abbrev N0:Prop:=Callee P w K mg base CX0 1 "_law_holder" ["_law_menu_here","_law_k"] (Pu.spOf mg Zef K)
abbrev BB:Prop:=Callee P w K mg base CX0 1 "_law_present" ["_law_strips"] (Pu.spOf mg Zdy K)
abbrev Il:Prop:=Callee P w K mg base CX0 1 "_law_kept" ["_law_order","_law_wishes"] (Pu.spOf mg Zf3 K)
abbrev Gn:Prop:=Callee P w K mg base CX0 1 "_law_no_ring" ["_law_holders","_law_wishes"] (Pu.spOf mg Lz K)
abbrev GO:Prop:=Callee P w K mg base CX0 1 "_law_ends" ["_law_strips","_law_order"] (Pu.spOf mg Zbt K)
abbrev EB:Prop:=Callee P w K mg base CX0 1 "_law_turned" ["_law_strips","_law_order"] (Pu.spOf mg Za9 K)
abbrev DJ:Prop:=Callee P w K mg base CX0 1 "_law_field_step" ["_law_strips","_law_deed_here"] (Pu.spS mg Mb K)
abbrev AZ:Prop:=Callee P w K mg base CX0 1 "_law_wish_step" ["_law_wishes","_law_deed_here"] (Pu.spS mg M8 K)
abbrev Bw:Prop:=Callee P w K mg base CX0 1 "_law_odd" ["_law_cell","_law_good"] (Pu.spOf mg RH K)
abbrev E1:Prop:=Callee P w K mg base CX0 1 "_law_place" ["_law_cell","_law_strips"] (Pu.spOf mg IW K)
abbrev Dz:Prop:=Callee P w K mg base CX0 1 "_law_width" ["_law_cell","_law_strips","_law_place_here"] (Pu.spOf mg Zgj K)
abbrev Gm:Prop:=Callee P w K mg base (ExcR.CXe P w) 2 "check_strips" ["strips"] (Pu.spOf mg Zd0 K)
abbrev FP:Prop:=Callee P w K mg base (ExcR.CXe P w) 2 "check_order" ["strips","order"] (Pu.spOf mg Zg4 K)
abbrev ED:Prop:=Callee P w K mg base (ExcR.CXe P w) 2 "walk_places" ["strips","places"] (Pu.spOf mg Zbd K)
abbrev Hx:Prop:=Callee P w K mg base CX0 2 "ring_from" ["least","holders","wishes"] (Pu.spOf mg Rr K)
abbrev Gz:Prop:=Callee P w K mg base (ExcR.CXe P w) 2 "sold" ["strips","place","holder"] (Pu.spOf mg MN K)
abbrev HR:Prop:=Callee P w K mg base (ExcR.CXe P w) 2 "parted" ["strips","place","width"] (Pu.spOf mg Zet K)
abbrev DK:Prop:=Callee P w K mg base (ExcR.CXe P w) 2 "united" ["strips","place"] (Pu.spOf mg Oh K)
abbrev GB:Prop:=Callee P w K mg base (ExcR.CXe P w) 2 "with_wish" ["wishes","ahead","behind"] (Pu.spOf mg Zav K)
abbrev Ay:Prop:=Callee P w K mg base CX0 2 "pair_costs" ["strips"] (Pu.spOf mg MP K)
abbrev CO:Prop:=Callee P w K mg base CX0 2 "cost_with_last" ["members","last","least","pairs"] (Pu.spOf mg IM K)
abbrev CP:Prop:=Callee P w K mg base CX0 2 "cost_with_first" ["members","first","least","pairs"] (Pu.spOf mg RT K)
abbrev HN:Prop:=Pu.CalleeM P w K mg base (ExcR.CXe P w) 2 (Meth K (ExcR.JU mg "Village") "drop") ["self","ahead","behind"] (Pu.spW mg (MR (ExcR.JU mg "Village")) K)
abbrev G9:Prop:=Callee P w K mg base CX0 2 "_law_draw" ["_law_script","_law_k"] (Pu.spOf mg LJ K)
abbrev Hc:Prop:=Callee P w K mg base CX0 2 "_law_row" ["_law_found","_law_due"] (Pu.spOf mg Zaj K)
abbrev Cp:Prop:=Callee P w K mg base CX0 2 "_law_tuples" ["_law_found","_law_due"] (Pu.spOf mg Ot K)
abbrev Er:Prop:=Callee P w K mg base CX0 2 "_law_good_move" ["_law_move","_law_numbers","_law_strips","_law_ranks"] (Pu.spOf mg La K)
abbrev Dx:Prop:=Callee P w K mg base CX0 2 "_law_step" ["_law_now","_law_deed_here"] (Pu.spS mg Zbk K)
abbrev D1:Prop:=Callee P w K mg base CX0 2 "_law_start" ["_law_script","_law_menu_here","_law_many"] (Pu.spOf mg Zab K)
abbrev Ij:Prop:=Callee P w K mg base CX0 2 "_law_days" ["_law_script","_law_most"] (Pu.spOf mg LZ K)
abbrev SZ:Prop:=Callee P w K mg base CX0 2 "_law_pair" ["_law_cell","_law_menu_here"] (Pu.spOf mg OV K)
abbrev Hk:Prop:=Callee P w K mg base (ExcR.CXe P w) 3 "gathered" ["strips","order"] (Pu.spOf mg Zao K)
abbrev Gh:Prop:=Callee P w K mg base CX0 3 "told_moves" ["strips","order"] (Pu.spOf mg Zhs K)
abbrev Hq:Prop:=Callee P w K mg base CX0 3 "find_ring" ["holders","wishes"] (Pu.spOf mg Zdi K)
abbrev Fl:Prop:=Callee P w K mg base CX0 3 "least_costs" ["strips","wishes","pairs"] (Pu.spOf mg Oy K)
abbrev CY:Prop:=Pu.CalleeM P w K mg base (ExcR.CXe P w) 3 (Mk K (ExcR.JU mg "Village")) ["self","strips"] (Pu.spW mg (Zak (ExcR.JU mg "Village")) K)
abbrev EY:Prop:=Pu.CalleeM P w K mg base (ExcR.CXe P w) 3 (Meth K (ExcR.JU mg "Village") "sell") ["self","place","holder"] (Pu.spW mg (Zas (ExcR.JU mg "Village")) K)
abbrev Da:Prop:=Pu.CalleeM P w K mg base (ExcR.CXe P w) 3 (Meth K (ExcR.JU mg "Village") "part") ["self","place","width"] (Pu.spW mg (Zed (ExcR.JU mg "Village")) K)
abbrev Hy:Prop:=Pu.CalleeM P w K mg base (ExcR.CXe P w) 3 (Meth K (ExcR.JU mg "Village") "unite") ["self","place"] (Pu.spW mg (IJ (ExcR.JU mg "Village")) K)
abbrev EE:Prop:=Pu.CalleeM P w K mg base (ExcR.CXe P w) 3 (Meth K (ExcR.JU mg "Village") "wish") ["self","ahead","behind"] (Pu.spW mg (Zb8 (ExcR.JU mg "Village")) K)
abbrev Ce:Prop:=Callee P w K mg base CX0 3 "_law_walked" ["_law_told","_law_strips","_law_order"] (Pu.spOf mg Zf5 K)
abbrev Co:Prop:=Callee P w K mg base CX0 3 "_law_opening" ["_law_script","_law_menu_here"] (Pu.spOf mg M9 K)
abbrev GE:Prop:=Callee P w K mg base CX0 3 "_law_deed" ["_law_cell","_law_menu_here","_law_now"] (Pu.spOf mg Zen K)
abbrev SX:Prop:=Callee P w K mg base CX0 4 "check_no_ring" ["strips","wishes"] (Pu.spOf mg Zd7 K)
abbrev Hs:Prop:=Callee P w K mg base (ExcR.CXe P w) 4 "_law_call" ["_law_village","_law_deed_here"] (Pu.spW mg (Zgx (ExcR.JU mg "Village")) K)
abbrev Iw:Prop:=Callee P w K mg base CX0 5 "cost_table" ["strips","wishes"] (Pu.spOf mg Zba K)
abbrev CF:Prop:=Callee P w K mg base CX0 5 "best_order" ["strips","wishes"] (Pu.spOf mg M3 K)
abbrev FL:Prop:=Callee P w K mg base CX0 5 "_law_go" ["_law_village","_law_past","_law_deed_here"] (Pu.spW2 mg (Zhm (ExcR.JU mg "Village")) K)
abbrev CI:Prop:=Callee P w K mg base CX0 6 "least_cost" ["strips","wishes"] (Pu.spOf mg ON K)
abbrev NW:Prop:=Pu.CalleeM P w K mg base CX0 6 (Meth K (ExcR.JU mg "Village") "order") ["self"] (Pu.spOf mg (RD (ExcR.JU mg "Village")) K)
abbrev Dm:Prop:=Callee P w K mg base CX0 6 "_law_no_rings" ["_law_village","_law_past"] (Pu.spW2 mg (Zc2 (ExcR.JU mg "Village")) K)
abbrev IG:Prop:=Pu.CalleeM P w K mg base CX0 7 (Meth K (ExcR.JU mg "Village") "cost") ["self"] (Pu.spOf mg (Zcz (ExcR.JU mg "Village")) K)
abbrev Gw:Prop:=Pu.CalleeM P w K mg base CX0 7 (Meth K (ExcR.JU mg "Village") "moves") ["self"] (Pu.spOf mg (Zcv (ExcR.JU mg "Village")) K)
abbrev CT:Prop:=Pu.CalleeM P w K mg base CX0 7 (Meth K (ExcR.JU mg "Village") "melded") ["self"] (Pu.spOf mg (Zdn (ExcR.JU mg "Village")) K)
abbrev Zb0:Prop:=Callee P w K mg base CX0 8 "law" ["_law_script"] (Pu.spOf mg Ds K)
end M
namespace M
open PySem PySem.Spec PyProof.Rows L2 Own Pu
def Sz{α:Type}{xs:List α}{i:Nat}{d:α}(h:i<xs.length):xs.getD i d=xs[i]:=by rw[Yw,Yt h];rfl
def Ha{α:Type}{xs:List α}{i:Nat}{d:α}(h:i<xs.length):xs.getD i d=xs[i]:=by rw[Yw,Yt h];rfl
def Zdl{ns:List Int}{p:Int}(h1:1<=p)(h2:p<ns.length){b1:p.toNat<ns.length}{b2:(p-1).toNat<ns.length}:cutD (ns.map D.int) none (some (p-1))++[D.int ns[p.toNat],D.int ns[(p-1).toNat]]++cutD (ns.map D.int) (some (p+1)) none=(UR ns p.toNat).map D.int:=by
 unfold UR;rw[KC,KC,Sm ns (by omega),T7 ns (by omega),Y9,Y9];have e1:p.toNat-1=(p-1).toNat:=by omega
 have e2:p.toNat+1=(p+1).toNat:=by omega
 rw[e1,e2,Ha b1,Ha b2];rfl
structure LWs (ws:List (Int×Int)) (l:Int) (ps:List (List Int)) (ls:List Int) (lg:List (List Int)) (kvs:List (Key×V)):Prop where
 g:LW ws l ps ls lg
 nd:(lg.map (U9 l)).Nodup
 rc:∀h:Int,(valV kvs (.inl h)).isSome=true↔h∈lg.map (U9 l)
 len:kvs.length<=lg.length
section
variable {ws:List (Int×Int)}{l:Int}{ps:List (List Int)}{ls:List Int}{lg:List (List Int)}{kvs:List (Key×V)}
def LWs.len_le (L:LWs ws l ps ls lg kvs):lg.length<=ls.length:=by
 have:=An L.nd (ys:=ls) fun h hh=>by
  obtain⟨q,hq,e⟩:=YX.mp hh;obtain⟨p,_,x,hx,rfl,_⟩:=L.g q hq;rw[P5]at e;rw[←e];exact hx
 rwa[Yu]at this
def LWs.put {p:List Int}{h:Int} (hp:p∈ps) (hh:h∈ls) (G:LWs ws l ps ls lg kvs) (new:(valV kvs (.inl h)).isSome=false) (hw:(U9 l p,h)∈ws):LWs ws l ps ls (lg++[p++[h]]) (putK kvs (.inl h) (.bl true)):=by
 have lh:U9 l (p++[h])=h:=by rw[P5];rfl
 have nh:h∉lg.map (U9 l):=fun z=>by rw[(G.rc h).mpr z]at new;cases new
 refine⟨fun q hq=>?_,?_,fun x=>?_,?_⟩
 ·rcases YR.mp hq with hq|hq
  ·exact G.g q hq
  ·exact⟨p,hp,h,hh,Y5.mp hq,hw⟩
 ·rw[Y9,Qd,lh];refine W4.mpr ⟨G.nd,by simp,fun a ha b hb=>?_⟩;rw[Y5.mp hb];rintro rfl;exact nh ha
 ·rw[Y9,Qd,lh,Tc,YR,Y5];by_cases e:x=h
  ·subst e;rw[Yz rfl];exact⟨fun _=>.inr rfl,fun _=>rfl⟩
  ·rw[Yx (fun z=>e (Sum.inl.inj z)),G.rc];exact⟨.inl,fun z=>z.elim id fun w=>absurd w e⟩
 ·rw[Y4]
  have:=Nj kvs (.inl h) (.bl true)
  have:=G.len
  simp;omega
end
def Zgz(ps:List (Int×Int))(o:List Int):(o.flatMap (numN ps)).length<=o.length*ps.length:=by
 induction o with
 |nil=>simp
 |cons h r ih=>
  rw[List.flatMap_cons,Y4,YF,Nat.add_mul]
  have:=HL ps h
  omega
def Zgy(ps:List (Int×Int))(o:List Int):cntN (rkN ps o) (runI 1 ps.length)=invL (rowK ps o):=by
 unfold cntN rowK runI rkN hdN;congr 1;rw[YZ];refine Vc (by simp) fun i h1 h2=>?_;have hi:i<ps.length:=by simpa using h2
 simp only[Vd,V3,Function.comp];rw[show((1:Int)+(i:Int)-1).toNat=i by omega,Yw,Yt hi];rfl
def DH(c:Int->Bool):∀ws:List Int,ws.filterMap (fun q=>if c q=true then some (D.int q)else none)=(ws.filter c).map D.int:=XT c D.int
def Oz(ps:List (Int×Int))(os:List Int):(Kx ps os).length<=os.length*ps.length:=by
 unfold Kx
 induction os with
 |nil=>simp
 |cons h r ih=>
  rw[List.flatMap_cons,Y4,YF,Nat.add_mul]
  have:=Wd (fun q:Int×Int=>decide (q.1=h)) ps
  omega
def Zap{hs:List Int}{ws:List (Int×Int)}{l:Int}(hu:∀q∈ws,q.1≠q.2)(hN:¬ ∃r,Ring hs ws r)(hl:l∈hs):∀(n:Nat) (t:List Int),t.length<=n->¬Td hs ws l t:=by
 intro n
 induction n with
 |zero=>exact fun t ht hc=>hN ⟨_,DC hu hl hc fun u _=>by omega⟩
 |succ n ih=>exact fun t ht hc=>hN ⟨_,DC hu hl hc fun u hu'=>YY fun z=>ih u (by omega) hu'⟩
def Zc3(γ:List (Option Pu.S)):Nat:=match γ[4]? with
 |some (some (Pu.S.sh (Pu.D.tup ds)))=>ds.length
 |_=>0
def Nz{α:Type}{xs:List α}{x:α}(h:xs[xs.length-1]?=some x):atI xs (-1)=some x:=by
 have hi:=(YQ.mp h).1;unfold atI ixN;rw[Yx (by omega),Yz (by omega)];show xs[_]?=some x;rw[←h];congr 1;omega
def Zdf{ws:List (Int×Int)}{o:List Int}(hk:Keeps ws o):∀q∈ws,badM o q=false:=fun q hq=>by
 cases hb:badM o q with
 |false=>rfl
 |true=>
  unfold badM at hb;rw[Wf,Wf]at hb;have h1:=Y0 hb.1;have h2:=Y0 hb.2.1;have h3:=Y0 hb.2.2;have g1:=QJ.mpr h1;have g2:=QJ.mpr h2
  have:=Ql.mp hk _ _ g2 g1 h3
  rw[V2 g2,V2 g1]at this;exact absurd hq this
end M
namespace T
open PySem PySem.Spec PyProof.Rows L2 Own M
section
variable {P:Program}{w:World}{K:Za}{mg:Str->Option Value}{base:Heap}
def IL(G:Glob K mg)(D:Def K mg "holders_of" AQ ["strips"])
  : Callee P w K mg base CX0 1 "holders_of" ["strips"] (EL K):=by
 refine D.ok (k:=0) OE (fun vs H Q E h=>?_) (fun f cdv A outer s H vs Q E hr h=>?_)
 ·obtain⟨l,ps,rfl,⟨vs,hl,hv⟩,hF,hz,q⟩:=h;rfl
 ·obtain⟨l,ps,rfl,⟨vs,hl,hv⟩,hF,hz,q⟩:=h;refine⟨_,(JQ (JT (UZ (EM rfl) (by rfl) G.sorted boot_sorted (Ug (XX (OZ rfl) (by rfl) G.set boot_set (Ug (Xg (N':=["holder","width"]) (φ:=[none,none]) rfl (Own.CompOk.of (by rfl)) (GD (pv 0)) (fun _ _ _ _ _=>⟨(P0 (K:=K) (n:=2) rfl (XJ (Bn (i:=0) (show(["holder","width"]:List Str).Nodup from by decide +kernel) rfl (by first|exact Or.inl rfl|exact Or.inr rfl)) (XJ (Bn (i:=1) (show(["holder","width"]:List Str).Nodup from by decide +kernel) rfl (by first|exact Or.inl rfl|exact Or.inr rfl)) P1))),X9,(pv 0)⟩)) U0)) U0)))),?_⟩
  have e1:=hv.1;refine⟨_,rfl,l,rfl,⟨_,SqL.of hl⟩,fun D nD=>Zah (ds:=ps) (fun d=>some (V.int d.1)) (SqL.of hl) e1 nD (Y8 hz (by decide)) (fun i x d H2 hx hd S k hk=>?_) ?_⟩
  ·obtain⟨d',hd',a,rfl,ha⟩:=hv.get hx;rw[hd]at hd';cases hd'
   exact⟨a,_,rfl,SqT.of (S _ _ ha),rfl,_,_,rfl,_,_,rfl,rfl,.skip (.skip .refl),_,rfl,hk⟩
  ·have em:ps.filterMap (fun d=>some (V.int d.1))=(ps.map (·.1)).map V.int:=by
    rw[Qb,YZ];rfl
   rw[em];have S1:Same H (upd H D (.lst ((ps.map (·.1)).map V.int))):=Xe nD;refine⟨D,ps.map (·.1),rfl,SqL.of UJ,by rw[Yu];omega,fun s1 n1=>?_⟩;have S2:=Own.Same.new (o:=SetH w s1 ((ps.map (·.1)).foldl SetR.addJ [])) S1 n1;refine⟨s1,_,rfl,?_,.inr UJ,fun r ns n2 hp hs=>?_⟩
   ·have:=Hg (ps.map (·.1)) []
    rw[Yu]at this;simp at this ⊢;omega
   ·rw[LC hF hp hs];exact q r _ (S2.free n2) (Own.Same.new S2 n2) UJ
end
open Pu
section
variable {P:Program}{w:World}{K:Za}{mg:Str->Option Value}{base:Heap}
def Zg1(G:Glob K mg)(DD:Def K mg "check_holder" AH ["holder"])
  : NN P w K mg base:=by
 refine DD.ox (k:=0) OO (fun _ _ _ _ _ _ E hr=>⟨_,(JQ (Ua (PW.pt (UL (Uk X6 (pv 0) JM (Up _)) (UU (Uk Xp (pv 0) (ExcR.XM G.HOLDERS) (Up _))))) (JQ (ExcR.Xz G.g_BadHolder.c G.m_BadHolder ExcR.X0 rfl (az (ExcR.pe_f (ExcR.Kn (ExcR.Px (ExcR.XM G.HOLDERS) ExcR.P8))))))
   Ub)), (Ue (UP (JX (X8 (JK 0) JL)) (JX (Xq (JK 0) JL))) (X3 (sz (se_f (Kg (Pk JL Pr))))) Uc)⟩) (.a fun ds R X h=>?_)
 ·obtain⟨h,rfl,hR⟩:=h;refine⟨rfl,?_⟩;unfold Tr at hR;refine ite2 (fun g=>iteT ?_) (fun g=>?_)
  ·rw[Yx (by have:=Y0 g;omega)]at hR;exact⟨by decide,by decide,by decide,by decide,by simp,hR⟩
  ·have g':¬h<1:=fun z=>g (Yy z);refine ite2 (fun g2=>?_) (fun g2=>?_)
   ·rw[Yx (by have:=Y0 g2;omega)]at hR;exact⟨by decide,by decide,by decide,by decide,by simp,hR⟩
   ·have g2':¬10<h:=fun z=>g2 (Yy z);rw[Yz (by omega)]at hR;exact hR
def Zbe(G:Glob K mg)(DD:Def K mg "check_width" F2 ["width"])
  : Ii P w K mg base:=by
 refine DD.ox (k:=0) LL (fun _ _ _ _ _ _ E hr=>⟨_,(JQ (Ua (PW.pt (UL (Uk X6 (pv 0) JM (Up _)) (UU (Uk Xp (pv 0) (ExcR.XM G.WIDEST) (Up _))))) (JQ (ExcR.Xz G.g_BadWidth.c G.m_BadWidth ExcR.X0 rfl (az (ExcR.pe_f (ExcR.Kn (ExcR.Px (ExcR.XM G.WIDEST) ExcR.P8))))))
   Ub)), (Ue (UP (JX (X8 (JK 0) JL)) (JX (Xq (JK 0) JL))) (X3 (sz (se_f (Kg (Pk JL Pr))))) Uc)⟩) (.a fun ds R X h=>?_)
 ·obtain⟨h,rfl,hR⟩:=h;refine⟨rfl,?_⟩;unfold AO at hR;refine ite2 (fun g=>iteT ?_) (fun g=>?_)
  ·rw[Yx (by have:=Y0 g;omega)]at hR;exact⟨by decide,by decide,by decide,by decide,by simp,hR⟩
  ·have g':¬h<1:=fun z=>g (Yy z);refine ite2 (fun g2=>?_) (fun g2=>?_)
   ·rw[Yx (by have:=Y0 g2;omega)]at hR;exact⟨by decide,by decide,by decide,by decide,by simp,hR⟩
   ·have g2':¬1000<h:=fun z=>g2 (Yy z);rw[Yz (by omega)]at hR;exact hR
def Le(G:Glob K mg)(DD:Def K mg "pair_cost" Av ["strips","ahead","behind"])
  : GT P w K mg base:=by
 refine DD.oz (k:=0) Py (fun _ _ _ _ _ _ E hr=>⟨_,(JO (Pu.pz 3 Py.nd JM) (JO (Pu.pz 4 Py.nd JM) (JO (UN YN rfl (U1 (K:=K) (pv 0)) (P0 (K:=K) (n:=2) rfl (XJ (gz 5 Py.nd) (XJ (gz 6 Py.nd) P1))) (JQ (Ua (cq K hr (pv 5) (pv 2)) (JQ (B9 (i:=3) Py.nd rfl (by first|exact Or.inl rfl|exact Or.inr rfl) (pv 6) F6)) (JQ (Ua (cq K hr (pv 5) (pv 1)) (JQ (B9 (i:=4) Py.nd rfl (by first|exact Or.inl rfl|exact Or.inr rfl) (JS KZ (pv 3) (pv 6)) F6))
   Ub))))) (JQ (JT (pv 4)))))), (JN (JW JL (JR 3)) (JN (JW JL (JR 4)) (JN (Ud 0 (UM [5,6] (X2 (JK 0)) (Tj (Kj (JR 5) (Kj (JR 6) Tq))) (Ue (JX (U4 (JK 5) (JK 2))) (Bg (JK 6)) (Ue (JX (U4 (JK 5) (JK 1))) (Bg (KU (JK 3) (JK 6))) Uc)))) (XB 4))))⟩) (.a fun ds R X h=>?_)
 ·obtain⟨ps,x,y,rfl,hF,hR⟩:=h;refine⟨rfl,?_⟩;refine⟨rfl,Xv (xs:=ps) (emb:=prD) (fun i γ'=>γ'=[some (.bor (.lst (ps.map prD))),some (.sh (.int x)),some (.sh (.int y)),some (.sh (.int (tpM ps y i))),some (.sh (.int (pcM ps x y i))),none,none]) rfl ?_ ?_⟩
  ·rintro i hi γ' rfl;have hp:ps.getD i (0,0)=ps[i]:=by rw[Yw,Yt hi];rfl
   have hw:=hF _ (YK hi);have e1:tpM ps y (i+1)=tpM ps y i+(if ps[i].1=y then ps[i].2 else 0):=by simp only[tpM];rw[hp]
   have e2:pcM ps x y (i+1)=pcM ps x y i+(if x≠y/\ps[i].1=x then tpM ps y i*ps[i].2 else 0):=by simp only[pcM];rw[hp]
   rw[e1,e2];generalize ps[i]=p at hw;refine⟨rfl,ite2 (fun g=>?_) (fun g=>ite2 (fun g2=>?_) (fun g2=>?_))⟩
   ·have e:p.1=y:=Y0 g;rw[Yz e,Yx (by rintro⟨z1,z2⟩;exact z1 (z2.symm.trans e)),Vr];rfl
   ·have e:¬p.1=y:=fun z=>g (Yy z);have e':p.1=x:=Y0 g2;rw[Yx e,Yz ⟨fun z=>e (e'.trans z),e'⟩,Vr];exact⟨.inr ⟨by show -(2 ^ 64)<p.2;omega,by show p.2<2 ^ 64;omega⟩,rfl⟩
   ·have e:¬p.1=y:=fun z=>g (Yy z);have e':¬p.1=x:=fun z=>g2 (Yy z);rw[Yx e,Yx (by rintro⟨z1,z2⟩;exact e' z2),Vr,Vr];rfl
  ·rintro γ' rfl;exact hR
def Za3(G:Glob K mg)(DD:Def K mg "own_numbers" B8 ["strips"])
  : Bx P w K mg base:=by
 refine DD.oz (k:=0) Zhk (fun _ _ _ _ _ _ E hr=>⟨_,(JQ (JT (Xg (N':=["index"]) (φ:=[none]) rfl (Own.CompOk.of (by rfl)) (Kp rfl G.range (az (ln K G.len (pv 0)))) (fun _ _ _ _ _=>⟨(gz 0 (show(["index"]:List Str).Nodup from by decide +kernel)),X9,(JS Uu (pv 0) JM)⟩)))), (JY (UD (SndI.c (Ks (sz (Uy (sz (JK 0)))))) (JR 0) XC (Ut (JK 0) JL)))⟩) (.a fun ds R X h=>?_)
 ·obtain⟨ps,rfl,hz,hR⟩:=h;refine⟨rfl,?_⟩;have hl:(ps.map prD).length=ps.length:=Yu ..;refine⟨⟨by omega,by omega⟩,Sk (fun i=>some (.int (0+(i:Int)+1))) (by omega) (fun i _=>⟨_,rfl,rfl⟩) ?_⟩
  have e:(List.range ((ps.map prD).length:Int).toNat).filterMap (fun(i:Nat)=>some (D.int (0+(i:Int)+1)))=(runI 1 ps.length).map D.int:=by
   unfold runI;rw[Qb,YZ,hl,Wb];refine WK fun i _=>?_;show D.int (0+(i:Int)+1)=D.int (1+(i:Int));congr 1;omega
  rw[e];exact hR
def Rc(G:Glob K mg)(DD:Def K mg "exchange_cost" BL ["strips","numbers","place"])
  : A5 P w K mg base:=by
 refine DD.oz (k:=0) AJ (fun _ _ _ _ _ _ E hr=>⟨_,(JO (Pu.pz 3 AJ.nd (jx K (pv 0) (JS U3 (jx K (pv 1) (JS U3 (pv 2) JM)) JM))) (JO (Pu.pz 4 AJ.nd (jx K (pv 0) (JS U3 (jx K (pv 1) (pv 2)) JM))) (JQ (JT (JS KZ (jx K (pv 3) JM) (jx K (pv 4) JM)))))), (JN (JW (JP (JK 0) (U5 (JP (JK 1) (U5 (JK 2) JL)) JL)) (JR 3)) (JN (JW (JP (JK 0) (U5 (JP (JK 1) (JK 2)) JL)) (JR 4)) (JY (KU (JP (JK 3) JL) (JP (JK 4) JL)))))⟩) (.a fun ds R X h=>?_)
 ·obtain⟨ps,ns,p,rfl,hF,hin,h1,h2,hR⟩:=h;refine⟨rfl,?_⟩;have b1:(p-1).toNat<ns.length:=by omega
  have b2:p.toNat<ns.length:=by omega
  have i1:=hin _ (YK b1);have i2:=hin _ (YK b2);refine⟨_,Xs (by omega) (by omega),_,Xs (by omega) (by omega),_,Xs (by omega) (by omega),_,Xs (by omega) (by omega),_,rfl,_,rfl,?_⟩;have c1:(ns[(p-1).toNat]-1).toNat<ps.length:=by omega
  have c2:(ns[p.toNat]-1).toNat<ps.length:=by omega
  have f1:=hF _ (YK c1);refine⟨.inl ⟨by show -(2 ^ 64)<(ps[(ns[(p-1).toNat]-1).toNat]).2;omega,by show(ps[(ns[(p-1).toNat]-1).toNat]).2<2 ^ 64;omega⟩,?_⟩
  have e:exM ps ns p.toNat=(ps[(ns[(p-1).toNat]-1).toNat]).2*(ps[(ns[p.toNat]-1).toNat]).2:=by
   unfold exM
   have e1:ns.getD (p.toNat-1) 0=ns[(p-1).toNat]:=by
    rw[show p.toNat-1=(p-1).toNat by omega];exact Sz b1
   rw[e1,Sz b2,Sz c1,Sz c2]
  rw[e]at hR;exact hR
def Zfx(G:Glob K mg)(DD:Def K mg "exchanged" Fc ["numbers","place"])
  : Fh P w K mg base:=by
 refine DD.oz (k:=0) Zaa (fun _ _ _ _ _ _ E hr=>⟨_,(JQ (JT (JS Xu (JS Xu (X7 (XA (K:=K)) (pv 0) XD (X4 (JS U3 (pv 1) JM))) (Uj (bz (jx K (pv 0) (pv 1)) (jx K (pv 0) (JS U3 (pv 1) JM))))) (X7 (XA (K:=K)) (pv 0) (X4 (JS Uu (pv 1) JM)) XD)))), (JY (Xt (Xt (XH (JK 0) XE (Xy (U5 (JK 1) JL))) (Ui (tz (JP (JK 0) (JK 1)) (JP (JK 0) (U5 (JK 1) JL))))) (XH (JK 0) (Xy (Ut (JK 1) JL)) XE)))⟩) (.a fun ds R X h=>?_)
 ·obtain⟨ns,p,rfl,h1,h2,hz,hR⟩:=h;refine⟨rfl,?_⟩;have b1:p.toNat<ns.length:=by omega
  have b2:(p-1).toNat<ns.length:=by omega
  have l1:(cutD (ns.map D.int) none (some (p-1))).length<=1000:=by have:=(Ky (ns.map D.int) none (some (p-1))).length_le;rw[Yu]at this;omega
  have l2:(cutD (ns.map D.int) (some (p+1)) none).length<=1000:=by have:=(Ky (ns.map D.int) (some (p+1)) none).length_le;rw[Yu]at this;omega
  refine⟨T4 _,_,Xs (by omega) (by omega),_,Xs (by omega) (by omega),by simp,rfl,rfl,Y8 (YU l1 (Y3 2)) (by decide),T4 _,rfl,rfl,Y8 (YU (by rw[Y4];exact YU l1 (Y3 2)) l2) (by decide),?_⟩;have e:=Zdl h1 h2 (b1:=b1) (b2:=b2);rw[←e]at hR;exact hR
def Rb(G:Glob K mg)(DD:Def K mg "first_wrong_place" BN ["numbers","ranks"])
  : HY P w K mg base:=by
 refine DD.oz (k:=0) D9 (fun _ _ _ _ _ _ E hr=>⟨_,(JO (UN YN rfl (HH rfl G.range (bz JM (ln K G.len (pv 0)))) (gz 2 D9.nd) (JQ (Ua (Uk Xp (jx K (pv 1) (JS U3 (jx K (pv 0) (JS U3 (pv 2) JM)) JM)) (jx K (pv 1) (JS U3 (jx K (pv 0) (pv 2)) JM)) (Up _)) (JQ (JT (pv 2)))
   Ub))) (JQ (JT JM))), (JN (UM [2] (HV (tz JL (Uy (sz (JK 0))))) (JR 2) (Ue (JX (Xq (JP (JK 1) (U5 (JP (JK 0) (U5 (JK 2) JL)) JL)) (JP (JK 1) (U5 (JP (JK 0) (JK 2)) JL)))) (XB 2) Uc)) (JY JL))⟩) (.a fun ds R X h=>?_)
 ·obtain⟨ns,rs,rfl,hin,hz,hR⟩:=h;refine⟨rfl,?_⟩;have hl:(ns.map D.int).length=ns.length:=Yu ..
  have ix:∀(i:Nat) (k:Int),i<ns.length->k=(i:Int)->atI (ns.map D.int) k=some (.int (ns.getD i 0)):=fun i k hi e=>by
   rw[e];exact K6 (f:=D.int) (T6 (by rw[Yw,Yt hi];rfl))
  have rx:∀i:Nat,i<ns.length->atI (rs.map D.int) (ns.getD i 0-1)=some (.int (rs.getD (ns.getD i 0-1).toNat 0)):=fun i hi=>by
   have hm:ns.getD i 0∈ns:=by
    rw[Yw,Yt hi];exact YK hi
   have:=hin _ hm
   generalize ns.getD i 0=z at this;rw[Xs (f:=D.int) (xs:=rs) (by omega) (by omega),Yw,Yt (show(z-1).toNat<rs.length by omega)];rfl
  have kx:∀i:Nat,i<ns.length->(ns.map fun m=>rs.getD (m-1).toNat 0).getD i 0=rs.getD (ns.getD i 0-1).toNat 0:=fun i hi=>XY hi;have lk:(ns.map fun m=>rs.getD (m-1).toNat 0).length=ns.length:=Yu ..;refine⟨⟨by omega,by omega⟩,Ku (fun i γ'=>(∀q,1<=q->q<1+i->(ns.map fun m=>rs.getD (m-1).toNat 0).getD (q-1) 0<=(ns.map fun m=>rs.getD (m-1).toNat 0).getD q 0)/\γ'=[some (.bor (.lst (ns.map D.int))),some (.bor (.lst (rs.map D.int))),none]) ⟨fun q h1 h2=>by omega,rfl⟩ ?_ ?_⟩
  ·rintro i γ' hi ⟨h1,rfl⟩
   have hi':i+1<ns.length:=by
    have:i<((((ns.map D.int).length:Nat):Int)-1).toNat:=hi
    omega
   refine⟨_,ix i _ (by omega) (by omega),_,rx i (by omega),_,ix (i+1) _ hi' (by omega),_,rx (i+1) hi',?_⟩;refine ite2 (fun g=>?_) (fun g=>?_)
   ·have g':rs.getD (ns.getD (i+1) 0-1).toNat 0<rs.getD (ns.getD i 0-1).toNat 0:=Y0 g
    have:=hR (i+1) ⟨fun q q1 q2=>h1 q q1 (by rw[Yx (by omega)]at q2;omega),.inr ⟨by omega,by rw[lk];exact hi',by rw[kx _ hi',WN,kx _ (by omega)];exact g'⟩⟩
    rw[show((i+1:Nat):Int)=1+(i:Int) by omega]at this;exact this
   ·have g':¬rs.getD (ns.getD (i+1) 0-1).toNat 0<rs.getD (ns.getD i 0-1).toNat 0:=fun z=>g (Yy z);refine⟨fun q q1 q2=>?_,rfl⟩;by_cases c:q<1+i
    ·exact h1 q q1 c
    ·have:q=i+1:=by omega
     subst this;rw[kx _ hi',WN,kx _ (by omega)];omega
  ·rintro γ' ⟨h1,rfl⟩;refine hR 0 ⟨fun q q1 q2=>h1 q q1 ?_,.inl rfl⟩;rw[Yz rfl,lk]at q2;omega
def M4(G:Glob K mg)(DD:Def K mg "check_neighbours" SW ["strips","place"])
  : Aw P w K mg base:=by
 refine DD.ox (k:=0) Lw (fun _ _ _ _ _ _ E hr=>⟨_,(JQ (Ua (PW.pt (UL (Uk X6 (pv 1) JM (Up _)) (UU (Uk P9 (pv 1) (ln K G.len (pv 0)) (Up _))))) (JQ (ExcR.Xz G.g_NoStrip.c G.m_NoStrip ExcR.X0 rfl (az U6)))
   Ub)), (Ue (UP (JX (X8 (JK 1) JL)) (JX (PJ (JK 1) (Uy (sz (JK 0)))))) (X3 (sz U7)) Uc)⟩) (.a fun ds R X h=>?_)
 ·obtain⟨ps,p,rfl,hR⟩:=h;refine⟨rfl,?_⟩;have hl:(ps.map prD).length=ps.length:=Yu ..;refine ite2 (fun g=>iteT ?_) (fun g=>?_)
  ·rw[Yz (.inl (Y0 g))]at hR;exact⟨by simp,hR⟩
  ·have g':¬p<1:=fun z=>g (Yy z);refine ite2 (fun g2=>?_) (fun g2=>?_)
   ·have g2':((ps.map prD).length:Int)<=p:=Y0 g2;rw[Yz (.inr (by omega))]at hR;exact⟨by simp,hR⟩
   ·have g2':¬((ps.map prD).length:Int)<=p:=fun z=>g2 (Yy z);rw[Yx (by omega)]at hR;exact hR
def Zbg(G:Glob K mg)(DD:Def K mg "longer_paths" BP ["paths","left","wishes"])
  : Cq P w K mg base:=by
 refine DD.oz (k:=0) TJ (fun _ _ _ _ _ _ E hr=>⟨_,(JO (Pu.pz 3 TJ.nd (Uj U0)) (JO (Pu.pz 4 TJ.nd Zf4) (JO (UN YN rfl (U1 (K:=K) (pv 0)) (gz 5 TJ.nd) (JQ (UN YN rfl (U1 (K:=K) (pv 1)) (gz 6 TJ.nd) (JQ (Ua (PW.pt (PH (Aa (MU (UO hr) (pv 6) (pv 4))) (Nd (Uk (Kk (K:=K) (show _<cLine from UO hr)) (Ur (bz (jx K (pv 5) (X1 Xx JM)) (pv 6))) (pv 2) (by with_unfolding_all rfl))))) (JO (Su (UO hr) (pv 4) (pv 6) UG rfl) (JQ (U8 (Kd YI Wo Wp Kz (pv 3) (az (JS Xu (pv 5) (Uj (az (pv 6)))))))))
   Ub))))) (JQ (JT (pv 3)))))), (JN (JW (Ui Um) (JR 3)) (JN (JW OU (JR 4)) (JN (Ud 1 (Ud 0 (UM [5,6] (X2 (JK 0)) (JR 5) (Ud 1 (UM [6] (X2 (JK 1)) (JR 6) (Ue (P6 (st_b (MB (JK 6) (JK 4))) (JX (XG (Us (tz (JP (JK 5) (Xw JL)) (JK 6))) (JK 2)))) (JN (SG 4 (JK 6) UF) (Ud 6 (PU 3 (Xt (JK 5) (Ui (sz (JK 6))))))) Uc)))))) (XB 3))))⟩) (.a fun ds R X h=>?_)
 ·obtain⟨l,ps,ls,ws,rfl,hpl,hll,hR⟩:=h;refine⟨rfl,?_⟩
  refine⟨by simp,rfl,Xv (xs:=ps) (emb:=em l) (fun i γ'=>∃lg kvs,γ'=[some (.bor (.lst (ps.map (em l)))),some (.bor (.lst (ls.map D.int))),some (.bor (.lst (ws.map prD))),some (.own (lg.map (em l))),some (.own (.dK kvs)),none,none]/\LWs ws l ps ls lg kvs)
   ⟨[],[],rfl,(fun q hq=>by cases hq),Qq,(fun h=>by simp[valV]),Y3 _⟩ ?_ ?_⟩
  ·rintro i hi γ' ⟨lg,kvs,rfl,G⟩;have hp:=YK hi;have hpi:=hpl ps[i] hp;generalize ps[i]=p at hp hpi ⊢;refine⟨rfl,Xv (xs:=ls) (emb:=D.int) (fun j γ'=>∃lg kvs,γ'=[some (.bor (.lst (ps.map (em l)))),some (.bor (.lst (ls.map D.int))),some (.bor (.lst (ws.map prD))),some (.own (lg.map (em l))),some (.own (.dK kvs)),some (.bor (em l p)),none]/\LWs ws l ps ls lg kvs) ⟨lg,kvs,rfl,G⟩ ?_ ?_⟩
   ·rintro j hj γ' ⟨lg,kvs,rfl,G⟩;have hh:=YK hj;generalize ls[j]=h at hh ⊢;have hlen:=G.len_le;have hkl:=G.len;refine⟨.inl h,rfl,ite2 (fun g=>?_) (fun g=>iteF ⟨lg,kvs,rfl,G⟩)⟩
    have g':(valV kvs (.inl h)).isSome=false:=by
     cases e:(valV kvs (.inl h)).isSome with
     |false=>rfl
     |true=>rw[e]at g;cases g
    refine⟨_,AE l p,by simp,_,.lp (U9 l p,h) ws,ite2 (fun g2=>?_) (fun g2=>⟨lg,kvs,rfl,G⟩)⟩;refine⟨.inl h,.bl true,rfl,rfl,by omega,by simp,T4 _,rfl,by simp;omega,by rw[Yu];omega,lg++[p++[h]],_,?_,G.put hp hh g' (Y0 g2)⟩;rw[Y9]
    have e:em l (p++[h])=.lst ((l::p).map D.int++[.int h]):=by
     unfold em;rw[←W9,Y9];rfl
    rw[Qd,e];rfl
   ·rintro γ' ⟨lg,kvs,rfl,G⟩;exact⟨lg,kvs,rfl,G⟩
  ·rintro γ' ⟨lg,kvs,rfl,G⟩;exact hR lg G.g G.len_le
def RE(G:Glob K mg)(DD:Def K mg "check_place" As ["strips","place"])
  : A7 P w K mg base:=by
 refine DD.ox (k:=0) Zcy (fun _ _ _ _ _ _ E hr=>⟨_,(JQ (Ua (PW.pt (UL (Uk X6 (pv 1) JM (Up _)) (UU (Uk Xp (pv 1) (ln K G.len (pv 0)) (Up _))))) (JQ (ExcR.Xz G.g_NoStrip.c G.m_NoStrip ExcR.X0 rfl (az U6)))
   Ub)), (Ue (UP (JX (X8 (JK 1) JL)) (JX (Xq (JK 1) (Uy (sz (JK 0)))))) (X3 (sz U7)) Uc)⟩) (.a fun ds R X h=>?_)
 ·obtain⟨ps,p,rfl,hR⟩:=h;refine⟨rfl,?_⟩;have hl:(ps.map prD).length=ps.length:=Yu ..;unfold NQ at hR;refine ite2 (fun g=>iteT ?_) (fun g=>?_)
  ·rw[Yz (.inl (Y0 g))]at hR;exact⟨by simp,hR⟩
  ·have g':¬p<1:=fun z=>g (Yy z);refine ite2 (fun g2=>?_) (fun g2=>?_)
   ·have g2':((ps.map prD).length:Int)<p:=Y0 g2;rw[Yz (.inr (by omega))]at hR;exact⟨by simp,hR⟩
   ·have g2':¬((ps.map prD).length:Int)<p:=fun z=>g2 (Yy z);rw[Yx (by omega)]at hR;exact hR
def Zb3(G:Glob K mg)(DD:Def K mg "without_wish" BX ["wishes","ahead","behind"])
  : E6 P w K mg base:=by
 refine DD.ox (k:=0) Ro (fun _ _ _ _ _ _ E hr=>⟨_,(JO (Ua (Uk (Fe (K:=K) (show _<cLine from UO hr)) (Ur (bz (pv 1) (pv 2))) (pv 0) (by with_unfolding_all rfl)) (JQ (ExcR.Xz G.g_NoWish.c G.m_NoWish ExcR.X0 rfl (az U6)))
   Ub) (JQ (JT (Xg (N':=["wish","ahead","behind"]) (φ:=[none,some 1,some 2]) rfl (Own.CompOk.of (by rfl)) (U1 (K:=K) (pv 0)) (fun _ _ _ _ _=>⟨(gz 0 (show(["wish","ahead","behind"]:List Str).Nodup from by decide +kernel)),(XS (Uk (D3 (K:=K) (show _<cLine from hr.units0)) (pv 0) (Ur (bz (pv 1) (pv 2))) (Up _))),(pv 0)⟩))))), (JN (Ue (JX (XG (Us (tz (JK 1) (JK 2))) (JK 0))) (X3 (sz U7)) Uc) (Ud 2 (Ud 1 (JY (UD (Xm (JK 0)) (JR 0) (JX (CZ (JK 0) (Us (tz (JK 1) (JK 2))))) (JK 0))))))⟩) (.a fun ds R X h=>?_)
 ·obtain⟨ws,a,b,rfl,hz,hR⟩:=h;refine⟨rfl,?_⟩;unfold Xa at hR;refine⟨by simp,_,.lp (a,b) ws,ite2 (fun g=>?_) (fun g=>?_)⟩
  ·have g':¬(a,b)∈ws:=fun z=>by rw[Yz rfl,Yy z]at g;cases g
   rw[Yx g']at hR;exact⟨by simp,hR⟩
  ·have g':(a,b)∈ws:=YY fun z=>g (by rw[Yz rfl,YH z];rfl);rw[Yz g']at hR;refine UV (xs:=ws) (emb:=prD) (fun q=>if (!decide (q=(a,b)))=true then some (prD q)else none) (by omega) (fun q hq=>?_) ?_
   ·refine⟨by simp,?_⟩;show fNeT (.sh (prD q)) (.sh (prD (a,b))) _;refine O5 ?_;exact ite2 (fun h=>⟨_,rfl,Yz h⟩) (fun h=>Yx h)
   ·rw[XT (fun q:Int×Int=>!decide (q=(a,b)))];exact hR
def M5(G:Glob K mg)(DD:Def K mg "sets_of" FU ["holders"])
  : D7 P w K mg base:=by
 refine DD.oz (k:=0) NG (fun _ _ _ _ _ _ E hr=>⟨_,(JO (Pu.pz 1 NG.nd (Uj (az (Ur U0)))) (JO (UN YN rfl (U1 (K:=K) (pv 0)) (gz 2 NG.nd) (JQ (Pu.pz 1 NG.nd (JS Xu (pv 1) (Xg (N':=["members","holder"]) (φ:=[none,some 2]) rfl (Own.CompOk.of (by rfl)) (U1 (K:=K) (pv 1)) (fun _ _ _ _ _=>⟨(gz 0 (show(["members","holder"]:List Str).Nodup from by decide +kernel)),X9,(JS (Ma (K:=K)) (pv 0) (Ur (az (pv 1))))⟩)))))) (JQ (JT (pv 1))))), (JN (JW (Ui (sz (Us Um))) (JR 1)) (JN (Ud 0 (UM [2] (X2 (JK 0)) (JR 2) (Ud 2 (JW (Xt (JK 1) (UD (Xm (JK 1)) (JR 0) XC (OM (JK 0) (Us (sz (JK 1)))))) (JR 1))))) (XB 1)))⟩) (.a fun ds R X h=>?_)
 ·obtain⟨hs,rfl,hz,hR⟩:=h;refine⟨rfl,?_⟩;refine⟨by simp,by simp,rfl,Xv (xs:=hs) (emb:=D.int) (fun i γ'=>γ'=[some (.bor (.lst (hs.map D.int))),some (.own ((U2 (hs.take i)).map tD)),none]) rfl ?_ ?_⟩
  ·rintro i hi γ' rfl
   have hlen:(U2 (hs.take i)).length<=1024:=by
    rw[DL,We];exact Nat.pow_le_pow_right (j:=10) (by decide) (by omega)
   have hel:∀ms∈U2 (hs.take i),ms.length<=10:=fun ms hm=>by
    have:=(ND _ ms hm).length_le
    rw[We]at this;omega
   rw[YL hi,Pz];generalize U2 (hs.take i)=S at hlen hel ⊢;generalize hs[i]=h;refine UV (xs:=S) (emb:=tD) (fun ms=>some (tD (ms++[h]))) (by omega) (fun ms hm=>?_) ?_
   ·refine⟨by simp,_,_,Zbl ms,rfl,?_,_,rfl,?_⟩
    ·have:=hel ms hm
     rw[Yu];show ms.length+1<=100000;omega
    ·unfold tD;rw[Y9];rfl
   ·rw[mapD];refine⟨rfl,rfl,?_,?_⟩
    ·rw[Yu,Yu];omega
    ·show[_,_,_]=[_,_,_];rw[Y9,YZ];rfl
  ·rintro γ' rfl;rw[Wr];exact hR
def Zad(G:Glob K mg)(DD:Def K mg "without" Bk ["members","holder"])
  : Sg P w K mg base:=by
 refine DD.oz (k:=0) Za4 (fun _ _ _ _ _ _ E hr=>⟨_,(JQ (JT (XX (Cg (K:=K)) (by rfl) G.tuple boot_tuple (az (Xg (N':=["member","holder"]) (φ:=[none,some 1]) rfl (Own.CompOk.of (by rfl)) (PQ (K:=K) (pv 0)) (fun _ _ _ _ _=>⟨(gz 0 (show(["member","holder"]:List Str).Nodup from by decide +kernel)),(XS (cn K hr (pv 0) (pv 1))),(pv 0)⟩)))))), (JY (EW (sz (UD (SndI.c (Tv (JK 0))) (JR 0) (JX (XI (JK 0) (JK 1))) (JK 0)))))⟩) (.a fun ds R X h=>?_)
 ·obtain⟨ms,h,rfl,hz,hR⟩:=h;refine⟨rfl,?_⟩;rw[Nq];refine⟨_,rfl,UV (s:=.sh .non) (xs:=ms) (emb:=D.int) (fun m=>if decide (m≠h)=true then some (.int m)else none) (by omega) (fun m hm=>?_) ?_⟩
  ·show if (!decide (m=h))=true then _ else _;by_cases e:m=h
   ·rw[Yy e];exact iteF (by simp[e])
   ·rw[YH e];exact iteT ⟨_,rfl,Yz (Yy e)⟩
  ·rw[XT (fun m=>decide (m≠h))];exact⟨rfl,hR⟩
def MA(G:Glob K mg)(DD:Def K mg "may_lie_last" Az ["members","holder","wishes"])
  : DQ P w K mg base:=by
 refine DD.oz (k:=0) OC (fun _ _ _ _ _ _ E hr=>⟨_,(JQ (JT (Bs (UZ (DW (K:=K) rfl) (by rfl) G.any boot_any (az (Xg (N':=["ahead","behind","holder","members"]) (φ:=[none,none,some 1,some 0]) rfl (Own.CompOk.of (by rfl)) (U1 (K:=K) (pv 2)) (fun _ _ _ _ _=>⟨(P0 (K:=K) (n:=2) rfl (XJ (gz 0 (show(["ahead","behind","holder","members"]:List Str).Nodup from by decide +kernel)) (XJ (gz 1 (show(["ahead","behind","holder","members"]:List Str).Nodup from by decide +kernel)) P1))),X9,(Nl (Pa (Tw (K:=K) (show _<cLine from hr.units0)) (pv 0) (pv 2) (Up _)) (Nn (Pa (Kk (K:=K) (show _<cLine from UO hr)) (pv 1) (pv 3) (by with_unfolding_all rfl))))⟩))))))), (JY (Fj (Hj (sz (UD (Xm (JK 2)) (Tj (Kj (JR 0) (Kj (JR 1) Tq))) XC (Np (U4 (JK 0) (JK 2)) (XG (JK 1) (JK 3))))))))⟩) (.a fun ds R X h=>?_)
 ·obtain⟨ms,h,ws,rfl,hz,hR⟩:=h;refine⟨rfl,?_⟩;rw[Nq];refine UV (xs:=ws) (emb:=prD) (fun q=>some (.bl (decide (q.1=h)&&decide (q.2∈ms)))) (by omega) (fun q hq=>?_) ?_
  ·refine⟨rfl,?_⟩;show if true=true then(if decide (q.1=h)=true then _ else _)else(some (D.bl (decide (q.1=h)&&decide (q.2∈ms)))=none);refine iteT (ite2 (fun g=>⟨_,.ti _ _,?_⟩) (fun g=>?_))
   ·refine⟨_,rfl,?_⟩;rw[g,Qw];rfl
   ·refine⟨_,rfl,?_⟩;rw[WU.mpr g,Qo]
  ·rw[mapD];refine⟨ws.map fun q=>decide (q.1=h)&&decide (q.2∈ms),by rw[YZ];rfl,?_⟩;rw[List.any_map];exact hR
def Zac(G:Glob K mg)(DD:Def K mg "may_lie_first" Fg ["members","holder","wishes"])
  : EO P w K mg base:=by
 refine DD.oz (k:=0) MX (fun _ _ _ _ _ _ E hr=>⟨_,(JQ (JT (Bs (UZ (DW (K:=K) rfl) (by rfl) G.any boot_any (az (Xg (N':=["ahead","behind","holder","members"]) (φ:=[none,none,some 1,some 0]) rfl (Own.CompOk.of (by rfl)) (U1 (K:=K) (pv 2)) (fun _ _ _ _ _=>⟨(P0 (K:=K) (n:=2) rfl (XJ (gz 0 (show(["ahead","behind","holder","members"]:List Str).Nodup from by decide +kernel)) (XJ (gz 1 (show(["ahead","behind","holder","members"]:List Str).Nodup from by decide +kernel)) P1))),X9,(Nl (Pa (Tw (K:=K) (show _<cLine from hr.units0)) (pv 1) (pv 2) (Up _)) (Nn (Pa (Kk (K:=K) (show _<cLine from UO hr)) (pv 0) (pv 3) (by with_unfolding_all rfl))))⟩))))))), (JY (Fj (Hj (sz (UD (Xm (JK 2)) (Tj (Kj (JR 0) (Kj (JR 1) Tq))) XC (Np (U4 (JK 1) (JK 2)) (XG (JK 0) (JK 3))))))))⟩) (.a fun ds R X h=>?_)
 ·obtain⟨ms,h,ws,rfl,hz,hR⟩:=h;refine⟨rfl,?_⟩;rw[Nq];refine UV (xs:=ws) (emb:=prD) (fun q=>some (.bl (decide (q.2=h)&&decide (q.1∈ms)))) (by omega) (fun q hq=>?_) ?_
  ·refine⟨rfl,?_⟩;show if true=true then(if decide (q.2=h)=true then _ else _)else(some (D.bl (decide (q.2=h)&&decide (q.1∈ms)))=none);refine iteT (ite2 (fun g=>⟨_,.ti _ _,?_⟩) (fun g=>?_))
   ·refine⟨_,rfl,?_⟩;rw[g,Qw];rfl
   ·refine⟨_,rfl,?_⟩;rw[WU.mpr g,Qo]
  ·rw[mapD];refine⟨ws.map fun q=>decide (q.2=h)&&decide (q.1∈ms),by rw[YZ];rfl,?_⟩;rw[List.any_map];exact hR
def Ls(G:Glob K mg)(DD:Pu.DefM K (Meth K (ExcR.JU mg "Village") "strips") "strips" "Village.strips" Fq ["self"])
  : K4 P w K mg base:=by
 refine DD.oz (k:=0) Za1 (fun _ _ _ _ _ _ E hr=>⟨_,(JQ (JT (XX (T3 (K:=K)) (by rfl) G.list boot_list (az (jx K (Kr (pv 0) rfl) (X1 Xx JM)))))), (JY (Tg (sz (JP (Nf 1 G.cl_Village G.n_Village_fields Al (JK 0)) (Xw JL)))))⟩) (.a fun ds R X h=>?_)
 ·obtain⟨bk,fs,ws,f,rfl,hR⟩:=h;refine⟨rfl,?_⟩;exact⟨rfl,rfl,_,rfl,_,Nz plD fs f,KA _,hR⟩
def Zgl(G:Glob K mg)(DD:Pu.DefM K (Meth K (ExcR.JU mg "Village") "wishes") "wishes" "Village.wishes" BH ["self"])
  : Pi P w K mg base:=by
 refine DD.oz (k:=0) OF (fun _ _ _ _ _ _ E hr=>⟨_,(JQ (JT (XX (T3 (K:=K)) (by rfl) G.list boot_list (az (jx K (Kr (pv 0) rfl) (X1 Xx JM)))))), (JY (Tg (sz (JP (Nf 2 G.cl_Village G.n_Village_wished Au (JK 0)) (Xw JL)))))⟩) (.a fun ds R X h=>?_)
 ·obtain⟨bk,fs,ws,f,rfl,hR⟩:=h;refine⟨rfl,?_⟩;exact⟨rfl,rfl,_,rfl,_,Nz plD ws f,KA _,hR⟩
def Zgt(G:Glob K mg)(DD:Pu.DefM K (Meth K (ExcR.JU mg "Village") "check_room") "check_room" "Village.check_room" SS ["self"])
  : PZ P w K mg base:=by
 refine DD.ox (k:=0) Mq (fun _ _ _ _ _ _ E hr=>⟨_,(JQ (Ua (Uk P9 (ln K G.len (Kr (pv 0) rfl)) (ExcR.XM G.MOST_DEEDS) (Up _)) (JQ (ExcR.Xz G.g_BookFull.c G.m_BookFull ExcR.X0 rfl (az (ExcR.pe_f (ExcR.Kn (ExcR.Px (ExcR.XM G.MOST_DEEDS) (ExcR.Kn ExcR.P8)))))))
   Ub)), (Ue (JX (PJ (Uy (sz (Nf 0 G.cl_Village G.n_Village_book Na (JK 0)))) JL)) (X3 (sz (se_f (Kg (Pk JL (Kg Pr)))))) Uc)⟩) (.a fun ds R X h=>?_)
 ·obtain⟨bk,fs,ws,rfl,hR⟩:=h;refine⟨rfl,?_⟩;have hl:(bk.map dD).length=bk.length:=Yu ..;unfold PD at hR;refine⟨rfl,rfl,_,rfl,ite2 (fun g=>?_) (fun g=>?_)⟩
  ·have g':(100:Int)<=((bk.map dD).length:Int):=Y0 g;rw[Yz (by omega)]at hR;exact⟨by decide,by decide,by decide,by decide,by decide,by simp,hR⟩
  ·have g':¬(100:Int)<=((bk.map dD).length:Int):=fun z=>g (Yy z);rw[Yx (by omega)]at hR;exact hR
def Zcm(G:Glob K mg)(DD:Pu.DefM K (Meth K (ExcR.JU mg "Village") "enter") "enter" "Village.enter" BW ["self","deed","field","wishes"])
  : PP P w K mg base:=by
 refine DD.oz (k:=0) Ow (fun _ _ _ _ _ _ E hr=>⟨_,(JO (U8 (Kd YI Wo Wp Kz (Kr (pv 0) rfl) (az (pv 1)))) (JO (U8 (Kd YI Wo Wp Kz (Kr (pv 0) rfl) (az (pv 2)))) (JO (U8 (Kd YI Wo Wp Kz (Kr (pv 0) rfl) (az (pv 3)))) (JQ (JT (ln K G.len (Kr (pv 0) rfl))))))), (JN (Ud 1 (PB (Ad 0 0 G.cl_Village G.n_Village_book Na (JK 1)))) (JN (Ud 2 (PB (Ad 0 1 G.cl_Village G.n_Village_fields Al (JK 2)))) (JN (Ud 3 (PB (Ad 0 2 G.cl_Village G.n_Village_wished Au (JK 3)))) (Tu (Uy (sz (Nf 0 G.cl_Village G.n_Village_book Na (JK 0))))))))⟩) (.c fun o ss R X h=>?_)
 ·obtain⟨x,b1,b2,b3,bk,fs,ws,q,f,w,rfl,rfl,h1,h2,h3,hR⟩:=h;refine⟨rfl,?_⟩;have k1:(bk.map dD).length<10000000:=by rw[Yu];omega
  have k2:(fs.map plD).length<10000000:=by rw[Yu];omega
  have k3:(ws.map plD).length<10000000:=by rw[Yu];omega
  refine⟨rfl,rfl,_,rfl,k1,rfl,rfl,_,rfl,k2,rfl,rfl,_,rfl,k3,rfl,rfl,_,rfl,_,rfl,⟨rfl,by simp⟩,?_⟩;have e:(((bk.map dD++[dD q]).length:Nat):Int)=(bk.length:Int)+1:=by rw[Y4,Yu];simp
  show R (.ins x _ vF [(b1,bk.map dD++[dD q]),(b2,fs.map plD++[plD f]),(b3,ws.map plD++[plD w])]) (.int (((bk.map dD++[dD q]).length:Nat):Int));rw[e];have e1:bk.map dD++[dD q]=(bk++[q]).map dD:=by rw[Y9];rfl
  have e2:fs.map plD++[plD f]=(fs++[f]).map plD:=by rw[Y9];rfl
  have e3:ws.map plD++[plD w]=(ws++[w]).map plD:=by rw[Y9];rfl
  rw[e1,e2,e3];exact hR
def Zgw(G:Glob K mg)(DD:Pu.DefM K (Meth K (ExcR.JU mg "Village") "take_back") "take_back" "Village.take_back" SM ["self"])
  : HJ P w K mg base:=by
 refine DD.ox (k:=0) Zfn (fun _ _ _ _ _ _ E hr=>⟨_,(JO (Ua (Xi (UC (K:=K) (Kr (pv 0) rfl))) (JQ (ExcR.Xz G.g_NothingDone.c G.m_NothingDone ExcR.X0 rfl (az U6)))
   Ub) (JO (U8 (TX YI Q8 Q9 SA (Kr (pv 0) rfl))) (JO (U8 (TX YI Q8 Q9 SA (Kr (pv 0) rfl))) (JQ (JT (TX YI Q8 Q9 SA (Kr (pv 0) rfl))))))), (JN (Ue (Xr (UT (Nf 0 G.cl_Village G.n_Village_book Na (JK 0)))) (X3 (sz U7)) Uc) (JN (PB (BK 0 1 G.cl_Village G.n_Village_fields Al)) (JN (PB (BK 0 2 G.cl_Village G.n_Village_wished Au)) (Kt (BK 0 0 G.cl_Village G.n_Village_book Na)))))⟩) (.c fun o ss R X h=>?_)
 ·obtain⟨x,b1,b2,b3,bk,fs,ws,rfl,rfl,h1,h2,hX,hR⟩:=h;refine⟨rfl,?_⟩;have emp:(bk.map dD).isEmpty=decide (bk=[]):=by cases bk<;>simp
  refine⟨rfl,rfl,_,rfl,?_⟩;show if (!(!(bk.map dD).isEmpty))=true then _ else _;rw[Bool.not_not,emp];refine ite2 (fun g=>⟨by simp,_,rfl,⟨rfl,by simp⟩,hX (Y0 g)⟩) (fun g=>?_);have hne:bk≠[]:=fun z=>g (Yy z);obtain⟨b0,q,rfl⟩:∃b0 q,bk=b0++[q]:=⟨_,_,(List.dropLast_concat_getLast hne).symm⟩;have hl:(b0++[q]).length=b0.length+1:=by simp
  have f1:(fs.map plD)[(fs.map plD).length-1]?=some (plD (fs[fs.length-1]'(by omega))):=by
   rw[Yu,Y6,Yt (by omega)];rfl
  have w1:(ws.map plD)[(ws.map plD).length-1]?=some (plD (ws[ws.length-1]'(by omega))):=by
   rw[Yu,Y6,Yt (by omega)];rfl
  have q1:((b0++[q]).map dD)[((b0++[q]).map dD).length-1]?=some (dD q):=by
   rw[Yu,Y6,hl,WN,Wc (Y3 _),VE];rfl
  refine⟨rfl,rfl,_,_,rfl,f1,rfl,rfl,_,_,rfl,w1,rfl,rfl,_,_,rfl,q1,_,rfl,⟨rfl,by simp⟩,?_⟩;have e1:((b0++[q]).map dD).dropLast=b0.map dD:=by rw[Y9];exact WT
  have e2:(fs.map plD).dropLast=fs.dropLast.map plD:=List.map_dropLast.symm;have e3:(ws.map plD).dropLast=ws.dropLast.map plD:=List.map_dropLast.symm
  have:=hR b0 q rfl
  rw[show vO (ExcR.JU mg "Village") x b1 b2 b3 b0 fs.dropLast ws.dropLast=.ins x (ExcR.JU mg "Village") vF [(b1,((b0++[q]).map dD).dropLast),(b2,(fs.map plD).dropLast),(b3,(ws.map plD).dropLast)] by rw[e1,e2,e3]]at this;exact this
def Zcg(G:Glob K mg)(DD:Def K mg "_law_at" Fb ["_law_script","_law_k"])
  : Te P w K mg base:=by
 refine DD.oz (k:=0) Oo (fun _ _ _ _ _ _ E hr=>⟨_,(JO (Ua (Uk X6 (pv 1) (ln K G.len (pv 0)) (Up _)) (JQ (JT (jx K (pv 0) (pv 1))))
   Ub) (JQ (JT JM))), (JN (Ue (JX (X8 (JK 1) (Uy (sz (JK 0))))) (JY (JP (JK 0) (JK 1))) Uc) (JY JL))⟩) (.a fun ds R X h=>?_)
 ·obtain⟨ns,k,rfl,hk,hR⟩:=h;refine⟨rfl,?_⟩;refine ite2 (fun g=>?_) (fun g=>?_)
  ·have g':k<(ns.length:Int):=Y0 g;have e:=Yt (show k.toNat<ns.length by omega);rw[Yw,e]at hR;exact⟨_,TR hk e,hR⟩
  ·have g':¬k<(ns.length:Int):=fun z=>g (Yy z);rw[Yw,Qf (by omega)]at hR;exact hR
def Zhq(G:Glob K mg)(DD:Def K mg "_law_whole" Ba ["_law_found"])
  : N5 P w K mg base:=by
 refine DD.oz (k:=0) Mz (fun _ _ _ _ _ _ E hr=>⟨_,(JQ (JT (Nl (UZ (KI (K:=K)) (by rfl) G.isinstance WI (bz (pv 0) (KL (v:=.ty "int") rfl G.int boot_int rfl))) (Nn (Bs (UZ (KI (K:=K)) (by rfl) G.isinstance WI (bz (pv 0) (KL (v:=.ty "bool") rfl G.bool boot_bool rfl)))))))), (JY (Np (KE (tz (JK 0) KM)) (Fj (KE (tz (JK 0) KM)))))⟩) (.a fun ds R X h=>?_)
 ·obtain⟨i,rfl,hR⟩:=h;refine⟨rfl,?_⟩;exact⟨_,.same _,_,.ib,hR⟩
def Ml(G:Glob K mg)(DD:Def K mg "_law_mix" A6 ["_law_cell","_law_place_here"])
  : Nu P w K mg base:=by
 refine DD.oz (k:=0) GK (fun _ _ _ _ _ _ E hr=>⟨_,(JO (Pu.pz 2 GK.nd (JS Uw (JS KZ (JS Uu (JS Uu (JS Uw (pv 0) JM) (JS KZ JM (pv 1))) JM) JM) JM)) (JQ (JT (JS Uw (JS KZ (JS Uu (JS Uu (pv 2) (JS KZ JM (pv 1))) JM) JM) JM)))), (JN (JW (Ux (KU (Ut (Ut (Ux (JK 0) JL) (KU JL (JK 1))) JL) JL) JL) (JR 2)) (JY (Ux (KU (Ut (Ut (JK 2) (KU JL (JK 1))) JL) JL) JL)))⟩) (.a fun ds R X h=>?_)
 ·obtain⟨c,p,rfl,hR⟩:=h;refine⟨rfl,?_⟩;unfold mixP at hR;exact⟨(by show(0:Int)<2147483647;decide),.inl ⟨by decide,by decide⟩,.inr ⟨by decide,by decide⟩,(by show(0:Int)<2147483647;decide),.inl ⟨by decide,by decide⟩,.inr ⟨by decide,by decide⟩,(by show(0:Int)<2147483647;decide),hR⟩
def Zea(G:Glob K mg)(DD:Def K mg "_law_menu" BS ["_law_cell"])
  : CB P w K mg base:=by
 refine DD.oz (k:=0) F5 (fun _ _ _ _ _ _ E hr=>⟨_,(JO (Pu.pz 1 F5.nd (jx K (Uj (Ug JM (Ug JM (Ug JM (Ug JM (Ug JM U0)))))) (JS Uw (JS UY (pv 0) JM) JM))) (JO (Pu.pz 2 F5.nd (jx K (Uj (Ug JM (Ug JM (Ug JM (Ug JM (Ug JM U0)))))) (JS Uw (JS UY (pv 0) JM) JM))) (JQ (JT (Uj (Ug (JS Uu JM (JS Uw (pv 0) JM)) (Ug (jx K (Uj (Ug JM (Ug JM (Ug JM (Ug JM U0))))) (JS Uw (JS UY (pv 0) JM) JM)) (Ug (JS Uw (JS UY (pv 0) JM) JM) (Ug (pv 1) (Ug (pv 2) U0)))))))))), (JN (JW (JP (Ui (Uh JL (Uh JL (Uh JL (Uh JL (Uh JL Um)))))) (Ux (Xb (JK 0) JL) JL)) (JR 1)) (JN (JW (JP (Ui (Uh JL (Uh JL (Uh JL (Uh JL (Uh JL Um)))))) (Ux (Xb (JK 0) JL) JL)) (JR 2)) (Ud 2 (Ud 1 (JY (Ui (Uh (Ut JL (Ux (JK 0) JL)) (Uh (JP (Ui (Uh JL (Uh JL (Uh JL (Uh JL Um))))) (Ux (Xb (JK 0) JL) JL)) (Uh (Ux (Xb (JK 0) JL) JL) (Uh (JK 1) (Uh (JK 2) Um)))))))))))⟩) (.a fun ds R X h=>?_)
 ·obtain⟨c,rfl,hR⟩:=h;refine⟨rfl,?_⟩;have h1:0<=c / 10 % 4/\c / 10 % 4<4:=by omega
  have h2:0<=c / 400 % 5/\c / 400 % 5<5:=by omega
  have hb:∀v∈([1,3,7,9]:List Int),1<=v/\v<=9/\(v=1\/v=3\/v=7\/v=9):=by decide
  have hde:∀i:Int,0<=i->i<5->∃d e:Int,atI [D.int 1000,.int 3,.int 1,.int 2,.int 3] i=some (.int d)/\atI [D.int 1,.int 1,.int 1,.int 1,.int 998] i=some (.int e)/\(1<=d/\d<=1000)/\1<=e/\e+d<=1001:=fun i a b=>by
   have:i=0\/i=1\/i=2\/i=3\/i=4:=by omega
   rcases this with rfl|rfl|rfl|rfl|rfl
   ·exact⟨1000,1,rfl,rfl,by decide,by decide,by decide⟩
   ·exact⟨3,1,rfl,rfl,by decide,by decide,by decide⟩
   ·exact⟨1,1,rfl,rfl,by decide,by decide,by decide⟩
   ·exact⟨2,1,rfl,rfl,by decide,by decide,by decide⟩
   ·exact⟨3,998,rfl,rfl,by decide,by decide,by decide⟩
  obtain⟨d,e,e1,e2,hd,he⟩:=hde _ h2.1 h2.2;have hbb:=hb _ (YK (l:=([1,3,7,9]:List Int)) (n:=(c / 10 % 4).toNat) (by show(c / 10 % 4).toNat<4;omega));refine⟨by simp,⟨by decide,by decide⟩,(by show(0:Int)<5;decide),_,e1,by simp,⟨by decide,by decide⟩,(by show(0:Int)<5;decide),_,e2,(by show(0:Int)<10;decide),by simp,⟨by decide,by decide⟩,(by show(0:Int)<4;decide),_,Xs (f:=D.int) (xs:=[1,3,7,9]) h1.1 h1.2,⟨by decide,by decide⟩,(by show(0:Int)<10;decide),by simp,?_⟩;exact hR [_,_,_,_,_] ⟨_,_,_,_,_,rfl,by omega,hbb,by omega,hd,he⟩
def OI(G:Glob K mg)(DD:Def K mg "_law_holder" AF ["_law_menu_here","_law_k"])
  : N0 P w K mg base:=by
 refine DD.oz (k:=0) Zau (fun _ _ _ _ _ _ E hr=>⟨_,(JQ (JT (JS Uu JM (JS Uw (JS Uu (JS KZ (pv 1) (jx K (pv 0) JM)) (jx K (pv 0) JM)) JM)))), (JY (Ut JL (Ux (Ut (KU (JK 1) (JP (JK 0) JL)) (JP (JK 0) JL)) JL)))⟩) (.a fun ds R X h=>?_)
 ·obtain⟨m,k,rfl,hM,hR⟩:=h;refine⟨rfl,?_⟩;obtain⟨a,b,c,d,e,rfl,ha,hb,hc,hd,he⟩:=hM;exact⟨_,rfl,.inr ⟨by omega,by omega⟩,_,rfl,(by show(0:Int)<10;decide),hR _ (by omega) (by omega) rfl⟩
def Za0(G:Glob K mg)(DD:Def K mg "_law_present" Fx ["_law_strips"])
  : BB P w K mg base:=by
 refine DD.oz (k:=0) El (fun _ _ _ _ _ _ E hr=>⟨_,(JO (Pu.pz 1 El.nd (Xg (N':=["_law_strip"]) (φ:=[none]) rfl (Own.CompOk.of (by rfl)) (U1 (K:=K) (pv 0)) (fun _ _ _ _ _=>⟨(gz 0 (show(["_law_strip"]:List Str).Nodup from by decide +kernel)),X9,(jx K (pv 0) JM)⟩))) (JQ (JT (Xg (N':=["_law_holder_here","_law_owners"]) (φ:=[none,some 1]) rfl (Own.CompOk.of (by rfl)) (HH rfl G.range (bz JM JM)) (fun _ _ _ _ _=>⟨(gz 0 (show(["_law_holder_here","_law_owners"]:List Str).Nodup from by decide +kernel)),(XS (Uk (Kk (K:=K) (show _<cLine from UO hr)) (pv 0) (pv 1) (by with_unfolding_all rfl))),(pv 0)⟩))))), (JN (JW (UD (Xm (JK 0)) (JR 0) XC (JP (JK 0) JL)) (JR 1)) (JY (UD (SndI.c (HV (tz JL JL))) (JR 0) (JX (XG (JK 0) (JK 1))) (JK 0))))⟩) (.a fun ds R X h=>?_)
 ·obtain⟨ps,rfl,hz,hR⟩:=h;refine⟨rfl,?_⟩;refine UV (xs:=ps) (emb:=prD) (fun q=>some (.int q.1)) (by omega) (fun q hq=>⟨_,rfl,_,rfl,rfl⟩) ?_;rw[mapD (fun q:Int×Int=>D.int q.1),show ps.map (fun q:Int×Int=>D.int q.1)=(ps.map (·.1)).map D.int by rw[YZ];rfl];refine⟨⟨by decide,by decide,by decide,by decide⟩,Sk (n:=10) (fun i=>if decide ((1:Int)+(i:Int)∈ps.map (·.1))=true then some (.int (1+(i:Int)))else none) (by decide) (fun i hi=>?_) ?_⟩
  ·exact⟨_,.li _ _,ite2 (fun g=>⟨_,rfl,Yz g⟩) (fun g=>Yx g)⟩
  rw[XT (fun i:Nat=>decide ((1:Int)+(i:Int)∈ps.map (·.1)))]
  have e:((List.range 10).filter fun i:Nat=>decide ((1:Int)+(i:Int)∈ps.map (·.1))).map (fun i:Nat=>D.int (1+(i:Int)))=(Ul ps).map D.int:=by
   unfold Ul;rw[RM,List.filter_map,YZ];rfl
  rw[e];exact hR
def OL(G:Glob K mg)(DD:Def K mg "_law_kept" F7 ["_law_order","_law_wishes"])
  : Il P w K mg base:=by
 refine DD.oz (k:=0) AI (fun _ _ _ _ _ _ E hr=>⟨_,(JO (UN YN rfl (U1 (K:=K) (pv 1)) (P0 (K:=K) (n:=2) rfl (XJ (gz 2 AI.nd) (XJ (gz 3 AI.nd) P1))) (JQ (Ua (PW.pt (PH (Uk (Kk (K:=K) (show _<cLine from UO hr)) (pv 2) (pv 0) (by with_unfolding_all rfl)) (PH (Uk (Kk (K:=K) (show _<cLine from UO hr)) (pv 3) (pv 0) (by with_unfolding_all rfl)) (Nd (Uk Xp (PV (K:=K) YI W8 WH (Tf (K:=K)) (pv 0) (az (pv 2))) (PV (K:=K) YI W8 WH (Tf (K:=K)) (pv 0) (az (pv 3))) (Up _)))))) (JQ (JT UG))
   Ub))) (JQ (JT UG))), (JN (Ud 1 (UM [2,3] (X2 (JK 1)) (Tj (Kj (JR 2) (Kj (JR 3) Tq))) (Ue (P6 (JX (XG (JK 2) (JK 0))) (P6 (JX (XG (JK 3) (JK 0))) (JX (Xq (Tx (JK 0) (sz (JK 2))) (Tx (JK 0) (sz (JK 3))))))) (JY UF) Uc))) (JY UF))⟩) (.a fun ds R X h=>?_)
 ·obtain⟨os,ws,rfl,hR1,hR2⟩:=h;refine⟨rfl,?_⟩;refine⟨rfl,Xv (xs:=ws) (emb:=prD) (fun i γ'=>γ'=[some (.bor (.lst (os.map D.int))),some (.bor (.lst (ws.map prD))),none,none]/\∀q∈ws.take i,badM os q=false) ⟨rfl,by simp⟩ ?_ ?_⟩
  ·rintro i hi γ' ⟨rfl,hb⟩;have hq:=YK hi
   have next:badM os ws[i]=false->∀q∈ws.take (i+1),badM os q=false:=fun h q hq=>by
    rw[YL hi,YR,Y5]at hq;rcases hq with hq|hq
    ·exact hb q hq
    ·rw[hq];exact h
   generalize ws[i]=q at hq next ⊢;refine⟨rfl,_,.li _ _,ite2 (fun g1=>⟨_,.li _ _,ite2 (fun g2=>?_) (fun g2=>?_)⟩) (fun g1=>?_)⟩
   ·have g1':decide (q.1∈os)=true:=g1;have g2':decide (q.2∈os)=true:=g2;refine⟨⟨_,rfl⟩,os,rfl,Y0 g1',⟨_,rfl⟩,os,rfl,Y0 g2',?_⟩;refine ite2 (fun g3=>?_) (fun g3=>?_)
    ·have g3':=Y0 g3;refine hR2 ⟨q,hq,?_⟩;unfold badM;rw[g1',g2',Yy (by omega)];rfl
    ·have g3':¬((os.idxOf q.2:Nat):Int)<((os.idxOf q.1:Nat):Int):=fun z=>g3 (Yy z);refine⟨rfl,next ?_⟩;unfold badM;rw[g1',g2',YH (by omega)];rfl
   ·refine iteF ⟨rfl,next ?_⟩;have g2':decide (q.2∈os)=false:=WU.mpr g2;unfold badM;rw[g2',Qo,Vx]
   ·refine iteF ⟨rfl,next ?_⟩;have g1':decide (q.1∈os)=false:=WU.mpr g1;unfold badM;rw[g1',Qo]
  ·rintro γ' ⟨rfl,hb⟩;rw[Wr]at hb;exact hR1 hb
def OY(G:Glob K mg)(DD:Def K mg "_law_no_ring" Ae ["_law_holders","_law_wishes"])
  : Gn P w K mg base:=by
 refine DD.oz (k:=0) PY (fun _ _ _ _ _ _ E hr=>⟨_,(JO (Pu.pz 2 PY.nd (XX (T3 (K:=K)) (by rfl) G.list boot_list (az (pv 0)))) (JO (UN YN rfl (U1 (K:=K) (pv 0)) (gz 3 PY.nd) (JO (KY (N':=["_law_pair_here","_law_left"]) (φ:=[none,some 2]) (i:=4) PY.nd rfl rfl rfl (Own.CompOk.of (by rfl)) (U1 (K:=K) (pv 1)) (fun _ _ _ _ _=>⟨(gz 0 (show(["_law_pair_here","_law_left"]:List Str).Nodup from by decide +kernel)),(XS (PW.pt (PH (Uk (Kk (K:=K) (show _<cLine from UO hr)) (jx K (pv 0) JM) (pv 1) (by with_unfolding_all rfl)) (Nd (Uk (Kk (K:=K) (show _<cLine from UO hr)) (jx K (pv 0) JM) (pv 1) (by with_unfolding_all rfl)))))),(pv 0)⟩)) (JO (Pu.pz 5 PY.nd (Xg (N':=["_law_pair_here"]) (φ:=[none]) rfl (Own.CompOk.of (by rfl)) (U1 (K:=K) (pv 4)) (fun _ _ _ _ _=>⟨(gz 0 (show(["_law_pair_here"]:List Str).Nodup from by decide +kernel)),X9,(jx K (pv 0) JM)⟩))) (JQ (Pu.pz 2 PY.nd (Xg (N':=["_law_holder_here","_law_behind"]) (φ:=[none,some 5]) rfl (Own.CompOk.of (by rfl)) (U1 (K:=K) (pv 2)) (fun _ _ _ _ _=>⟨(gz 0 (show(["_law_holder_here","_law_behind"]:List Str).Nodup from by decide +kernel)),(XS (Uk (Kk (K:=K) (show _<cLine from UO hr)) (pv 0) (pv 1) (by with_unfolding_all rfl))),(pv 0)⟩))))))) (JQ (JT (Pa (Gy (K:=K) (show _<cLine from hr.units0)) (pv 2) (Uj U0) (Up _)))))), (JN (JW (Tg (sz (JK 0))) (JR 2)) (JN (Ud 0 (UM [3,4,5] (X2 (JK 0)) (JR 3) (JN (JW (UD (Xm (JK 1)) (JR 0) (P6 (JX (XG (JP (JK 0) JL) (JK 1))) (JX (XG (JP (JK 0) JL) (JK 1)))) (JK 0)) (JR 4)) (JN (JW (UD (Xm (JK 4)) (JR 0) XC (JP (JK 0) JL)) (JR 5)) (JW (UD (Xm (JK 2)) (JR 0) (JX (XG (JK 0) (JK 1))) (JK 0)) (JR 2)))))) (JY (AS (JK 2) (Ui Um)))))⟩) (.a fun ds R X h=>?_)
 ·obtain⟨hs,ws,rfl,hz,hw,hR⟩:=h;refine⟨rfl,?_⟩;refine⟨T4 _,rfl,Xv (xs:=hs) (emb:=D.int) (fun i γ'=>γ'=[some (.bor (.lst (hs.map D.int))),some (.bor (.lst (ws.map prD))),some (.own ((UA ws hs i).map D.int)),none,none,none]/\(UA ws hs i).length<=50) ⟨rfl,hz⟩ ?_ ?_⟩
  ·rintro i hi γ' ⟨rfl,hl⟩;generalize e:UA ws hs i=ls at hl;have e2:UA ws hs (i+1)=XW ws ls:=Wj (XW ws) e;have li:(Pg ws ls).length<=50:=Y8 (Wd _ _) hw;refine UV (xs:=ws) (emb:=prD) (fun q=>if (decide (q.1∈ls)&&decide (q.2∈ls))=true then some (prD q)else none) (by omega) (fun q hq=>?_) ?_
   ·refine⟨_,rfl,_,.li _ _,ite2 (fun g1=>⟨_,rfl,_,.li _ _,ite2 (fun g2=>⟨_,rfl,Yz ?_⟩) (fun g2=>Yx ?_)⟩) (fun g1=>iteF (Yx ?_))⟩
    ·have g1':decide (q.1∈ls)=true:=g1;have g2':decide (q.2∈ls)=true:=g2;rw[g1',g2'];rfl
    ·have g2':decide (q.2∈ls)=false:=WU.mpr g2;rw[g2',Vx];exact YG
    ·have g1':decide (q.1∈ls)=false:=WU.mpr g1;rw[g1',Qo];exact YG
   rw[XT (fun q:Int×Int=>decide (q.1∈ls)&&decide (q.2∈ls))];show _;refine UV (xs:=Pg ws ls) (emb:=prD) (fun q=>some (.int q.2)) (by omega) (fun q hq=>⟨_,rfl,_,rfl,rfl⟩) ?_;rw[mapD (fun q:Int×Int=>D.int q.2),show(Pg ws ls).map (fun q:Int×Int=>D.int q.2)=((Pg ws ls).map (·.2)).map D.int by rw[YZ];rfl];refine UV (xs:=ls) (emb:=D.int) (fun h=>if decide (h∈(Pg ws ls).map (·.2))=true then some (.int h)else none) (by omega) (fun h hh=>?_) ?_
   ·exact⟨_,.li _ _,ite2 (fun g=>⟨_,rfl,Yz g⟩) (fun g=>Yx g)⟩
   rw[XT (fun h:Int=>decide (h∈(Pg ws ls).map (·.2)))];exact⟨by rw[e2];rfl,by rw[e2];exact Y8 (Wd _ _) hl⟩
  ·rintro γ' ⟨rfl,hl⟩;refine⟨WA _,?_⟩;have e:((UA ws hs hs.length).map D.int).isEmpty=decide (UA ws hs hs.length=[]):=by cases UA ws hs hs.length<;>simp
   show R (.sh (.bl ((UA ws hs hs.length).map D.int).isEmpty));rw[e];exact hR
def O1(G:Glob K mg)(DD:Def K mg "_law_ends" By ["_law_strips","_law_order"])
  : GO P w K mg base:=by
 refine DD.oz (k:=0) F3 (fun _ _ _ _ _ _ E hr=>⟨_,(JO (Pu.pz 2 F3.nd (Uj U0)) (JO (UN YN rfl (U1 (K:=K) (pv 1)) (gz 3 F3.nd) (JQ (U8 (Kd YI PySem.F.slot_list_extend PySem.F.type_list_extend De (pv 2) (az (Xg (N':=["_law_k","_law_holder_here","_law_strips"]) (φ:=[none,some 3,some 0]) rfl (Own.CompOk.of (by rfl)) (Kp rfl G.range (az (ln K G.len (pv 0)))) (fun _ _ _ _ _=>⟨(gz 0 (show(["_law_k","_law_holder_here","_law_strips"]:List Str).Nodup from by decide +kernel)),(XS (cq K hr (jx K (jx K (pv 2) (pv 0)) JM) (pv 1))),(JS Uu (pv 0) JM)⟩))))))) (JQ (JT (pv 2))))), (JN (JW (Ui Um) (JR 2)) (JN (Ud 1 (UM [3] (X2 (JK 1)) (JR 3) (HP 2 (UD (SndI.c (Ks (sz (Uy (sz (JK 0)))))) (JR 0) (JX (U4 (JP (JP (JK 2) (JK 0)) JL) (JK 1))) (Ut (JK 0) JL))))) (XB 2)))⟩) (.a fun ds R X h=>?_)
 ·obtain⟨ps,o,rfl,hz,ho,hR⟩:=h;refine⟨rfl,?_⟩;have hl:(ps.map prD).length=ps.length:=Yu ..;refine⟨by simp,rfl,Xv (xs:=o) (emb:=D.int) (fun i γ'=>γ'=[some (.bor (plD ps)),some (.bor (.lst (o.map D.int))),some (.own (((o.take i).flatMap (numN ps)).map D.int)),none]) rfl ?_ ?_⟩
  ·rintro i hi γ' rfl;have hg:=Zgz ps (o.take i);have ht:(o.take i).length<=50:=by rw[We];omega
   have hm:=Nat.mul_le_mul ht hz;have ln:=HL ps o[i];refine⟨⟨by omega,by omega⟩,Sk (fun k=>if decide ((ps.getD k (0,0)).1=o[i])=true then some (.int (0+(k:Int)+1))else none) (by omega) (fun k hk=>?_) ?_⟩
   ·have hk':k<ps.length:=by omega
    have k1:atI (ps.map prD) (0+(k:Int))=some (prD ps[k]):=by
     rw[show(0:Int)+(k:Int)=(k:Int) by omega];exact K6 (f:=prD) (T6 (Yt hk'))
    have k2:ps.getD k (0,0)=ps[k]:=by rw[Yw,Yt hk'];rfl
    rw[k2];refine⟨_,k1,_,rfl,?_⟩;exact ite2 (fun g=>⟨_,rfl,Yz g⟩) (fun g=>Yx g)
   rw[XT (fun k:Nat=>decide ((ps.getD k (0,0)).1=o[i]))]
   have em:((List.range (((ps.map prD).length:Nat):Int).toNat).filter (fun k:Nat=>decide ((ps.getD k (0,0)).1=o[i]))).map (fun k:Nat=>D.int (0+(k:Int)+1))=(numN ps o[i]).map D.int:=by
    unfold numN;rw[YZ,show(((ps.map prD).length:Nat):Int).toNat=ps.length by omega];rfl
   rw[em];refine⟨by rw[Yu,Yu];omega,?_⟩
   have et:(o.take (i+1)).flatMap (numN ps)=(o.take i).flatMap (numN ps)++numN ps o[i]:=by
    rw[YL hi,Vw];simp
   rw[et,Y9];rfl
  ·rintro γ' rfl;rw[Wr];exact hR
def Zcc(G:Glob K mg)(DD:Def K mg "_law_turned" AD ["_law_strips","_law_order"])
  : EB P w K mg base:=by
 refine DD.oz (k:=0) T8 (fun _ _ _ _ _ _ E hr=>⟨_,(JO (Pu.pz 2 T8.nd JM) (JO (UN YN rfl (Kp rfl G.range (az (ln K G.len (pv 0)))) (gz 3 T8.nd) (JQ (UN YN rfl (Kp rfl G.range (az (pv 3))) (gz 4 T8.nd) (JQ (Ua (Uk Xp (PV (K:=K) YI W8 WH (Tf (K:=K)) (pv 1) (az (jx K (jx K (pv 0) (pv 4)) JM))) (PV (K:=K) YI W8 WH (Tf (K:=K)) (pv 1) (az (jx K (jx K (pv 0) (pv 3)) JM))) (Up _)) (JQ (Pu.pz 2 T8.nd (JS Uu (pv 2) JM)))
   Ub))))) (JQ (JT (pv 2))))), (JN (JW JL (JR 2)) (JN (UM [3,4] (Ks (sz (Uy (sz (JK 0))))) (JR 3) (UM [4] (Ks (sz (JK 3))) (JR 4) (Ue (JX (Xq (Tx (JK 1) (sz (JP (JP (JK 0) (JK 4)) JL))) (Tx (JK 1) (sz (JP (JP (JK 0) (JK 3)) JL))))) (JW (Ut (JK 2) JL) (JR 2)) Uc))) (XB 2)))⟩) (.a fun ds R X h=>?_)
 ·obtain⟨ps,o,rfl,hz,hin,hR⟩:=h;refine⟨rfl,?_⟩;have hl:(ps.map prD).length=ps.length:=Yu ..;have lr:(rowK ps o).length=ps.length:=Yu ..;have gr:∀k (hk:k<ps.length),(rowK ps o)[k]'(by omega)=(((o.idxOf ps[k].1:Nat):Int),1):=fun k hk=>by unfold rowK;rw[Vd]
  have ix:∀k:Nat,k<ps.length->∃h:k<ps.length,atI (ps.map prD) (0+(k:Int))=some (prD ps[k]):=fun k hk=>⟨hk,by rw[show(0:Int)+(k:Int)=(k:Int) by omega];exact FS hk⟩;refine⟨⟨by omega,by omega⟩,Ku (fun k γ'=>γ'=[some (.bor (plD ps)),some (.bor (.lst (o.map D.int))),some (.sh (.int (invL ((rowK ps o).take k)))),none,none]) rfl ?_ ?_⟩
  ·rintro k γ' hk rfl;have hk1:k<(((ps.map prD).length:Nat):Int).toNat:=hk;have hk':k<ps.length:=by omega
   obtain⟨_,ek⟩:=ix k hk';refine⟨⟨by omega,by omega⟩,Ku (fun j γ'=>γ'=[some (.bor (plD ps)),some (.bor (.lst (o.map D.int))),some (.sh (.int (invL ((rowK ps o).take k)+gtS ((o.idxOf ps[k].1:Nat):Int) ((rowK ps o).take j)))),some (.sh (.int (0+(k:Int)))),none]) (by simp[gtS];rfl) ?_ ?_⟩
   ·rintro j γ' hj rfl;have hj1:j<(0+(k:Int)).toNat:=hj;have hj':j<ps.length:=by omega
    obtain⟨_,ej⟩:=ix j hj';refine⟨⟨_,rfl⟩,_,ej,_,rfl,o,rfl,hin _ (YK hj'),⟨_,rfl⟩,_,ek,_,rfl,o,rfl,hin _ (YK hk'),?_⟩
    have es:gtS ((o.idxOf ps[k].1:Nat):Int) ((rowK ps o).take (j+1))=gtS ((o.idxOf ps[k].1:Nat):Int) ((rowK ps o).take j)+(if ((o.idxOf ps[k].1:Nat):Int)<((o.idxOf ps[j].1:Nat):Int)then 1 else 0):=by
     rw[YL (by omega),Bt,gr j hj']
    rw[es];refine ite2 (fun g=>?_) (fun g=>?_)
    ·rw[Yz (Y0 g),←Int.add_assoc];rfl
    ·rw[Yx fun z=>g (Yy z),Vr];rfl
   ·rintro γ' rfl;show _=[_,_,some (S.sh (.int (invL ((rowK ps o).take (k+1))))),_,_];rw[YL (show k<(rowK ps o).length by omega),A8,gr k hk',show(0+(k:Int)).toNat=k by omega];simp only[Int.mul_one];rfl
  ·rintro γ' rfl;rw[Zgy]at hR;show R (.sh (.int (invL ((rowK ps o).take (((ps.map prD).length:Nat):Int).toNat))));rw[show(((ps.map prD).length:Nat):Int).toNat=(rowK ps o).length by omega,Wr];exact hR
def LU(G:Glob K mg)(DD:Def K mg "_law_field_step" FD ["_law_strips","_law_deed_here"])
  : DJ P w K mg base:=by
 refine DD.oz (k:=0) TL (fun _ _ _ _ _ _ E hr=>⟨_,(JO (Pu.pz 2 TL.nd (jx K (pv 1) JM)) (JO (Ua (PW.pt (UL (Uk X6 (pv 2) JM (Up _)) (UU (Uk Xp (pv 2) (JS U3 (ln K G.len (pv 0)) (XX ME (by rfl) G.int boot_int (az (Pa (Tw (K:=K) (show _<cLine from hr.units0)) (jx K (pv 1) JM) U6 (Up _))))) (Up _))))) (JQ (JT (Uj (bz JM (pv 0)))))
   Ub) (JO (Pu.pz 3 TL.nd (jx K (jx K (pv 0) (JS U3 (pv 2) JM)) JM)) (JO (Pu.pz 4 TL.nd (jx K (jx K (pv 0) (JS U3 (pv 2) JM)) JM)) (JO (Ua (cq K hr (jx K (pv 1) JM) U6) (JO (Ua (PW.pt (UL (Uk X6 (jx K (pv 1) JM) JM (Up _)) (UU (Uk Xp (jx K (pv 1) JM) JM (Up _))))) (JQ (JT (Uj (bz JM (pv 0)))))
   Ub) (JO (Ua (cq K hr (jx K (pv 1) JM) (pv 3)) (JQ (JT (Uj (bz JM (pv 0)))))
   Ub) (JQ (JT (Uj (bz JM (JS Xu (JS Xu (X7 (XA (K:=K)) (pv 0) XD (X4 (JS U3 (pv 2) JM))) (Uj (az (Ur (bz (jx K (pv 1) JM) (pv 4)))))) (X7 (XA (K:=K)) (pv 0) (X4 (pv 2)) XD))))))))
   Ub) (JO (Ua (cq K hr (jx K (pv 1) JM) U6) (JO (Ua (PW.pt (UL (Uk X6 (jx K (pv 1) JM) JM (Up _)) (UU (Uk P9 (jx K (pv 1) JM) (pv 4) (Up _))))) (JQ (JT (Uj (bz JM (pv 0)))))
   Ub) (JO (Ua (cq K hr (ln K G.len (pv 0)) JM) (JQ (JT (Uj (bz JM (pv 0)))))
   Ub) (JO (Pu.pz 5 TL.nd (Uj (bz (Ur (bz (pv 3) (jx K (pv 1) JM))) (Ur (bz (pv 3) (JS U3 (pv 4) (jx K (pv 1) JM))))))) (JQ (JT (Uj (bz JM (JS Xu (JS Xu (X7 (XA (K:=K)) (pv 0) XD (X4 (JS U3 (pv 2) JM))) (pv 5)) (X7 (XA (K:=K)) (pv 0) (X4 (pv 2)) XD)))))))))
   Ub) (JO (Ua (cn K hr (jx K (jx K (pv 0) (pv 2)) JM) (pv 3)) (JQ (JT (Uj (bz JM (pv 0)))))
   Ub) (JO (Ua (Uk Xp (JS Uu (pv 4) (jx K (jx K (pv 0) (pv 2)) JM)) JM (Up _)) (JQ (JT (Uj (bz JM (pv 0)))))
   Ub) (JQ (JT (Uj (bz JM (JS Xu (JS Xu (X7 (XA (K:=K)) (pv 0) XD (X4 (JS U3 (pv 2) JM))) (Uj (az (Ur (bz (pv 3) (JS Uu (pv 4) (jx K (jx K (pv 0) (pv 2)) JM))))))) (X7 (XA (K:=K)) (pv 0) (X4 (JS Uu (pv 2) JM)) XD)))))))))))))), (JN (JW (JP (JK 1) JL) (JR 2)) (JN (Ue (UP (JX (X8 (JK 2) JL)) (JX (Xq (JK 2) (U5 (Uy (sz (JK 0))) (Zd2 (sz (U4 (JP (JK 1) JL) U7))))))) (Ud 0 (JY (Ui (tz JL (JK 0))))) Uc) (JN (JW (JP (JP (JK 0) (U5 (JK 2) JL)) JL) (JR 3)) (JN (JW (JP (JP (JK 0) (U5 (JK 2) JL)) JL) (JR 4)) (JN (Ue (JX (U4 (JP (JK 1) JL) U7)) (JN (Ue (UP (JX (X8 (JP (JK 1) JL) JL)) (JX (Xq (JP (JK 1) JL) JL))) (Ud 0 (JY (Ui (tz JL (JK 0))))) Uc) (JN (Ue (JX (U4 (JP (JK 1) JL) (JK 3))) (Ud 0 (JY (Ui (tz JL (JK 0))))) Uc) (JY (Ui (tz JL (Xt (Xt (XH (JK 0) XE (Xy (U5 (JK 2) JL))) (Ui (sz (Us (tz (JP (JK 1) JL) (JK 4)))))) (XH (JK 0) (Xy (JK 2)) XE))))))) Uc) (JN (Ue (JX (U4 (JP (JK 1) JL) U7)) (JN (Ue (UP (JX (X8 (JP (JK 1) JL) JL)) (JX (PJ (JP (JK 1) JL) (JK 4)))) (Ud 0 (JY (Ui (tz JL (JK 0))))) Uc) (JN (Ue (JX (U4 (Uy (sz (JK 0))) JL)) (Ud 0 (JY (Ui (tz JL (JK 0))))) Uc) (JN (JW (Ui (tz (Us (tz (JK 3) (JP (JK 1) JL))) (Us (tz (JK 3) (U5 (JK 4) (JP (JK 1) JL)))))) (JR 5)) (JY (Ui (tz JL (Xt (Xt (XH (JK 0) XE (Xy (U5 (JK 2) JL))) (JK 5)) (XH (JK 0) (Xy (JK 2)) XE)))))))) Uc) (JN (Ue (JX (XI (JP (JP (JK 0) (JK 2)) JL) (JK 3))) (Ud 0 (JY (Ui (tz JL (JK 0))))) Uc) (JN (Ue (JX (Xq (Ut (JK 4) (JP (JP (JK 0) (JK 2)) JL)) JL)) (Ud 0 (JY (Ui (tz JL (JK 0))))) Uc) (JY (Ui (tz JL (Xt (Xt (XH (JK 0) XE (Xy (U5 (JK 2) JL))) (Ui (sz (Us (tz (JK 3) (Ut (JK 4) (JP (JP (JK 0) (JK 2)) JL))))))) (XH (JK 0) (Xy (Ut (JK 2) JL)) XE)))))))))))))⟩) (.b fun ds R X h=>?_)
 ·obtain⟨f,x,rfl,hx,hz,hR⟩:=h;refine⟨rfl,?_⟩;have hl:(f.map prD).length=f.length:=Yu ..;have l1:∀p:Int,(cutD (f.map prD) none (some (p-1))).length<=1000:=fun p=>by have:=(Ky (f.map prD) none (some (p-1))).length_le;rw[Yu]at this;omega
  have l2:∀p:Int,(cutD (f.map prD) (some p) none).length<=1000:=fun p=>by have:=(Ky (f.map prD) (some p) none).length_le;rw[Yu]at this;omega
  cases x with
  |wish a b=>cases hx
  |drop a b=>cases hx
  |sell p h=>
   have hR:R (.own [.int (codeN (Xj f p h)),plD (if Xj f p h=none then K8 f p h else f)]):=hR
   have no:∀c:Str,Xj f p h=some c->R (.own [.int (codeN (some c)),plD f]):=fun c e=>by
    rw[e,Yx (by intro z;cases z)]at hR;exact hR
   unfold Xj at no hR
   have one:(p<1\/(f.length:Int)<p)->R (.own [.int 1,plD f]):=fun z=>by
    rw[←NR];exact no _ (Yz z)
   refine⟨_,rfl,ite2 (fun g=>iteT ?_) (fun g=>⟨_,rfl,ite2 (fun g2=>?_) (fun g2=>?_)⟩)⟩
   ·exact⟨by simp,one (.inl (Y0 g))⟩
   ·have g':(((f.map prD).length:Nat):Int)-0<p:=Y0 g2;exact⟨by simp,one (.inr (by omega))⟩
   ·have n1:¬p<1:=fun z=>g (Yy z);have n2:¬(((f.map prD).length:Nat):Int)-0<p:=fun z=>g2 (Yy z);rw[Yx (by omega)]at no hR;have a1:=KG (ps:=f) (p:=p) (by omega) (by omega);refine⟨_,a1,_,rfl,_,a1,_,rfl,_,rfl,?_⟩;refine⟨_,rfl,ite2 (fun g3=>iteT ?_) (fun g3=>⟨_,rfl,ite2 (fun g4=>?_) (fun g4=>?_)⟩)⟩
    ·have g':h<1:=Y0 g3
     have:=no _ (Yz (by omega))
     rw[SB]at this;exact⟨by simp,this⟩
    ·have g':10<h:=Y0 g4
     have:=no _ (Yz (by omega))
     rw[SB]at this;exact⟨by simp,this⟩
    ·have n3:¬h<1:=fun z=>g3 (Yy z);have n4:¬10<h:=fun z=>g4 (Yy z);rw[Yx (Wu.mpr ⟨by omega,by omega⟩)]at no hR;refine⟨_,rfl,ite2 (fun g5=>?_) (fun g5=>?_)⟩
     ·have g':h=(atP1 f p).1:=Y0 g5
      have:=no _ (Yz g'.symm)
      rw[Du]at this;exact⟨by simp,this⟩
     ·have g':¬h=(atP1 f p).1:=fun z=>g5 (Yy z);rw[Yx (fun z=>g' z.symm),Yz rfl]at hR;have e:=Ge (ps:=f) (p:=p) (x:=(h,(atP1 f p).2)) (by omega) (by omega);refine⟨rfl,_,rfl,by simp,by simp,rfl,rfl,Y8 (YU (l1 p) (Y3 1)) (by decide),rfl,rfl,rfl,Y8 (YU (by rw[Y4];exact YU (l1 p) (Y3 1)) (l2 p)) (by decide),by simp,?_⟩;have e9:plD (K8 f p h)=.lst (cutD (f.map prD) none (some (p-1))++[prD (h,(atP1 f p).2)]++cutD (f.map prD) (some p) none):=Wj D.lst e.symm;rw[e9]at hR;exact hR
  |part p w=>
   have hR:R (.own [.int (codeN (Xf f p w)),plD (if Xf f p w=none then Ka f p w else f)]):=hR
   have no:∀c:Str,Xf f p w=some c->R (.own [.int (codeN (some c)),plD f]):=fun c e=>by
    rw[e,Yx (by intro z;cases z)]at hR;exact hR
   unfold Xf at no hR
   have one:(p<1\/(f.length:Int)<p)->R (.own [.int 1,plD f]):=fun z=>by
    rw[←NR];exact no _ (Yz z)
   refine⟨_,rfl,ite2 (fun g=>iteT ?_) (fun g=>⟨_,rfl,ite2 (fun g2=>?_) (fun g2=>?_)⟩)⟩
   ·exact⟨by simp,one (.inl (Y0 g))⟩
   ·have g':(((f.map prD).length:Nat):Int)-0<p:=Y0 g2;exact⟨by simp,one (.inr (by omega))⟩
   ·have n1:¬p<1:=fun z=>g (Yy z);have n2:¬(((f.map prD).length:Nat):Int)-0<p:=fun z=>g2 (Yy z);rw[Yx (by omega)]at no hR;have a1:=KG (ps:=f) (p:=p) (by omega) (by omega);refine⟨_,a1,_,rfl,_,a1,_,rfl,_,rfl,_,rfl,?_⟩;refine⟨_,rfl,ite2 (fun g3=>iteT ?_) (fun g3=>⟨_,rfl,ite2 (fun g4=>?_) (fun g4=>?_)⟩)⟩
    ·have:=no _ (Yz (.inl (Y0 g3)))
     rw[FB]at this;exact⟨by simp,this⟩
    ·have:=no _ (Yz (.inr (Y0 g4)))
     rw[FB]at this;exact⟨by simp,this⟩
    ·have n3:¬w<1:=fun z=>g3 (Yy z);have n4:¬(atP1 f p).2<=w:=fun z=>g4 (Yy z);rw[Yx (by omega)]at no hR;refine ite2 (fun g5=>?_) (fun g5=>?_)
     ·have g':(((f.map prD).length:Nat):Int)=40:=Y0 g5
      have:=no _ (Yz (by omega))
      rw[CL]at this;exact⟨by simp,this⟩
     ·have g':¬(((f.map prD).length:Nat):Int)=40:=fun z=>g5 (Yy z);rw[Yx (by omega),Yz rfl]at hR;refine⟨_,rfl,by simp,_,rfl,by simp,by simp,?_⟩;refine⟨rfl,rfl,rfl,Y8 (YU (l1 p) (Y3 2)) (by decide),rfl,rfl,rfl,Y8 (YU (by rw[Y4];exact YU (l1 p) (Y3 2)) (l2 p)) (by decide),by simp,?_⟩;have e9:plD (Ka f p w)=.lst (cutD (f.map prD) none (some (p-1))++[prD ((atP1 f p).1,w),prD ((atP1 f p).1,(atP1 f p).2-w)]++cutD (f.map prD) (some p) none):=Wj D.lst (DG (by omega)).symm;rw[e9]at hR;exact hR
  |unite p=>
   have hR:R (.own [.int (codeN (uniE f p)),plD (if uniE f p=none then uniL f p else f)]):=hR
   have no:∀c:Str,uniE f p=some c->R (.own [.int (codeN (some c)),plD f]):=fun c e=>by
    rw[e,Yx (by intro z;cases z)]at hR;exact hR
   unfold uniE at no hR
   have one:(p<1\/(f.length:Int)<=p)->R (.own [.int 1,plD f]):=fun z=>by
    rw[←NR];exact no _ (Yz z)
   refine⟨_,rfl,ite2 (fun g=>iteT ?_) (fun g=>⟨_,rfl,ite2 (fun g2=>?_) (fun g2=>?_)⟩)⟩
   ·exact⟨by simp,one (.inl (Y0 g))⟩
   ·have g':(((f.map prD).length:Nat):Int)-1<p:=Y0 g2;exact⟨by simp,one (.inr (by omega))⟩
   ·have n1:¬p<1:=fun z=>g (Yy z);have n2:¬(((f.map prD).length:Nat):Int)-1<p:=fun z=>g2 (Yy z);rw[Yx (by omega)]at no hR;have a1:=KG (ps:=f) (p:=p) (by omega) (by omega);have a2:=IP (ps:=f) (p:=p) (by omega) (by omega);refine⟨_,a1,_,rfl,_,a1,_,rfl,_,rfl,_,rfl,?_⟩;refine⟨_,a2,_,rfl,ite2 (fun g3=>?_) (fun g3=>?_)⟩
    ·have g':¬(atP1 f (p+1)).1=(atP1 f p).1:=fun z=>by rw[Yy z]at g3;cases g3
     have:=no _ (Yz (fun z=>g' z.symm))
     rw[Dj]at this;exact⟨by simp,this⟩
    ·have g':(atP1 f (p+1)).1=(atP1 f p).1:=YY fun z=>g3 (by rw[YH z];rfl);rw[Yx (Wu.mpr g'.symm)]at no hR;refine⟨_,a2,_,rfl,ite2 (fun g4=>?_) (fun g4=>?_)⟩
     ·have:=no _ (Yz (Y0 g4))
      rw[DA]at this;exact⟨by simp,this⟩
     ·rw[Yx (fun z=>g4 (Yy z)),Yz rfl]at hR;refine⟨rfl,_,a2,_,rfl,by simp,by simp,rfl,rfl,Y8 (YU (l1 p) (Y3 1)) (by decide),rfl,rfl,rfl,Y8 (YU (by rw[Y4];exact YU (l1 p) (Y3 1)) (l2 (p+1))) (by decide),by simp,?_⟩;have e9:plD (uniL f p)=.lst (cutD (f.map prD) none (some (p-1))++[prD ((atP1 f p).1,(atP1 f p).2+(atP1 f (p+1)).2)]++cutD (f.map prD) (some (p+1)) none):=Wj D.lst (E7 (by omega)).symm;rw[e9]at hR;exact hR
def Zcp(G:Glob K mg)(DD:Def K mg "_law_wish_step" Bv ["_law_wishes","_law_deed_here"])
  : AZ P w K mg base:=by
 refine DD.oz (k:=0) Ih (fun _ _ _ _ _ _ E hr=>⟨_,(JO (Pu.pz 2 Ih.nd (Ur (bz (jx K (pv 1) JM) (jx K (pv 1) JM)))) (JO (Ua (cq K hr (jx K (pv 1) JM) U6) (JO (Ua (Uk (Fe (K:=K) (show _<cLine from UO hr)) (pv 2) (pv 0) (by with_unfolding_all rfl)) (JQ (JT (Uj (bz JM (pv 0)))))
   Ub) (JQ (JT (Uj (bz JM (Xg (N':=["_law_one","_law_pair_here"]) (φ:=[none,some 2]) rfl (Own.CompOk.of (by rfl)) (U1 (K:=K) (pv 0)) (fun _ _ _ _ _=>⟨(gz 0 (show(["_law_one","_law_pair_here"]:List Str).Nodup from by decide +kernel)),(XS (Uk (D3 (K:=K) (show _<cLine from hr.units0)) (pv 0) (pv 1) (Up _))),(pv 0)⟩)))))))
   Ub) (JO (Ua (PW.pt (UL (Uk X6 (UZ (OS (K:=K) rfl) (by rfl) G.min boot_min (az (pv 2))) JM (Up _)) (UU (Uk Xp (UZ (OQ (K:=K) rfl) (by rfl) G.max boot_max (az (pv 2))) JM (Up _))))) (JQ (JT (Uj (bz JM (pv 0)))))
   Ub) (JO (Ua (cq K hr (jx K (pv 1) JM) (jx K (pv 1) JM)) (JQ (JT (Uj (bz JM (pv 0)))))
   Ub) (JO (Ua (Uk (Kk (K:=K) (show _<cLine from UO hr)) (pv 2) (pv 0) (by with_unfolding_all rfl)) (JQ (JT (Uj (bz JM (pv 0)))))
   Ub) (JO (Ua (cq K hr (ln K G.len (pv 0)) JM) (JQ (JT (Uj (bz JM (pv 0)))))
   Ub) (JQ (JT (Uj (bz JM (JS Xu (pv 0) (Uj (az (pv 2)))))))))))))), (JN (JW (Us (tz (JP (JK 1) JL) (JP (JK 1) JL))) (JR 2)) (JN (Ue (JX (U4 (JP (JK 1) JL) U7)) (JN (Ue (JX (XG (JK 2) (JK 0))) (Ud 0 (JY (Ui (tz JL (JK 0))))) Uc) (JY (Ui (tz JL (UD (Xm (JK 0)) (JR 0) (JX (CZ (JK 0) (JK 1))) (JK 0)))))) Uc) (JN (Ue (UP (JX (X8 (RB (sz (JK 2))) JL)) (JX (Xq (OG (sz (JK 2))) JL))) (Ud 0 (JY (Ui (tz JL (JK 0))))) Uc) (JN (Ue (JX (U4 (JP (JK 1) JL) (JP (JK 1) JL))) (Ud 0 (JY (Ui (tz JL (JK 0))))) Uc) (JN (Ue (JX (XG (JK 2) (JK 0))) (Ud 0 (JY (Ui (tz JL (JK 0))))) Uc) (JN (Ue (JX (U4 (Uy (sz (JK 0))) JL)) (Ud 0 (JY (Ui (tz JL (JK 0))))) Uc) (Ud 2 (JY (Ui (tz JL (Xt (JK 0) (Ui (sz (JK 2))))))))))))))⟩) (.b fun ds R X h=>?_)
 ·obtain⟨w,x,rfl,hx,hz,hR⟩:=h;refine⟨rfl,?_⟩;have hl:(w.map prD).length=w.length:=Yu ..;cases x with
  |sell p h=>cases hx
  |part p h=>cases hx
  |unite p=>cases hx
  |drop a b=>
   refine⟨_,rfl,_,rfl,by simp,_,rfl,?_⟩;show ∃c,InR (prD (a,b)) (plD w) c/\_;have hR:R (.own [.int (codeN (Xa w a b)),plD (if Xa w a b=none then K9 w a b else w)]):=hR;refine⟨_,.lp (a,b) w,ite2 (fun g=>?_) (fun g=>?_)⟩
   ·have g':¬(a,b)∈w:=fun z=>by rw[Yz rfl,Yy z]at g;cases g
    have e:Xa w a b=some ("NoWish" : Str):=Yx g';rw[e,Dq,Yx (by intro z;cases z)]at hR;exact⟨by simp,hR⟩
   ·have g':(a,b)∈w:=YY fun z=>g (by rw[Yz rfl,YH z];rfl);have e:Xa w a b=none:=Yz g';rw[e,Yz rfl]at hR;refine UV (xs:=w) (emb:=prD) (fun q=>if (!decide (q=(a,b)))=true then some (prD q)else none) (by omega) (fun q hq=>?_) ?_
    ·refine⟨[q.1,q.2],[a,b],rfl,rfl,?_⟩;have e:decide ([q.1,q.2]=[a,b])=decide (q=(a,b)):=Zhc q (a,b);show if (!decide ([q.1,q.2]=[a,b]))=true then _ else _;rw[e];exact ite2 (fun h=>⟨_,rfl,Yz h⟩) (fun h=>Yx h)
    ·rw[XT (fun q:Int×Int=>!decide (q=(a,b)))];exact⟨by simp,hR⟩
  |wish a b=>
   refine⟨_,rfl,_,rfl,by simp,_,rfl,?_⟩;have hR:R (.own [.int (codeN (UX w a b)),plD (if UX w a b=none then w++[(a,b)]else w)]):=hR
   have no:∀c:Str,UX w a b=some c->R (.own [.int (codeN (some c)),plD w]):=fun c e=>by
    rw[e,Yx (by intro z;cases z)]at hR;exact hR
   have bad:¬((1<=a/\a<=10)/\(1<=b/\b<=10))->R (.own [.int 2,plD w]):=fun z=>by
    rw[←SB];refine no _ ?_;unfold UX;by_cases c1:1<=a/\a<=10
    ·rw[Yx (Wu.mpr c1),Yz (fun y=>z ⟨c1,y⟩)]
    ·rw[Yz c1]
   have mn:∀x y:Int,(if y<x then y else x)<=x/\(if y<x then y else x)<=y/\((if y<x then y else x)=x\/(if y<x then y else x)=y):=fun x y=>by split<;>omega
   have mx:∀x y:Int,x<=(if y>x then y else x)/\y<=(if y>x then y else x)/\((if y>x then y else x)=x\/(if y>x then y else x)=y):=fun x y=>by split<;>omega
   have m1:=mn a b;have m2:=mx a b;refine ite2 (fun g=>iteT ?_) (fun g=>ite2 (fun g2=>?_) (fun g2=>?_))
   ·have g':(if b<a then b else a)<1:=Y0 g;exact⟨by simp,bad (by omega)⟩
   ·have g':10<(if b>a then b else a):=Y0 g2;exact⟨by simp,bad (by omega)⟩
   ·have n1:¬(if b<a then b else a)<1:=fun z=>g (Yy z);have n2:¬10<(if b>a then b else a):=fun z=>g2 (Yy z);have c1:1<=a/\a<=10:=by omega
    have c2:1<=b/\b<=10:=by omega
    unfold UX at no hR;rw[Yx (Wu.mpr c1),Yx (Wu.mpr c2)]at no hR;refine⟨_,rfl,_,rfl,ite2 (fun g3=>?_) (fun g3=>?_)⟩
    ·have:=no _ (Yz (Y0 g3))
     rw[GM]at this;exact⟨by simp,this⟩
    ·have n3:¬a=b:=fun z=>g3 (Yy z);rw[Yx n3]at no hR;show ∃c,InR (prD (a,b)) (plD w) c/\_;refine⟨_,.lp (a,b) w,ite2 (fun g4=>?_) (fun g4=>?_)⟩
     ·have:=no _ (Yz (Y0 g4))
      rw[Cy]at this;exact⟨by simp,this⟩
     ·have n4:¬(a,b)∈w:=fun z=>g4 (Yy z);rw[Yx n4]at no hR;refine ite2 (fun g5=>?_) (fun g5=>?_)
      ·have g':(((w.map prD).length:Nat):Int)=20:=Y0 g5
       have:=no _ (Yz (by omega))
       rw[Iy]at this;exact⟨by simp,this⟩
      ·have g':¬(((w.map prD).length:Nat):Int)=20:=fun z=>g5 (Yy z);rw[Yx (by omega),Yz rfl]at hR;refine⟨by simp,rfl,rfl,Y8 (YU (WQ hl) (Y3 1)) (by omega),by simp,?_⟩;have e9:plD (w++[(a,b)])=.lst (w.map prD++[prD (a,b)]):=Wj D.lst Y9;rw[e9]at hR;exact hR
def IZ(G:Glob K mg)(DD:Def K mg "_law_odd" BI ["_law_cell","_law_good"])
  : Bw P w K mg base:=by
 refine DD.oz (k:=0) Zbb (fun _ _ _ _ _ _ E hr=>⟨_,(JO (Ua (cq K hr (JS Uw (pv 0) JM) JM) (JQ (JT (jx K (Uj (Ug JM (Ug JM (Ug (X1 Xx JM) (Ug (JS FC JM JM) U0))))) (JS Uw (JS UY (pv 0) JM) JM))))
   Ub) (JQ (JT (pv 1)))), (JN (Ue (JX (U4 (Ux (JK 0) JL) JL)) (JY (JP (Ui (Uh JL (Uh JL (Uh (Xw JL) (Uh (FK JL JL) Um))))) (Ux (Xb (JK 0) JL) JL))) Uc) (XB 1))⟩) (.a fun ds R X h=>?_)
 ·obtain⟨c,g,rfl,hR⟩:=h;refine⟨rfl,?_⟩;have h4:0<=c / 7 % 4/\c / 7 % 4<4:=by omega
  refine⟨(by show(0:Int)<7;decide),ite2 (fun _=>?_) (fun _=>hR _)⟩;exact⟨⟨by decide,by decide,by decide⟩,by simp,⟨by decide,by decide⟩,(by show(0:Int)<4;decide),_,Xs (f:=D.int) (xs:=[0,11,-3,10 ^ (30:Int).toNat]) h4.1 h4.2,hR _⟩
def Od(G:Glob K mg)(DD:Def K mg "_law_place" AB ["_law_cell","_law_strips"])
  : E1 P w K mg base:=by
 refine DD.oz (k:=0) Zb4 (fun _ _ _ _ _ _ E hr=>⟨_,(JO (Ua (cq K hr (JS Uw (pv 0) JM) JM) (JQ (JT (jx K (Uj (Ug JM (Ug (X1 Xx JM) (Ug (JS Uu (ln K G.len (pv 1)) JM) (Ug (JS FC JM JM) U0))))) (JS Uw (JS UY (pv 0) JM) JM))))
   Ub) (JO (Ua (Uk (Gy (K:=K) (show _<cLine from hr.units0)) (pv 1) (Uj U0) (Up _)) (JQ (JT JM))
   Ub) (JQ (JT (JS Uu JM (JS Uw (JS UY (pv 0) JM) (ln K G.len (pv 1)))))))), (JN (Ue (JX (U4 (Ux (JK 0) JL) JL)) (JY (JP (Ui (Uh JL (Uh (Xw JL) (Uh (Ut (Uy (sz (JK 1))) JL) (Uh (FK JL JL) Um))))) (Ux (Xb (JK 0) JL) JL))) Uc) (JN (Ue (JX (AS (JK 1) (Ui Um))) (JY JL) Uc) (JY (Ut JL (Ux (Xb (JK 0) JL) (Uy (sz (JK 1))))))))⟩) (.a fun ds R X h=>?_)
 ·obtain⟨c,ps,rfl,hz,hR⟩:=h;refine⟨rfl,?_⟩;have h4:0<=c / 11 % 4/\c / 11 % 4<4:=by omega
  have hl:(ps.map prD).length=ps.length:=Yu ..;refine⟨(by show(0:Int)<11;decide),ite2 (fun _=>?_) (fun _=>?_)⟩
  ·exact⟨⟨by decide,by decide,by decide⟩,by simp,⟨by decide,by decide⟩,(by show(0:Int)<4;decide),_,Xs (f:=D.int) (xs:=[0,-1,(((ps.map prD).length:Nat):Int)+1,10 ^ (30:Int).toNat]) h4.1 h4.2,hR _⟩
  ·refine⟨by simp,?_⟩;have emp:(ps.map prD).isEmpty=decide (ps=[]):=by cases ps<;>simp
   show if (ps.map prD).isEmpty=true then _ else _;rw[emp];refine ite2 (fun _=>hR _) (fun g=>?_);have hne:0<ps.length:=Qu.mpr fun z=>g (Yy z);exact⟨⟨by decide,by decide⟩,(by show 0<(((ps.map prD).length:Nat):Int);omega),hR _⟩
def Zgu(G:Glob K mg)(DD:Def K mg "_law_width" Ab ["_law_cell","_law_strips","_law_place_here"])
  : Dz P w K mg base:=by
 refine DD.oz (k:=0) L6 (fun _ _ _ _ _ _ E hr=>⟨_,(JO (Ua (PW.pt (UL (Uk X6 (pv 2) JM (Up _)) (UL (Uk Xp (pv 2) (ln K G.len (pv 1)) (Up _)) (UU (cq K hr (JS Uw (pv 0) JM) JM))))) (JQ (JT (jx K (Uj (Ug JM (Ug (X1 Xx JM) (Ug JM (Ug JM (Ug JM (Ug JM (Ug (JS FC JM JM) U0)))))))) (JS Uw (JS UY (pv 0) JM) JM))))
   Ub) (JQ (JT (JS Uw (JS UY (pv 0) JM) (JS Uu (jx K (jx K (pv 1) (JS U3 (pv 2) JM)) JM) JM))))), (JN (Ue (UP (JX (X8 (JK 2) JL)) (UP (JX (Xq (JK 2) (Uy (sz (JK 1))))) (JX (U4 (Ux (JK 0) JL) JL)))) (JY (JP (Ui (Uh JL (Uh (Xw JL) (Uh JL (Uh JL (Uh JL (Uh JL (Uh (FK JL JL) Um)))))))) (Ux (Xb (JK 0) JL) JL))) Uc) (JY (Ux (Xb (JK 0) JL) (Ut (JP (JP (JK 1) (U5 (JK 2) JL)) JL) JL))))⟩) (.a fun ds R X h=>?_)
 ·obtain⟨c,ps,p,rfl,hz,hF,hR⟩:=h;refine⟨rfl,?_⟩;have hl:(ps.map prD).length=ps.length:=Yu ..;have h7:0<=c / 5 % 7/\c / 5 % 7<7:=by omega
  have out:∃v:Int,atI ([0,-1,1,1000,1001,999,10 ^ (30:Int).toNat].map D.int) (c / 5 % 7)=some (.int v):=⟨_,Xs (f:=D.int) (xs:=[0,-1,1,1000,1001,999,10 ^ (30:Int).toNat]) h7.1 h7.2⟩;obtain⟨v,ev⟩:=out;refine ite2 (fun g=>iteT ?_) (fun g=>ite2 (fun g2=>iteT ?_) (fun g2=>⟨(by show(0:Int)<5;decide),ite2 (fun g3=>?_) (fun g3=>?_)⟩))
  ·exact⟨⟨by decide,by decide,by decide⟩,by simp,⟨by decide,by decide⟩,(by show(0:Int)<7;decide),_,ev,hR _⟩
  ·exact⟨⟨by decide,by decide,by decide⟩,by simp,⟨by decide,by decide⟩,(by show(0:Int)<7;decide),_,ev,hR _⟩
  ·exact⟨⟨by decide,by decide,by decide⟩,by simp,⟨by decide,by decide⟩,(by show(0:Int)<7;decide),_,ev,hR _⟩
  ·have n1:¬p<1:=fun z=>g (Yy z);have n2:¬(((ps.map prD).length:Nat):Int)<p:=fun z=>g2 (Yy z);have hm:=hF _ (Sx (ps:=ps) (p:=p) (by omega) (by omega));exact⟨⟨by decide,by decide⟩,_,KG (by omega) (by omega),_,rfl,(by show 0<(atP1 ps p).2+1;omega),hR _⟩
def Ze0(G:Glob K mg)(DD:Def K mg "check_strips" Br ["strips"])(Zk:NN P w K mg base)(Z2:Ii P w K mg base)
  : Gm P w K mg base:=by
 refine DD.ox (k:=1) SN (fun _ _ _ _ _ _ E hr=>⟨_,(JO (Ua (Uk Xp (ln K G.len (pv 0)) (ExcR.XM G.STRIPS) (Up _)) (JQ (ExcR.Xz G.g_TooManyStrips.c G.m_TooManyStrips ExcR.X0 rfl (az (ExcR.pe_f (ExcR.Kn (ExcR.Px (ExcR.XM G.STRIPS) (ExcR.Kn ExcR.P8)))))))
   Ub) (JQ (UN ExcR.B7 rfl (U1 (K:=K) (pv 0)) (P0 (K:=K) (n:=2) rfl (XJ (gz 1 SN.nd) (XJ (gz 2 SN.nd) P1))) (JO (U8 (Xk Zk (hr.mono (by decide)) ExcR.US (az (pv 1)))) (JQ (U8 (Xk Z2 (hr.mono (by decide)) ExcR.US (az (pv 2))))))))), (JN (Ue (JX (Xq (Uy (sz (JK 0))) JL)) (X3 (sz (se_f (Kg (Pk JL (Kg Pr)))))) Uc) (Ud 0 (UM [1,2] (X2 (JK 0)) (Tj (Kj (JR 1) (Kj (JR 2) Tq))) (JN (Xn (X5 (sz (JK 1)))) (Xn (X5 (sz (JK 2))))))))⟩) (.a fun ds R X h=>?_)
 ·obtain⟨ps,rfl,hz,hR⟩:=h;refine⟨rfl,?_⟩;have hl:(ps.map prD).length=ps.length:=Yu ..;unfold Tt at hR;refine ite2 (fun g=>?_) (fun g=>?_)
  ·have g':(40:Int)<((ps.map prD).length:Int):=Y0 g;rw[Yz (by omega)]at hR;exact⟨by decide,by decide,by decide,by decide,by decide,by simp,hR⟩
  ·have g':¬(40:Int)<((ps.map prD).length:Int):=fun z=>g (Yy z);rw[Yx (by omega)]at hR;refine⟨rfl,Xv (xs:=ps) (emb:=prD) (fun i γ'=>γ'=[some (.bor (plD ps)),none,none]/\KW (ps.drop i)=KW ps) ⟨rfl,rfl⟩ ?_ ?_⟩
   ·rintro i hi γ' ⟨rfl,hf⟩;have ed:ps.drop i=ps[i]::ps.drop (i+1):=Wk hi;rw[ed,Oe]at hf;generalize ps[i]=p at hf ⊢;refine⟨rfl,p.1,rfl,?_⟩;unfold Tr;by_cases c:1<=p.1/\p.1<=10
    ·rw[Yx (fun z=>z c)]at hf;rw[Yz c];refine⟨p.2,rfl,?_⟩;unfold AO;by_cases c2:1<=p.2/\p.2<=1000
     ·rw[Yx (fun z=>z c2)]at hf;rw[Yz c2];exact⟨rfl,hf⟩
     ·rw[Yz c2]at hf;rw[Yx c2];rw[←hf]at hR;exact hR
    ·rw[Yz c]at hf;rw[Yx c];rw[←hf]at hR;exact hR
   ·rintro γ' ⟨rfl,hf⟩;rw[Va]at hf;rw[←hf]at hR;exact hR
def Zct(G:Glob K mg)(DD:Def K mg "check_order" A0 ["strips","order"])(Ze:TQ P w K mg base)
  : FP P w K mg base:=by
 refine DD.ox (k:=1) Zff (fun _ _ _ _ _ _ E hr=>⟨_,(JQ (Ua (cn K hr (UZ (NO (K:=K) (w:=w) rfl) (by rfl) G.sorted boot_sorted (az (pv 1))) (fz Ze hr (az (pv 0)))) (JQ (ExcR.Xz G.g_BadOrder.c G.m_BadOrder ExcR.X0 rfl (az U6)))
   Ub)), (Ue (JX (XI (NM (sz (JK 1))) (JZ (sz (JK 0))))) (X3 (sz U7)) Uc)⟩) (.a fun ds R X h=>?_)
 ·obtain⟨ps,os,rfl,hF,hz,hl,hR⟩:=h;refine⟨rfl,?_⟩;refine⟨os,rfl,hl,fun ns h1 h2=>⟨ps,rfl,hF,hz,_,_,rfl,rfl,?_⟩⟩;have q:=Zax (ps:=ps) h1 h2;unfold Th at hR;refine ite2 (fun g=>?_) (fun g=>?_)
  ·have g':¬ns=Ul ps:=fun z=>by rw[Yz rfl,Yy z]at g;cases g
   rw[Yx (fun z=>g' (q.mpr z))]at hR;exact⟨by simp,hR⟩
  ·have g':ns=Ul ps:=YY fun z=>g (by rw[Yz rfl,YH z];rfl);rw[Yz (q.mp g')]at hR;exact hR
def Zem(G:Glob K mg)(DD:Def K mg "walk_places" Ag ["strips","places"])(Zq:Bx P w K mg base)(Zr:Aw P w K mg base)(Zs:A5 P w K mg base)(Zt:Fh P w K mg base)
  : ED P w K mg base:=by
 refine DD.ox (k:=1) To (fun _ _ _ _ _ _ E hr=>⟨_,(JO (Pu.pz 2 To.nd (fz Zq hr (az (pv 0)))) (JO (Pu.pz 3 To.nd JM) (JO (UN ExcR.B7 rfl (U1 (K:=K) (pv 1)) (gz 4 To.nd) (JO (U8 (Xk Zr (hr.mono (by decide)) ExcR.US (bz (pv 0) (pv 4)))) (JO (B9 (i:=3) To.nd rfl (by first|exact Or.inl rfl|exact Or.inr rfl) (fz Zs hr (dz (pv 0) (pv 2) (pv 4))) F6) (JQ (Pu.pz 2 To.nd (fz Zt hr (bz (pv 2) (pv 4)))))))) (JQ (JT (Ur (bz (pv 2) (pv 3)))))))), (JN (JW (JZ (sz (JK 0))) (JR 2)) (JN (JW JL (JR 3)) (JN (Ud 1 (UM [4] (X2 (JK 1)) (JR 4) (JN (Xn (X5 (tz (JK 0) (JK 4)))) (JN (Bg (JZ (uz (JK 0) (JK 2) (JK 4)))) (JW (JZ (tz (JK 2) (JK 4))) (JR 2)))))) (Ud 3 (Ud 2 (JY (Us (tz (JK 2) (JK 3)))))))))⟩) (.a fun ds R X h=>?_)
 ·obtain⟨ps,pl,rfl,hF,hz,hpl,hR⟩:=h;refine⟨rfl,?_⟩;refine⟨ps,rfl,by omega,?_⟩;refine⟨rfl,Xv (xs:=pl) (emb:=D.int) (fun i γ'=>∃st:List Int×Int,γ'=[some (.bor (.lst (ps.map prD))),some (.bor (.lst (pl.map D.int))),some (.own (st.1.map D.int)),some (.sh (.int st.2)),none]/\st.1.Perm (runI 1 ps.length)/\XU ps pl (runI 1 ps.length,0)=XU ps (pl.drop i) st) ⟨(runI 1 ps.length,0),rfl,List.Perm.refl _,by rw[List.drop_zero]⟩ ?_ ?_⟩
  ·rintro i hi γ' ⟨st,rfl,hp,hw⟩;have ed:pl.drop i=pl[i]::pl.drop (i+1):=Wk hi;rw[ed]at hw;generalize pl[i]=p at hw ⊢;refine⟨ps,p,rfl,?_⟩;by_cases c:p<1\/(ps.length:Int)<=p
   ·rw[Yz c];rw[Ti,Yz c]at hw;rw[hw]at hR;exact hR
   ·rw[Yx c];rw[Ti,Yx c]at hw;have hl:st.1.length=ps.length:=by rw[hp.length_eq,Pb]
    refine⟨ps,st.1,p,rfl,hF,fun n hn=>runI_mem.mp (hp.mem_iff.mp hn),by omega,by omega,st.1,p,rfl,by omega,by omega,by omega,(UR st.1 p.toNat,st.2+exM ps st.1 p.toNat),rfl,(N3 (by omega) (by omega)).trans hp,hw⟩
  ·rintro γ' ⟨st,rfl,hp,hw⟩;rw[Va]at hw;rw[Bp]at hw;rw[hw]at hR;exact⟨by simp,hR⟩
def MT(G:Glob K mg)(DD:Def K mg "ring_from" Fp ["least","holders","wishes"])(Z3:Cq P w K mg base)
  : Hx P w K mg base:=by
 refine DD.oz (k:=1) P3 (fun _ _ _ _ _ _ E hr=>⟨_,(JO (Pu.pz 3 P3.nd (Uj (az (Uj (az (pv 0)))))) (JO (Pu.pz 4 P3.nd (UZ (NO (K:=K) (w:=w) rfl) (by rfl) G.sorted boot_sorted (az (Xg (N':=["holder","least"]) (φ:=[none,some 0]) rfl (Own.CompOk.of (by rfl)) (U1 (K:=K) (pv 1)) (fun _ _ _ _ _=>⟨(gz 0 (show(["holder","least"]:List Str).Nodup from by decide +kernel)),(XS (Uk Xp (pv 0) (pv 1) (Up _))),(pv 0)⟩))))) (JO (NP YN (UC (K:=K) (pv 3)) (JO (KY (N':=["path","wishes","least"]) (φ:=[none,some 2,some 0]) (i:=5) P3.nd rfl rfl rfl (Own.CompOk.of (by rfl)) (U1 (K:=K) (pv 3)) (fun _ _ _ _ _=>⟨(gz 0 (show(["path","wishes","least"]:List Str).Nodup from by decide +kernel)),(XS (Uk (Kk (K:=K) (show _<cLine from UO hr)) (Ur (bz (jx K (pv 0) (X1 Xx JM)) (pv 2))) (pv 1) (by with_unfolding_all rfl))),(pv 0)⟩)) (JO (Ua (UC (K:=K) (pv 5)) (JQ (JT (jx K (pv 5) JM)))
   Ub) (JO (Pu.pz 3 P3.nd (fz Z3 hr (dz (pv 3) (pv 4) (pv 2)))) (JO (Pu.pz 6 P3.nd (Xg (N':=["path"]) (φ:=[none]) rfl (Own.CompOk.of (by rfl)) (U1 (K:=K) (pv 3)) (fun _ _ _ _ _=>⟨(gz 0 (show(["path"]:List Str).Nodup from by decide +kernel)),X9,(jx K (pv 0) (X1 Xx JM))⟩))) (JQ (KY (N':=["holder","reached"]) (φ:=[none,some 6]) (i:=4) P3.nd rfl rfl rfl (Own.CompOk.of (by rfl)) (U1 (K:=K) (pv 4)) (fun _ _ _ _ _=>⟨(gz 0 (show(["holder","reached"]:List Str).Nodup from by decide +kernel)),(XS (Uk (Fe (K:=K) (show _<cLine from UO hr)) (pv 0) (pv 1) (by with_unfolding_all rfl))),(pv 0)⟩)))))))) (JQ (JT (Uj U0)))))), (JN (Ud 0 (JW (Ui (sz (Ui (sz (JK 0))))) (JR 3))) (JN (JW (NM (sz (UD (Xm (JK 1)) (JR 0) (JX (Xq (JK 0) (JK 1))) (JK 0)))) (JR 4)) (JN (NL [5,6] (UT (JK 3)) (JN (Ud 0 (JW (UD (Xm (JK 3)) (JR 0) (JX (XG (Us (tz (JP (JK 0) (Xw JL)) (JK 2))) (JK 1))) (JK 0)) (JR 5))) (JN (Ue (UT (JK 5)) (Ew (JP (JK 5) JL)) Uc) (JN (JW (JZ (uz (JK 3) (JK 4) (JK 2))) (JR 3)) (JN (JW (UD (Xm (JK 3)) (JR 0) XC (JP (JK 0) (Xw JL))) (JR 6)) (JW (UD (Xm (JK 4)) (JR 0) (JX (XG (JK 0) (JK 1))) (JK 0)) (JR 4))))))) (Ew (Ui Um)))))⟩) (.a fun ds R X h=>?_)
 ·obtain⟨l,hs,ws,rfl,hz,hN,hR⟩:=h;refine⟨rfl,?_⟩;refine⟨by simp,by simp,UV (xs:=hs) (emb:=D.int) (fun h=>if decide (l<h)=true then some (.int h)else none) (by omega) (fun h _=>ite2 (fun g=>⟨_,rfl,Yz g⟩) (fun g=>Yx g)) ?_⟩;rw[DH fun h=>decide (l<h)];refine⟨hs.filter fun h=>decide (l<h),rfl,V1 (Wd _ _) (by omega),fun ls hp hsrt=>?_⟩
  have hm:∀h∈ls,Gr hs l h:=fun h z=>by
   rw[hp.mem_iff,YS,Q2]at z;exact z
  have hlen:ls.length<=hs.length:=by
   rw[hp.length_eq];exact Wd _ _
  refine Sv (fun γ'=>∃k ps ls,γ'=[some (.sh (.int l)),some (.bor (.lst (hs.map D.int))),some (.bor (.lst (ws.map prD))),some (.own (ps.map (em l))),some (.own (ls.map D.int)),none,none]/\(∀p∈ps,p.length=k/\Path (Gr hs l) ws l p)/\(∀h∈ls,Gr hs l h)/\ps.length<=60/\ls.length<=hs.length/\(k+ls.length<=hs.length\/(ps=[]/\k<=hs.length+1)))
   (fun γ=>2*Gs 4 γ+min 1 (Gs 3 γ)) ⟨0,[[]],ls,rfl,(fun p z=>by rw[Y5.mp z];exact⟨rfl,trivial⟩),hm,by simp,hlen,.inl (by omega)⟩ ?_
  rintro γ' ⟨k,ps,ls,rfl,L,hm,hpl,hll,hk⟩;have emp:(!(ps.map (em l)).isEmpty)=decide (ps≠[]):=by cases ps<;>simp
  show if (!(ps.map (em l)).isEmpty)=true then _ else _;rw[emp];refine ite2 (fun g=>?_) (fun g=>?_)
  ·have hne:ps≠[]:=Y0 g;have hk':k+ls.length<=hs.length:=hk.elim id fun z=>absurd z.1 hne;have hpk:∀p∈ps,p.length<=60:=fun p hp=>by rw[(L p hp).1];omega
   have hn:∀p∈ps,(U9 l p,l)∉ws:=fun p hp z=>hN p ⟨(L p hp).2,z⟩;refine UV (xs:=ps) (emb:=em l) (fun _=>none) (by omega) (fun p hp=>⟨_,AE l p,by simp,_,.lp (U9 l p,l) ws,ite2 (fun g=>absurd (Y0 g) (hn p hp)) (fun g=>rfl)⟩) ?_;have e0:ps.filterMap (fun _=>(none:Option D))=[]:=by simp
   rw[e0];refine⟨l,ps,ls,ws,rfl,fun p hp=>Y8 (hpk p hp) (by decide),by omega,fun lg G hlg=>?_⟩;refine UV (xs:=lg) (emb:=em l) (fun p=>some (.int (U9 l p))) (by omega) (fun p _=>⟨_,AE l p,_,rfl,rfl⟩) ?_;have e1:lg.filterMap (fun p=>some (D.int (U9 l p)))=(lg.map (U9 l)).map D.int:=by rw[Qb,YZ];rfl
   rw[e1];refine UV (xs:=ls) (emb:=D.int) (fun h=>if decide (¬h∈lg.map (U9 l))=true then some (.int h)else none) (by omega) (fun h _=>⟨_,.li h _,?_⟩) ?_
   ·by_cases c:h∈lg.map (U9 l)
    ·simp only[Yy c];exact iteF (Yx (by simp[c]))
    ·simp only[YH c];exact iteT ⟨_,rfl,Yz (by simp[c])⟩
   rw[DH fun h=>decide (¬h∈lg.map (U9 l))];have hfl:=Wd (fun h=>decide (¬h∈lg.map (U9 l))) ls
   have hless:lg≠[]->(ls.filter fun h=>decide (¬h∈lg.map (U9 l))).length<ls.length:=fun hne=>by
    obtain⟨q,hq⟩:=List.exists_mem_of_ne_nil lg hne
    have hm:U9 l q∈ls:=by
     obtain⟨p,_,x,hx,rfl,_⟩:=G q hq;rw[P5];exact hx
    refine Nat.lt_of_le_of_ne hfl fun z=>?_
    have:=List.filter_eq_self.mp (List.Sublist.eq_of_length (Vt (l:=ls)) z) (U9 l q) hm
    rw[Q2]at this;exact this (List.mem_map_of_mem hq)
   refine⟨⟨k+1,lg,_,rfl,fun q hq=>?_,fun h hh=>hm h (YS.mp hh).1,by omega,by omega,?_⟩,?_⟩
   ·obtain⟨p,hp,x,hx,rfl,hw⟩:=G q hq;exact⟨by rw[Y4,(L p hp).1];rfl,path_app.mpr ⟨(L p hp).2,hm x hx,hw,trivial⟩⟩
   ·by_cases c:lg=[]
    ·exact .inr ⟨c,by omega⟩
    ·have:=hless c
     exact .inl (by omega)
   ·show 2*((ls.filter fun h=>decide (¬h∈lg.map (U9 l))).map D.int).length+min 1 (lg.map (em l)).length<2*(ls.map D.int).length+min 1 (ps.map (em l)).length;rw[Yu,Yu,Yu,Yu]
    have:0<ps.length:=Qu.mpr hne
    by_cases c:lg=[]
    ·rw[c];rw[c]at hfl;simp only[List.length_nil];omega
    ·have:=hless c
     omega
  ·have hpe:ps=[]:=YY fun z=>g (Yy z);subst hpe;exact⟨by simp,hR⟩
def LF(G:Glob K mg)(DD:Def K mg "sold" Aj ["strips","place","holder"])(Zu:A7 P w K mg base)(Zk:NN P w K mg base)
  : Gz P w K mg base:=by
 refine DD.ox (k:=1) GH (fun _ _ _ _ _ _ E hr=>⟨_,(JO (U8 (Xk Zu (hr.mono (by decide)) ExcR.US (bz (pv 0) (pv 1)))) (JO (U8 (Xk Zk (hr.mono (by decide)) ExcR.US (az (pv 2)))) (JO (Pu.pz 3 GH.nd (jx K (pv 0) (JS U3 (pv 1) JM))) (JO (Ua (cq K hr (jx K (pv 3) JM) (pv 2)) (JQ (ExcR.Xz G.g_OwnStrip.c G.m_OwnStrip ExcR.X0 rfl (az U6)))
   Ub) (JQ (JT (JS Xu (JS Xu (X7 (XA (K:=K)) (pv 0) XD (X4 (JS U3 (pv 1) JM))) (Uj (az (Ur (bz (pv 2) (jx K (pv 3) JM)))))) (X7 (XA (K:=K)) (pv 0) (X4 (pv 1)) XD)))))))), (JN (Xn (X5 (tz (JK 0) (JK 1)))) (JN (Xn (X5 (sz (JK 2)))) (JN (JW (JP (JK 0) (U5 (JK 1) JL)) (JR 3)) (JN (Ue (JX (U4 (JP (JK 3) JL) (JK 2))) (X3 (sz U7)) Uc) (Ud 2 (JY (Xt (Xt (XH (JK 0) XE (Xy (U5 (JK 1) JL))) (Ui (sz (Us (tz (JK 2) (JP (JK 3) JL)))))) (XH (JK 0) (Xy (JK 1)) XE))))))))⟩) (.a fun ds R X h=>?_)
 ·obtain⟨ps,p,h,rfl,hz,hR⟩:=h;refine⟨rfl,?_⟩;unfold Xj at hR;refine⟨ps,p,rfl,?_⟩;unfold NQ;by_cases c:p<1\/(ps.length:Int)<p
  ·rw[Yz c]at hR ⊢;exact hR
  ·rw[Yx c]at hR ⊢;refine⟨h,rfl,?_⟩;unfold Tr;by_cases c2:1<=h/\h<=10
   ·rw[Yx (fun z=>z c2)]at hR;rw[Yz c2];refine⟨_,KG (by omega) (by omega),?_⟩;have l1:(cutD (ps.map prD) none (some (p-1))).length<=1000:=by have:=(Ky (ps.map prD) none (some (p-1))).length_le;rw[Yu]at this;omega
    have l2:(cutD (ps.map prD) (some p) none).length<=1000:=by have:=(Ky (ps.map prD) (some p) none).length_le;rw[Yu]at this;omega
    refine⟨_,rfl,ite2 (fun g=>?_) (fun g=>?_)⟩
    ·have g':(atP1 ps p).1=h:=Y0 g;rw[Yz g']at hR;exact⟨by simp,hR⟩
    ·have g':¬(atP1 ps p).1=h:=fun z=>g (Yy z);rw[Yx g']at hR;refine⟨KA _,_,rfl,by simp,by simp,rfl,rfl,Y8 (YU l1 (Y3 1)) (by decide),KA _,rfl,rfl,Y8 (YU (by rw[Y4];exact YU l1 (Y3 1)) l2) (by decide),?_⟩;have e:=Ge (ps:=ps) (p:=p) (x:=(h,(atP1 ps p).2)) (by omega) (by omega);show R (.own (cutD (ps.map prD) none (some (p-1))++[prD (h,(atP1 ps p).2)]++cutD (ps.map prD) (some p) none));rw[e];exact hR
   ·rw[Yz c2]at hR;rw[Yx c2];exact hR
def Ze8(G:Glob K mg)(DD:Def K mg "parted" FV ["strips","place","width"])(Zu:A7 P w K mg base)
  : HR P w K mg base:=by
 refine DD.ox (k:=1) CC (fun _ _ _ _ _ _ E hr=>⟨_,(JO (U8 (Xk Zu (hr.mono (by decide)) ExcR.US (bz (pv 0) (pv 1)))) (JO (Pu.pz 3 CC.nd (jx K (pv 0) (JS U3 (pv 1) JM))) (JO (Ua (PW.pt (UL (Uk X6 (pv 2) JM (Up _)) (UU (Uk P9 (pv 2) (jx K (pv 3) JM) (Up _))))) (JQ (ExcR.Xz G.g_BadPart.c G.m_BadPart ExcR.X0 rfl (az U6)))
   Ub) (JO (Ua (Uk P9 (ln K G.len (pv 0)) (ExcR.XM G.STRIPS) (Up _)) (JQ (ExcR.Xz G.g_TooManyStrips.c G.m_TooManyStrips ExcR.X0 rfl (az (ExcR.pe_f (ExcR.Kn (ExcR.Px (ExcR.XM G.STRIPS) (ExcR.Kn ExcR.P8)))))))
   Ub) (JQ (JT (JS Xu (JS Xu (X7 (XA (K:=K)) (pv 0) XD (X4 (JS U3 (pv 1) JM))) (Uj (bz (Ur (bz (jx K (pv 3) JM) (pv 2))) (Ur (bz (jx K (pv 3) JM) (JS U3 (jx K (pv 3) JM) (pv 2))))))) (X7 (XA (K:=K)) (pv 0) (X4 (pv 1)) XD)))))))), (JN (Xn (X5 (tz (JK 0) (JK 1)))) (JN (JW (JP (JK 0) (U5 (JK 1) JL)) (JR 3)) (JN (Ue (UP (JX (X8 (JK 2) JL)) (JX (PJ (JK 2) (JP (JK 3) JL)))) (X3 (sz U7)) Uc) (JN (Ue (JX (PJ (Uy (sz (JK 0))) JL)) (X3 (sz (se_f (Kg (Pk JL (Kg Pr)))))) Uc) (Ud 2 (JY (Xt (Xt (XH (JK 0) XE (Xy (U5 (JK 1) JL))) (Ui (tz (Us (tz (JP (JK 3) JL) (JK 2))) (Us (tz (JP (JK 3) JL) (U5 (JP (JK 3) JL) (JK 2))))))) (XH (JK 0) (Xy (JK 1)) XE))))))))⟩) (.a fun ds R X h=>?_)
 ·obtain⟨ps,p,w,rfl,hz,hR⟩:=h;refine⟨rfl,?_⟩;have hl:(ps.map prD).length=ps.length:=Yu ..;refine⟨ps,p,rfl,?_⟩;unfold Xf at hR;unfold NQ;by_cases c:p<1\/(ps.length:Int)<p
  ·rw[Yz c]at hR ⊢;exact hR
  ·rw[Yx c]at hR ⊢;refine⟨_,KG (by omega) (by omega),?_⟩
   have go:¬(w<1\/(atP1 ps p).2<=w)->_:=fun c2=>by
    rw[Yx c2]at hR;exact hR
   by_cases c2:w<1\/(atP1 ps p).2<=w
   ·rw[Yz c2]at hR;refine ite2 (fun g=>iteT ⟨by simp,hR⟩) (fun g=>⟨_,rfl,ite2 (fun g2=>⟨by simp,hR⟩) (fun g2=>?_)⟩);have g':¬w<1:=fun z=>g (Yy z);have g2':¬(atP1 ps p).2<=w:=fun z=>g2 (Yy z);omega
   ·rw[Yx c2]at hR;refine ite2 (fun g=>absurd (Y0 g) (by omega)) (fun g=>⟨_,rfl,ite2 (fun g2=>absurd (Y0 g2) (by omega)) (fun g2=>?_)⟩);refine ite2 (fun g3=>?_) (fun g3=>?_)
    ·have g3':(40:Int)<=((ps.map prD).length:Int):=Y0 g3;rw[Yz (by omega)]at hR;exact⟨by decide,by decide,by decide,by decide,by decide,by simp,hR⟩
    ·have g3':¬(40:Int)<=((ps.map prD).length:Int):=fun z=>g3 (Yy z);rw[Yx (by omega)]at hR;have l1:(cutD (ps.map prD) none (some (p-1))).length<=1000:=by have:=(Ky (ps.map prD) none (some (p-1))).length_le;rw[Yu]at this;omega
     have l2:(cutD (ps.map prD) (some p) none).length<=1000:=by have:=(Ky (ps.map prD) (some p) none).length_le;rw[Yu]at this;omega
     refine⟨KA _,_,rfl,by simp,_,rfl,_,rfl,by simp,by simp,rfl,rfl,Y8 (YU l1 (Y3 2)) (by decide),KA _,rfl,rfl,Y8 (YU (by rw[Y4];exact YU l1 (Y3 2)) l2) (by decide),?_⟩;rw[←DG (by omega)]at hR;exact hR
def Rh(G:Glob K mg)(DD:Def K mg "united" FY ["strips","place"])(Zr:Aw P w K mg base)
  : DK P w K mg base:=by
 refine DD.ox (k:=1) Ac (fun _ _ _ _ _ _ E hr=>⟨_,(JO (U8 (Xk Zr (hr.mono (by decide)) ExcR.US (bz (pv 0) (pv 1)))) (JO (Pu.pz 2 Ac.nd (jx K (pv 0) (JS U3 (pv 1) JM))) (JO (Pu.pz 3 Ac.nd (jx K (pv 0) (pv 1))) (JO (Ua (cn K hr (jx K (pv 2) JM) (jx K (pv 3) JM)) (JQ (ExcR.Xz G.g_UnlikeHolders.c G.m_UnlikeHolders ExcR.X0 rfl (az U6)))
   Ub) (JO (Ua (Uk Xp (JS Uu (jx K (pv 2) JM) (jx K (pv 3) JM)) (ExcR.XM G.WIDEST) (Up _)) (JQ (ExcR.Xz G.g_TooWide.c G.m_TooWide ExcR.X0 rfl (az (ExcR.pe_f (ExcR.Kn (ExcR.Px (ExcR.XM G.WIDEST) (ExcR.Kn ExcR.P8)))))))
   Ub) (JQ (JT (JS Xu (JS Xu (X7 (XA (K:=K)) (pv 0) XD (X4 (JS U3 (pv 1) JM))) (Uj (az (Ur (bz (jx K (pv 2) JM) (JS Uu (jx K (pv 2) JM) (jx K (pv 3) JM))))))) (X7 (XA (K:=K)) (pv 0) (X4 (JS Uu (pv 1) JM)) XD))))))))), (JN (Xn (X5 (tz (JK 0) (JK 1)))) (JN (JW (JP (JK 0) (U5 (JK 1) JL)) (JR 2)) (JN (JW (JP (JK 0) (JK 1)) (JR 3)) (JN (Ue (JX (XI (JP (JK 2) JL) (JP (JK 3) JL))) (X3 (sz U7)) Uc) (JN (Ue (JX (Xq (Ut (JP (JK 2) JL) (JP (JK 3) JL)) JL)) (X3 (sz (se_f (Kg (Pk JL (Kg Pr)))))) Uc) (JY (Xt (Xt (XH (JK 0) XE (Xy (U5 (JK 1) JL))) (Ui (sz (Us (tz (JP (JK 2) JL) (Ut (JP (JK 2) JL) (JP (JK 3) JL))))))) (XH (JK 0) (Xy (Ut (JK 1) JL)) XE))))))))⟩) (.a fun ds R X h=>?_)
 ·obtain⟨ps,p,rfl,hz,hR⟩:=h;refine⟨rfl,?_⟩;have hl:(ps.map prD).length=ps.length:=Yu ..;refine⟨ps,p,rfl,?_⟩;unfold uniE at hR;by_cases c:p<1\/(ps.length:Int)<=p
  ·rw[Yz c]at hR ⊢;exact hR
  ·rw[Yx c]at hR ⊢
   have e2:atI (ps.map prD) p=some (prD (atP1 ps (p+1))):=by
    have:=KG (ps:=ps) (p:=p+1) (by omega) (by omega)
    rwa[show p+1-1=p by omega]at this
   refine⟨_,KG (by omega) (by omega),_,e2,_,rfl,_,rfl,ite2 (fun g=>?_) (fun g=>?_)⟩
   ·have g':¬(atP1 ps p).1=(atP1 ps (p+1)).1:=fun z=>by rw[Yy z]at g;cases g
    rw[Yz g']at hR;exact⟨by simp,hR⟩
   ·have g':(atP1 ps p).1=(atP1 ps (p+1)).1:=YY fun z=>g (by rw[YH z];rfl);rw[Yx (fun z=>z g')]at hR;refine⟨_,rfl,_,rfl,ite2 (fun g2=>?_) (fun g2=>?_)⟩
    ·rw[Yz (Y0 g2)]at hR;exact⟨by decide,by decide,by decide,by decide,by decide,by simp,hR⟩
    ·rw[Yx (fun z=>g2 (Yy z))]at hR;have l1:(cutD (ps.map prD) none (some (p-1))).length<=1000:=by have:=(Ky (ps.map prD) none (some (p-1))).length_le;rw[Yu]at this;omega
     have l2:(cutD (ps.map prD) (some (p+1)) none).length<=1000:=by have:=(Ky (ps.map prD) (some (p+1)) none).length_le;rw[Yu]at this;omega
     refine⟨KA _,_,rfl,_,rfl,_,rfl,by simp,by simp,rfl,rfl,Y8 (YU l1 (Y3 1)) (by decide),KA _,rfl,rfl,Y8 (YU (by rw[Y4];exact YU l1 (Y3 1)) l2) (by decide),?_⟩;rw[←E7 (by omega)]at hR;exact hR
def Zb5(G:Glob K mg)(DD:Def K mg "with_wish" F4 ["wishes","ahead","behind"])(Zk:NN P w K mg base)
  : GB P w K mg base:=by
 refine DD.ox (k:=1) Zcb (fun _ _ _ _ _ _ E hr=>⟨_,(JO (U8 (Xk Zk (hr.mono (by decide)) ExcR.US (az (pv 1)))) (JO (U8 (Xk Zk (hr.mono (by decide)) ExcR.US (az (pv 2)))) (JO (Ua (cq K hr (pv 1) (pv 2)) (JQ (ExcR.Xz G.g_LikeHolders.c G.m_LikeHolders ExcR.X0 rfl (az U6)))
   Ub) (JO (Ua (Uk (Kk (K:=K) (show _<cLine from UO hr)) (Ur (bz (pv 1) (pv 2))) (pv 0) (by with_unfolding_all rfl)) (JQ (ExcR.Xz G.g_WishStands.c G.m_WishStands ExcR.X0 rfl (az U6)))
   Ub) (JO (Ua (Uk P9 (ln K G.len (pv 0)) (ExcR.XM G.MOST_WISHES) (Up _)) (JQ (ExcR.Xz G.g_TooManyWishes.c G.m_TooManyWishes ExcR.X0 rfl (az (ExcR.pe_f (ExcR.Kn (ExcR.Px (ExcR.XM G.MOST_WISHES) (ExcR.Kn ExcR.P8)))))))
   Ub) (JQ (JT (JS Xu (pv 0) (Uj (az (Ur (bz (pv 1) (pv 2))))))))))))), (JN (Xn (X5 (sz (JK 1)))) (JN (Xn (X5 (sz (JK 2)))) (JN (Ue (JX (U4 (JK 1) (JK 2))) (X3 (sz U7)) Uc) (JN (Ue (JX (XG (Us (tz (JK 1) (JK 2))) (JK 0))) (X3 (sz U7)) Uc) (JN (Ue (JX (PJ (Uy (sz (JK 0))) JL)) (X3 (sz (se_f (Kg (Pk JL (Kg Pr)))))) Uc) (Ud 2 (Ud 1 (JY (Xt (JK 0) (Ui (sz (Us (tz (JK 1) (JK 2))))))))))))))⟩) (.a fun ds R X h=>?_)
 ·obtain⟨ws,a,b,rfl,hz,hR⟩:=h;refine⟨rfl,?_⟩;have hl:(ws.map prD).length=ws.length:=Yu ..;unfold UX at hR;refine⟨a,rfl,?_⟩;unfold Tr;by_cases c1:1<=a/\a<=10
  ·rw[Yx (fun z=>z c1)]at hR;rw[Yz c1];refine⟨b,rfl,?_⟩;unfold Tr;by_cases c2:1<=b/\b<=10
   ·rw[Yx (fun z=>z c2)]at hR;rw[Yz c2];refine ite2 (fun g=>?_) (fun g=>?_)
    ·rw[Yz (Y0 g)]at hR;exact⟨by simp,hR⟩
    ·rw[Yx (fun z=>g (Yy z))]at hR;refine⟨by simp,_,.lp (a,b) ws,ite2 (fun g2=>?_) (fun g2=>?_)⟩
     ·rw[Yz (Y0 g2)]at hR;exact⟨by simp,hR⟩
     ·rw[Yx (fun z=>g2 (Yy z))]at hR;refine ite2 (fun g3=>?_) (fun g3=>?_)
      ·have g3':(20:Int)<=((ws.map prD).length:Int):=Y0 g3;rw[Yz (by omega)]at hR;exact⟨by decide,by decide,by decide,by decide,by decide,by simp,hR⟩
      ·have g3':¬(20:Int)<=((ws.map prD).length:Int):=fun z=>g3 (Yy z);rw[Yx (by omega)]at hR;refine⟨by simp,by simp,KA _,rfl,Y8 (YU (Y8 (WQ hl) hz) (Y3 1)) (by decide),?_⟩;rw[Y9]at hR;exact hR
   ·rw[Yz c2]at hR;rw[Yx c2];exact hR
  ·rw[Yz c1]at hR;rw[Yx c1];exact hR
def Zdk(G:Glob K mg)(DD:Def K mg "pair_costs" AN ["strips"])(Ze:TQ P w K mg base)(Z4:GT P w K mg base)
  : Ay P w K mg base:=by
 refine DD.oz (k:=1) Nt (fun _ _ _ _ _ _ E hr=>⟨_,(JO (Pu.pz 1 Nt.nd (fz Ze hr (az (pv 0)))) (JO (Pu.pz 2 Nt.nd Gc) (JO (UN YN rfl (U1 (K:=K) (pv 1)) (gz 3 Nt.nd) (JQ (UN YN rfl (U1 (K:=K) (pv 1)) (gz 4 Nt.nd) (JQ (Su (UO hr) (pv 2) (Ur (bz (pv 3) (pv 4))) (fz Z4 hr (dz (pv 0) (pv 3) (pv 4))) rfl))))) (JQ (JT (pv 2)))))), (JN (JW (JZ (sz (JK 0))) (JR 1)) (JN (JW Cs (JR 2)) (JN (Ud 1 (UM [3,4] (X2 (JK 1)) (JR 3) (Ud 1 (UM [4] (X2 (JK 1)) (JR 4) (Ud 4 (Ud 3 (SG 2 (Us (tz (JK 3) (JK 4))) (JZ (uz (JK 0) (JK 3) (JK 4)))))))))) (XB 2))))⟩) (.a fun ds R X h=>?_)
 ·obtain⟨ps,rfl,hF,hz,hR⟩:=h;refine⟨rfl,?_⟩;refine⟨ps,rfl,hF,hz,?_⟩;have hh:=KJ ps;generalize Ul ps=hs at hh hR ⊢
  refine⟨rfl,Xv (xs:=hs) (emb:=D.int) (fun i γ'=>∃kvs:List (List Key×V),γ'=[some (.bor (.lst (ps.map prD))),some (.sh (.lst (hs.map D.int))),some (.own (.dT kvs)),none,none]/\kvs.length<=i*10/\
   ∀x∈hs.take i,∀y∈hs,valV kvs [.inl x,.inl y]=some (.int (pcM ps x y ps.length))) ⟨[],rfl,by simp,by simp⟩ ?_ ?_⟩
  ·rintro i hi γ' ⟨kvs,rfl,hl,hv⟩
   refine⟨rfl,Xv (xs:=hs) (emb:=D.int) (fun j γ'=>∃kvs:List (List Key×V),γ'=[some (.bor (.lst (ps.map prD))),some (.sh (.lst (hs.map D.int))),some (.own (.dT kvs)),some (.sh (.int hs[i])),none]/\kvs.length<=i*10+j/\
    (∀x∈hs.take i,∀y∈hs,valV kvs [.inl x,.inl y]=some (.int (pcM ps x y ps.length)))/\∀y∈hs.take j,valV kvs [.inl hs[i],.inl y]=some (.int (pcM ps hs[i] y ps.length))) ⟨kvs,rfl,by omega,hv,by simp⟩ ?_ ?_⟩
   ·rintro j hj γ' ⟨kvs,rfl,hl,hv,hw⟩;refine⟨ps,_,_,rfl,hF,by simp,_,_,rfl,rfl,by omega,_,rfl,Y8 (Nj _ _ _) (by omega),fun x hx y hy=>?_,fun y hy=>?_⟩
    ·rw[Tc];by_cases e:([.inl x,.inl y]:List Key)=[.inl hs[i],.inl hs[j]]
     ·rw[Yz e];simp only[WR,V5,and_true]at e;rw[e.1,e.2]
     ·rw[Yx e];exact hv x hx y hy
    ·rw[Tc];by_cases e:([.inl hs[i],.inl y]:List Key)=[.inl hs[i],.inl hs[j]]
     ·rw[Yz e];simp only[WR,V5,and_true]at e;rw[e.2]
     ·rw[Yx e];rw[YL hj,YR,Y5]at hy;rcases hy with hy|hy
      ·exact hw y hy
      ·subst hy;exact absurd rfl e
   ·rintro γ' ⟨kvs,rfl,hl,hv,hw⟩;rw[Wr]at hw;refine⟨kvs,rfl,by omega,fun x hx y hy=>?_⟩;rw[YL hi,YR,Y5]at hx;rcases hx with hx|hx
    ·exact hv x hx y hy
    ·subst hx;exact hw y hy
  ·rintro γ' ⟨kvs,rfl,hl,hv⟩;rw[Wr]at hv;exact hR kvs hv
def Zgo(G:Glob K mg)(DD:Def K mg "cost_with_last" Ai ["members","last","least","pairs"])(Zl:Sg P w K mg base)
  : CO P w K mg base:=by
 refine DD.oz (k:=1) D6 (fun _ _ _ _ _ _ E hr=>⟨_,(JO (Pu.pz 4 D6.nd (fz Zl hr (bz (pv 0) (pv 1)))) (JQ (JT (JS Uu (N6 (UO hr) (pv 2) (pv 4) (fun _ _=>rfl)) (UZ (CD (K:=K) rfl) (by rfl) G.sum boot_sum (az (Xg (N':=["other","pairs","last"]) (φ:=[none,some 3,some 1]) rfl (Own.CompOk.of (by rfl)) (PQ (K:=K) (pv 4)) (fun _ _ _ _ _=>⟨(gz 0 (show(["other","pairs","last"]:List Str).Nodup from by decide +kernel)),X9,(N6 (UO hr) (pv 1) (Ur (bz (pv 0) (pv 2))) (fun _ _=>rfl))⟩)))))))), (JN (JW (JZ (tz (JK 0) (JK 1))) (JR 4)) (Ud 1 (JY (Ut (N7 (JK 2) (JK 4)) (EF (sz (UD (SndI.c (Tv (JK 4))) (JR 0) XC (N7 (JK 1) (Us (tz (JK 0) (JK 2)))))))))))⟩) (.a fun ds R X h=>?_)
 ·obtain⟨ms,l,le,pa,c,v,rfl,hz,hv,hc,hR⟩:=h;refine⟨rfl,?_⟩;rw[Nq];have hz':(Uq ms l).length<=1000:=Y8 less_sub.length_le hz;refine⟨ms,l,rfl,hz,_,_,Sn _,hv,rfl,_,rfl,UV (s:=.sh .non) (xs:=Uq ms l) (emb:=D.int) (fun m=>some (.int (c m))) (by omega) (fun m hm=>?_) ?_⟩
  ·exact⟨by simp,_,_,rfl,hc m hm,rfl,_,rfl,rfl⟩
  ·rw[mapD];exact⟨(Uq ms l).map c,by rw[YZ];rfl,hR⟩
def Ou(G:Glob K mg)(DD:Def K mg "cost_with_first" Bh ["members","first","least","pairs"])(Zl:Sg P w K mg base)
  : CP P w K mg base:=by
 refine DD.oz (k:=1) IC (fun _ _ _ _ _ _ E hr=>⟨_,(JO (Pu.pz 4 IC.nd (fz Zl hr (bz (pv 0) (pv 1)))) (JQ (JT (JS Uu (N6 (UO hr) (pv 2) (pv 4) (fun _ _=>rfl)) (UZ (CD (K:=K) rfl) (by rfl) G.sum boot_sum (az (Xg (N':=["other","pairs","first"]) (φ:=[none,some 3,some 1]) rfl (Own.CompOk.of (by rfl)) (PQ (K:=K) (pv 4)) (fun _ _ _ _ _=>⟨(gz 0 (show(["other","pairs","first"]:List Str).Nodup from by decide +kernel)),X9,(N6 (UO hr) (pv 1) (Ur (bz (pv 2) (pv 0))) (fun _ _=>rfl))⟩)))))))), (JN (JW (JZ (tz (JK 0) (JK 1))) (JR 4)) (Ud 1 (JY (Ut (N7 (JK 2) (JK 4)) (EF (sz (UD (SndI.c (Tv (JK 4))) (JR 0) XC (N7 (JK 1) (Us (tz (JK 2) (JK 0)))))))))))⟩) (.a fun ds R X h=>?_)
 ·obtain⟨ms,l,le,pa,c,v,rfl,hz,hv,hc,hR⟩:=h;refine⟨rfl,?_⟩;rw[Nq];have hz':(Uq ms l).length<=1000:=Y8 less_sub.length_le hz;refine⟨ms,l,rfl,hz,_,_,Sn _,hv,rfl,_,rfl,UV (s:=.sh .non) (xs:=Uq ms l) (emb:=D.int) (fun m=>some (.int (c m))) (by omega) (fun m hm=>?_) ?_⟩
  ·exact⟨by simp,_,_,rfl,hc m hm,rfl,_,rfl,rfl⟩
  ·rw[mapD];exact⟨(Uq ms l).map c,by rw[YZ];rfl,hR⟩
def RP(G:Glob K mg)(DD:Pu.DefM K (Meth K (ExcR.JU mg "Village") "drop") "drop" "Village.drop" AR ["self","ahead","behind"])(Zf:PZ P w K mg base)(Z5:E6 P w K mg base)(Zg:PP P w K mg base)(Zd:Pi P w K mg base)(Zb:K4 P w K mg base)
  : HN P w K mg base:=by
 refine DD.ox (k:=1) Dt (fun _ _ _ _ _ _ E hr=>⟨_,(JO (U8 (UI Zf G.cl_Village (hr.mono (by decide)) ExcR.US (pv 0))) (JO (Pu.pz 3 Dt.nd (Xk Z5 (hr.mono (by decide)) ExcR.US (dz (UI Zd G.cl_Village (hr.mono (by decide)) UH (pv 0)) (pv 1) (pv 2)))) (JQ (JT (Kv Zg G.cl_Village (hr.mono (by decide)) UH (pv 0) (dz (Ur (dz U6 (pv 1) (pv 2))) (UI Zb G.cl_Village (hr.mono (by decide)) UH (pv 0)) (pv 3))))))), (JN (Xn (Ni TN (JK 0) Um)) (JN (JW (X5 (uz (Xh Pt (JK 0) Um) (JK 1) (JK 2))) (JR 3)) (Ud 2 (Ud 1 (Ud 3 (Kt (T1 0 TH (uz (Us (uz U7 (JK 1) (JK 2))) (Xh KB (JK 0) Um) (JK 3)))))))))⟩) (.c fun o ss R X h=>?_)
 ·obtain⟨x,b1,b2,b3,bk,fs,ws,f,w,p,h,rfl,rfl,hb,hf,hw,hz,hR⟩:=h;refine⟨rfl,?_⟩;unfold SD at hR;refine⟨rfl,rfl,bk,fs++[f],ws++[w],rfl,?_⟩;unfold PD;by_cases c:100<=bk.length
  ·rw[Yz c]at hR ⊢;exact⟨_,rfl,⟨rfl,by simp⟩,hR⟩
  ·rw[Yx c]at hR ⊢;refine⟨rfl,rfl,bk,fs++[f],ws,w,rfl,w,p,h,rfl,hz,?_⟩;cases e:Xa w p h with
   |some c=>
    rw[e]at hR;exact⟨_,rfl,⟨rfl,by simp⟩,hR⟩
   |none=>
    rw[e]at hR;refine⟨rfl,rfl,by simp,rfl,rfl,bk,fs,ws++[w],f,rfl,?_⟩;exact⟨x,b1,b2,b3,bk,fs++[f],ws++[w],("drop",[p,h]),f,K9 w p h,rfl,rfl,hb,by rw[Y4];simp;omega,by rw[Y4];simp;omega,_,rfl,⟨rfl,by simp⟩,hR⟩
def Ob(G:Glob K mg)(DD:Def K mg "_law_draw" FN ["_law_script","_law_k"])(Zi:Nu P w K mg base)(Zc:Te P w K mg base)
  : G9 P w K mg base:=by
 refine DD.oz (k:=1) Zam (fun _ _ _ _ _ _ E hr=>⟨_,(JO (Ua (cq K hr (JS Uw (fz Zc hr (bz (pv 0) JM)) JM) JM) (JQ (JT (fz Zc hr (bz (pv 0) (JS Uu JM (pv 1))))))
   Ub) (JQ (JT (fz Zi hr (bz (fz Zc hr (bz (pv 0) JM)) (pv 1)))))), (JN (Ue (JX (U4 (Ux (JZ (tz (JK 0) JL)) JL) JL)) (JY (JZ (tz (JK 0) (Ut JL (JK 1))))) Uc) (JY (JZ (tz (JZ (tz (JK 0) JL)) (JK 1)))))⟩) (.a fun ds R X h=>?_)
 ·obtain⟨ns,k,rfl,hk,hR⟩:=h;refine⟨rfl,?_⟩;refine⟨ns,0,rfl,by decide,(by show(0:Int)<2;decide),ite2 (fun _=>?_) (fun _=>?_)⟩
  ·exact⟨ns,_,rfl,by omega,hR _⟩
  ·exact⟨ns,1,rfl,by decide,_,_,rfl,hR _⟩
def II(G:Glob K mg)(DD:Def K mg "_law_row" Ft ["_law_found","_law_due"])(Zj:N5 P w K mg base)
  : Hc P w K mg base:=by
 refine DD.oz (k:=1) Gj (fun _ _ _ _ _ _ E hr=>⟨_,(JO (Ua (PW.pt (UL (Xi (UC (K:=K) (UZ (KI (K:=K)) (by rfl) G.isinstance WI (bz (pv 0) (KL (v:=.ty "list") rfl G.list boot_list rfl))))) (UU (cn K hr (ln K G.len (pv 0)) (ln K G.len (pv 1)))))) (JQ (JT UG))
   Ub) (JO (UN YN rfl (Kp rfl G.range (az (ln K G.len (pv 1)))) (gz 2 Gj.nd) (JQ (Ua (PW.pt (UL (Xi (UC (K:=K) (fz Zj hr (az (jx K (pv 0) (pv 2)))))) (UU (cn K hr (jx K (pv 0) (pv 2)) (jx K (pv 1) (pv 2)))))) (JQ (JT UG))
   Ub))) (JQ (JT UG)))), (JN (Ue (UP (Xr (UT (KE (tz (JK 0) KM)))) (JX (XI (Uy (sz (JK 0))) (Uy (sz (JK 1)))))) (JY UF) Uc) (JN (UM [2] (Ks (sz (Uy (sz (JK 1))))) (JR 2) (Ue (UP (Xr (UT (JZ (sz (JP (JK 0) (JK 2)))))) (JX (XI (JP (JK 0) (JK 2)) (JP (JK 1) (JK 2))))) (JY UF) Uc)) (JY UF)))⟩) (.a fun ds R X h=>?_)
 ·obtain⟨xs,rfl,hz,hR⟩:=h;refine⟨rfl,?_⟩;have hl:(xs.map D.int).length=xs.length:=Yu ..;refine⟨_,.same _,iteF (P7 rfl ?_)⟩;refine⟨⟨by omega,by omega⟩,Ku (fun i γ'=>γ'=[some (.bor (.lst (xs.map D.int))),some (.bor (.lst (xs.map D.int))),none]) rfl ?_ ?_⟩
  ·rintro i γ' hi rfl;have hi':i<(((xs.map D.int).length:Nat):Int).toNat:=hi;have ez:(0:Int)+(i:Int)=(i:Int):=by omega
   have hb:i<xs.length:=by omega
   have ha:atI (xs.map D.int) (0+(i:Int))=some (.int xs[i]):=by rw[ez];exact FS hb
   exact⟨_,ha,_,rfl,iteF ⟨_,ha,_,ha,P7 rfl rfl⟩⟩
  ·rintro γ' rfl;exact hR
def O2(G:Glob K mg)(DD:Def K mg "_law_tuples" B0 ["_law_found","_law_due"])(Zj:N5 P w K mg base)
  : Cp P w K mg base:=by
 refine DD.oz (k:=1) AC (fun _ _ _ _ _ _ E hr=>⟨_,(JO (Ua (PW.pt (UL (Xi (UC (K:=K) (UZ (KI (K:=K)) (by rfl) G.isinstance WI (bz (pv 0) (KL (v:=.ty "list") rfl G.list boot_list rfl))))) (UU (cn K hr (ln K G.len (pv 0)) (ln K G.len (pv 1)))))) (JQ (JT UG))
   Ub) (JO (UN YN rfl (Kp rfl G.range (az (ln K G.len (pv 1)))) (gz 2 AC.nd) (JO (Ua (PW.pt (UL (Xi (UC (K:=K) (UZ (KI (K:=K)) (by rfl) G.isinstance WI (bz (jx K (pv 0) (pv 2)) (KL (v:=.ty "tuple") rfl G.tuple boot_tuple rfl))))) (UU (cn K hr (ln K G.len (jx K (pv 0) (pv 2))) (ln K G.len (jx K (pv 1) (pv 2))))))) (JQ (JT UG))
   Ub) (JQ (UN YN rfl (Kp rfl G.range (az (ln K G.len (jx K (pv 1) (pv 2))))) (gz 3 AC.nd) (JQ (Ua (PW.pt (UL (Xi (UC (K:=K) (fz Zj hr (az (jx K (jx K (pv 0) (pv 2)) (pv 3)))))) (UU (cn K hr (jx K (jx K (pv 0) (pv 2)) (pv 3)) (jx K (jx K (pv 1) (pv 2)) (pv 3)))))) (JQ (JT UG))
   Ub)))))) (JQ (JT UG)))), (JN (Ue (UP (Xr (UT (KE (tz (JK 0) KM)))) (JX (XI (Uy (sz (JK 0))) (Uy (sz (JK 1)))))) (JY UF) Uc) (JN (UM [2,3] (Ks (sz (Uy (sz (JK 1))))) (JR 2) (JN (Ue (UP (Xr (UT (KE (tz (JP (JK 0) (JK 2)) KM)))) (JX (XI (Uy (sz (JP (JK 0) (JK 2)))) (Uy (sz (JP (JK 1) (JK 2))))))) (JY UF) Uc) (UM [3] (Ks (sz (Uy (sz (JP (JK 1) (JK 2)))))) (JR 3) (Ue (UP (Xr (UT (JZ (sz (JP (JP (JK 0) (JK 2)) (JK 3)))))) (JX (XI (JP (JP (JK 0) (JK 2)) (JK 3)) (JP (JP (JK 1) (JK 2)) (JK 3))))) (JY UF) Uc)))) (JY UF)))⟩) (.a fun ds R X h=>?_)
 ·obtain⟨ps,rfl,hz,hR⟩:=h;refine⟨rfl,?_⟩;have hl:(ps.map prD).length=ps.length:=Yu ..;refine⟨_,.same _,iteF (P7 rfl ?_)⟩;refine⟨⟨by omega,by omega⟩,Ku (fun i γ'=>∃t,γ'=[some (.bor (.lst (ps.map prD))),some (.bor (.lst (ps.map prD))),none,t]) ⟨_,rfl⟩ ?_ ?_⟩
  ·rintro i γ' hi ⟨t,rfl⟩;have hi':i<(((ps.map prD).length:Nat):Int).toNat:=hi;have ez:(0:Int)+(i:Int)=(i:Int):=by omega
   have hb:i<ps.length:=by omega
   have ha:atI (ps.map prD) (0+(i:Int))=some (prD ps[i]):=by rw[ez];exact FS hb
   generalize ps[i]=q at ha;refine⟨_,ha,_,.same _,iteF ⟨_,ha,_,ha,?_⟩⟩;refine⟨_,ha,⟨(by show -(2 ^ 62)<=(2:Int);decide),(by show(2:Int)<2 ^ 62;decide)⟩,Ku (fun j γ'=>∃t,γ'=[some (.bor (.lst (ps.map prD))),some (.bor (.lst (ps.map prD))),some (.sh (.int (0+(i:Int)))),t]) ⟨_,rfl⟩ ?_ ?_⟩
   ·rintro j γ' hj ⟨t,rfl⟩;have hj2:j<2:=hj
    obtain⟨z,ea⟩:∃z:Int,atI [D.int q.1,D.int q.2] (0+(j:Int))=some (.int z):=by
     have:j=0\/j=1:=by omega
     rcases this with rfl|rfl
     ·exact⟨_,rfl⟩
     ·exact⟨_,rfl⟩
    exact⟨_,ha,_,ea,z,rfl,iteF ⟨_,ha,_,ea,_,ha,_,ea,P7 rfl ⟨_,rfl⟩⟩⟩
   ·rintro γ' ⟨t,rfl⟩;exact⟨_,rfl⟩
  ·rintro γ' ⟨t,rfl⟩;exact hR
def MD(G:Glob K mg)(DD:Def K mg "_law_good_move" B3 ["_law_move","_law_numbers","_law_strips","_law_ranks"])(Zj:N5 P w K mg base)
  : Er P w K mg base:=by
 refine DD.oz (k:=1) Sy (fun _ _ _ _ _ _ E hr=>⟨_,(JO (Ua (PW.pt (UL (Xi (UC (K:=K) (UZ (KI (K:=K)) (by rfl) G.isinstance WI (bz (pv 0) (KL (v:=.ty "tuple") rfl G.tuple boot_tuple rfl))))) (UU (cn K hr (ln K G.len (pv 0)) JM)))) (JQ (JT UG))
   Ub) (JO (UN YN rfl (PQ (K:=K) (pv 0)) (gz 4 Sy.nd) (JQ (Ua (Xi (UC (K:=K) (fz Zj hr (az (pv 4))))) (JQ (JT UG))
   Ub))) (JO (Pu.pz 5 Sy.nd (jx K (pv 0) JM)) (JO (Ua (PW.pt (UL (Uk X6 (pv 5) JM (Up _)) (UU (Uk P9 (pv 5) (ln K G.len (pv 1)) (Up _))))) (JQ (JT UG))
   Ub) (JO (Ua (PW.pt (UL (cn K hr (jx K (pv 0) JM) (jx K (pv 1) (JS U3 (pv 5) JM))) (UU (cn K hr (jx K (pv 0) JM) (jx K (pv 1) (pv 5)))))) (JQ (JT UG))
   Ub) (JO (UN YN rfl (Kp rfl G.range (az (JS U3 (pv 5) JM))) (gz 6 Sy.nd) (JQ (Ua (Uk Xp (jx K (pv 3) (JS U3 (jx K (pv 1) (pv 6)) JM)) (jx K (pv 3) (JS U3 (jx K (pv 1) (JS Uu (pv 6) JM)) JM)) (Up _)) (JQ (JT UG))
   Ub))) (JQ (JT (Pa (Tw (K:=K) (show _<cLine from hr.units0)) (jx K (pv 0) JM) (JS KZ (jx K (jx K (pv 2) (JS U3 (jx K (pv 0) JM) JM)) JM) (jx K (jx K (pv 2) (JS U3 (jx K (pv 0) JM) JM)) JM)) (Up _)))))))))), (JN (Ue (UP (Xr (UT (KE (tz (JK 0) KM)))) (JX (XI (Uy (sz (JK 0))) JL))) (JY UF) Uc) (JN (Ud 0 (UM [4] (Tv (JK 0)) (JR 4) (Ue (Xr (UT (JZ (sz (JK 4))))) (JY UF) Uc))) (JN (JW (JP (JK 0) JL) (JR 5)) (JN (Ue (UP (JX (X8 (JK 5) JL)) (JX (PJ (JK 5) (Uy (sz (JK 1)))))) (JY UF) Uc) (JN (Ue (UP (JX (XI (JP (JK 0) JL) (JP (JK 1) (U5 (JK 5) JL)))) (JX (XI (JP (JK 0) JL) (JP (JK 1) (JK 5))))) (JY UF) Uc) (JN (UM [6] (Ks (sz (U5 (JK 5) JL))) (JR 6) (Ue (JX (Xq (JP (JK 3) (U5 (JP (JK 1) (JK 6)) JL)) (JP (JK 3) (U5 (JP (JK 1) (Ut (JK 6) JL)) JL)))) (JY UF) Uc)) (JY (U4 (JP (JK 0) JL) (KU (JP (JP (JK 2) (U5 (JP (JK 0) JL) JL)) JL) (JP (JP (JK 2) (U5 (JP (JK 0) JL) JL)) JL))))))))))⟩) (.a fun ds R X h=>?_)
 ·obtain⟨ps,ns,rs,p,rfl,hF,hz,hin,lr,hw,h0,hR⟩:=h;refine⟨rfl,?_⟩;obtain⟨h1,h2,h3⟩:=hw.2.resolve_left h0;rw[Yu]at h2
  have ix:∀(i:Nat) (k:Int),i<ns.length->k=(i:Int)->atI (ns.map D.int) k=some (.int (ns.getD i 0)):=fun i k hi e=>by
   rw[e];exact K6 (f:=D.int) (T6 (by rw[Yw,Yt hi];rfl))
  have inn:∀i:Nat,i<ns.length->1<=ns.getD i 0/\ns.getD i 0<=ps.length:=fun i hi=>by
   have hm:ns.getD i 0∈ns:=by rw[Yw,Yt hi];exact YK hi
   exact hin _ hm
  have rx:∀z:Int,1<=z/\z<=ps.length->atI (rs.map D.int) (z-1)=some (.int (rs.getD (z-1).toNat 0)):=fun z hz=>by
   have hi:(z-1).toNat<rs.length:=by omega
   have e:rs.getD (z-1).toNat 0=rs[(z-1).toNat]:=by rw[Yw,Yt hi];rfl
   rw[e];exact Xs (f:=D.int) (xs:=rs) (by omega) (by omega)
  have sx:∀z:Int,1<=z/\z<=ps.length->atI (ps.map prD) (z-1)=some (prD (ps.getD (z-1).toNat (0,0)))/\(1<=(ps.getD (z-1).toNat (0,0)).2/\(ps.getD (z-1).toNat (0,0)).2<=1000):=fun z hz=>by
   have hi:(z-1).toNat<ps.length:=by omega
   have e:ps.getD (z-1).toNat (0,0)=ps[(z-1).toNat]:=by rw[Yw,Yt hi];rfl
   rw[e]
   have:=hF _ (YK hi)
   exact⟨Xs (f:=prD) (xs:=ps) (by omega) (by omega),this.2.2.1,this.2.2.2⟩
  have hln:(ns.map D.int).length=ns.length:=Yu ..;have hn1:=inn (p-1) (by omega);have hn2:=inn p h2
  have step:∀q:Nat,1<=q->q<p->rs.getD (ns.getD (q-1) 0-1).toNat 0<=rs.getD (ns.getD q 0-1).toNat 0:=fun q a b=>by
   have:=hw.1 q a (by rw[Yx h0];exact b)
   rw[XY (f:=fun m=>rs.getD (m-1).toNat 0) (show q-1<ns.length by omega),XY (f:=fun m=>rs.getD (m-1).toNat 0) (show q<ns.length by omega)]at this;exact this
  have hp:∀i:Nat,i<4->∃z:Int,[D.int (p:Int),.int (ns.getD (p-1) 0),.int (ns.getD p 0),.int (exM ps ns p)].getD i .non=.int z:=fun i hi=>by
   have:i=0\/i=1\/i=2\/i=3:=by omega
   rcases this with rfl|rfl|rfl|rfl<;>exact⟨_,rfl⟩
  refine⟨true,.same _,iteF ?_⟩;refine⟨_,rfl,Ku (fun i γ'=>γ'=[some (.sh (mvD ((p:Int),ns.getD (p-1) 0,ns.getD p 0,exM ps ns p))),some (.bor (.lst (ns.map D.int))),some (.bor (plD ps)),some (.bor (.lst (rs.map D.int))),none,none,none]) rfl ?_ ?_⟩
  ·rintro i γ' hi rfl;obtain⟨z,ez⟩:=hp i hi;rw[ez];exact⟨z,rfl,iteF rfl⟩
  ·rintro γ' rfl;refine⟨_,rfl,ite2 (fun g=>absurd (Y0 g) (by omega)) (fun _=>ite2 (fun g=>absurd (Y0 g) (by omega)) (fun _=>?_))⟩;refine⟨_,rfl,_,ix (p-1) _ (by omega) (by omega),P7 rfl ⟨_,rfl,_,ix p _ h2 rfl,P7 rfl ?_⟩⟩;refine⟨⟨by omega,by omega⟩,Ku (fun i γ'=>γ'=[some (.sh (mvD ((p:Int),ns.getD (p-1) 0,ns.getD p 0,exM ps ns p))),some (.bor (.lst (ns.map D.int))),some (.bor (plD ps)),some (.bor (.lst (rs.map D.int))),none,some (.sh (.int p)),none]) rfl ?_ ?_⟩
   ·rintro i γ' hi rfl;have hi':i<((p:Int)-1).toNat:=hi;have st:=step (i+1) (by omega) (by omega);rw[WN]at st;refine⟨_,ix i _ (by omega) (by omega),_,rx _ (inn i (by omega)),_,ix (i+1) _ (by omega) (by omega),_,rx _ (inn (i+1) (by omega)),?_⟩;exact ite2 (fun g=>absurd (Y0 g) (by omega)) (fun _=>rfl)
   ·rintro γ' rfl;obtain⟨s1,s2⟩:=sx _ hn1;obtain⟨s3,s4⟩:=sx _ hn2;refine⟨_,rfl,_,rfl,_,s1,_,rfl,_,rfl,_,s3,_,rfl,.inl ⟨by show -(2 ^ 64)<(ps.getD _ (0,0)).2;omega,by show(ps.getD _ (0,0)).2<2 ^ 64;omega⟩,?_⟩;show R (.sh (.bl (decide (exM ps ns p=exM ps ns p))));rw[Yy rfl];exact hR
def Og(G:Glob K mg)(DD:Def K mg "_law_step" AA ["_law_now","_law_deed_here"])(Z6:DJ P w K mg base)(Z7:AZ P w K mg base)
  : Dx P w K mg base:=by
 refine DD.oz (k:=1) Fy (fun _ _ _ _ _ _ E hr=>⟨_,(JO (Ua (PW.pt (UL (cq K hr (jx K (pv 1) JM) U6) (UU (cq K hr (jx K (pv 1) JM) U6)))) (JO (Pu.pz 2 Fy.nd (fz Z7 hr (bz (jx K (pv 0) JM) (pv 1)))) (JQ (JT (Uj (dz (jx K (pv 2) JM) (jx K (pv 0) JM) (jx K (pv 2) JM))))))
   Ub) (JO (Pu.pz 2 Fy.nd (fz Z6 hr (bz (jx K (pv 0) JM) (pv 1)))) (JQ (JT (Uj (dz (jx K (pv 2) JM) (jx K (pv 2) JM) (jx K (pv 0) JM))))))), (JN (Ue (UP (JX (U4 (JP (JK 1) JL) U7)) (JX (U4 (JP (JK 1) JL) U7))) (JN (Ud 1 (JW (Ar (tz (JP (JK 0) JL) (JK 1))) (JR 2))) (JY (Ui (uz (JP (JK 2) JL) (JP (JK 0) JL) (JP (JK 2) JL))))) Uc) (JN (Ud 1 (JW (Ar (tz (JP (JK 0) JL) (JK 1))) (JR 2))) (JY (Ui (uz (JP (JK 2) JL) (JP (JK 2) JL) (JP (JK 0) JL))))))⟩) (.b fun ds R X h=>?_)
 ·obtain⟨f,w,ds,x,rfl,hz,hw,hR⟩:=h;refine⟨rfl,?_⟩;have at1:atI (plD f::plD w::ds) 1=some (plD w):=TR (by decide) rfl
  have land:∀x:Dd,x.land=true->R (.own [.int (codeN (x.err f w)),plD (x.nf f w),plD (x.nw f w)])->R (.own [.int (codeN (x.err f [])),plD (x.fld' f),plD w]):=fun x h k=>by
   have e:=x.err_land h f w [];have e2:x.wsh w=w:=by cases x<;>first|rfl|cases h
   unfold Dd.nf Dd.nw at k;rw[e2,e,ite_self]at k;unfold Dd.fld';exact k
  have wish:∀x:Dd,x.land=false->R (.own [.int (codeN (x.err f w)),plD (x.nf f w),plD (x.nw f w)])->R (.own [.int (codeN (x.err [] w)),plD f,plD (x.wsh' w)]):=fun x h k=>by
   have e:=x.err_wish h f [] w;have e2:x.fld f=f:=by cases x<;>first|rfl|cases h
   unfold Dd.nf Dd.nw at k;rw[e2,e,ite_self]at k;unfold Dd.wsh';exact k
  cases x with
  |sell p h=>exact⟨_,rfl,_,rfl,_,XN _ _,f,.sell p h,rfl,rfl,hz,_,rfl,_,rfl,_,at1,by simp,land _ rfl hR⟩
  |part p h=>exact⟨_,rfl,_,rfl,_,XN _ _,f,.part p h,rfl,rfl,hz,_,rfl,_,rfl,_,at1,by simp,land _ rfl hR⟩
  |unite p=>exact⟨_,rfl,_,rfl,_,XN _ _,f,.unite p,rfl,rfl,hz,_,rfl,_,rfl,_,at1,by simp,land _ rfl hR⟩
  |wish a b=>exact⟨_,rfl,_,at1,w,.wish a b,rfl,rfl,hw,_,rfl,_,XN _ _,_,rfl,by simp,wish _ rfl hR⟩
  |drop a b=>exact⟨_,rfl,_,rfl,_,at1,w,.drop a b,rfl,rfl,hw,_,rfl,_,XN _ _,_,rfl,by simp,wish _ rfl hR⟩
def R8(G:Glob K mg)(DD:Def K mg "_law_start" Ax ["_law_script","_law_menu_here","_law_many"])(Zc:Te P w K mg base)(Zi:Nu P w K mg base)(Zh:N0 P w K mg base)
  : D1 P w K mg base:=by
 refine DD.oz (k:=1) KN (fun _ _ _ _ _ _ E hr=>⟨_,(JO (Pu.pz 3 KN.nd (fz Zc hr (bz (pv 0) JM))) (JO (Pu.pz 4 KN.nd (Uj U0)) (JO (UN YN rfl (Kp rfl G.range (az (pv 2))) (gz 5 KN.nd) (JO (Pu.pz 6 KN.nd (pv 3)) (Nx (Ua (cq K hr (JS Uw (fz Zc hr (bz (pv 0) JM)) JM) JM) (JQ (Pu.pz 6 KN.nd (fz Zi hr (bz (fz Zc hr (bz (pv 0) JM)) (JS Uu JM (pv 5))))))
   Ub) (JO (Pu.pz 7 KN.nd (JS Uu (jx K (pv 1) JM) (JS Uw (JS UY (pv 6) (jx K (pv 1) JM)) (jx K (pv 1) JM)))) (JO (U8 (Kd YI Wo Wp Kz (pv 4) (az (Ur (bz (fz Zh hr (bz (pv 1) (JS Uw (pv 6) (jx K (pv 1) JM)))) (pv 7)))))) (JQ (Pu.pz 3 KN.nd (JS UY (JS UY (pv 3) (jx K (pv 1) JM)) (jx K (pv 1) JM))))))))) (JQ (JT (pv 4)))))), (JN (JW (JZ (tz (JK 0) JL)) (JR 3)) (JN (JW (Ui Um) (JR 4)) (JN (UM [5,6,7] (Ks (sz (JK 2))) (JR 5) (JN (Ud 3 (JW (JK 3) (JR 6))) (N4 (Ue (JX (U4 (Ux (JZ (tz (JK 0) JL)) JL) JL)) (JW (JZ (tz (JZ (tz (JK 0) JL)) (Ut JL (JK 5)))) (JR 6)) Uc) (JN (JW (Ut (JP (JK 1) JL) (Ux (Xb (JK 6) (JP (JK 1) JL)) (JP (JK 1) JL))) (JR 7)) (JN (Ud 7 (PU 4 (Us (tz (JZ (tz (JK 1) (Ux (JK 6) (JP (JK 1) JL)))) (JK 7))))) (JW (Xb (Xb (JK 3) (JP (JK 1) JL)) (JP (JK 1) JL)) (JR 3))))))) (XB 4))))⟩) (.a fun ds R X h=>?_)
 ·obtain⟨ns,m,n,rfl,hM,h0,h1,hR⟩:=h;refine⟨rfl,?_⟩;have hMM:=hM;obtain⟨a,b,c,d,e,rfl,ha,hb,hc,hd,he⟩:=hM;refine⟨ns,2,rfl,by decide,by simp,⟨by omega,by omega⟩,Ku (fun i γ'=>∃(ps:List (Int×Int)) (r:Int),γ'=[some (.bor (.scr ns)),some (.bor (.lst (([a,b,c,d,e]:List Int).map D.int))),some (.sh (.int n)),some (.sh (.int r)),some (.own (ps.map prD)),none,none,none]/\Field ps/\ps.length=i) ⟨[],_,rfl,(fun q hq=>by cases hq),rfl⟩ ?_ ?_⟩
  ·rintro i γ' hi ⟨ps,r,rfl,hF,hl⟩;have hlm:(ps.map prD).length=ps.length:=Yu ..;have hi':i<n.toNat:=hi;refine TU (fun γ'=>∃(v:Int) (t:Option S),γ'=[some (.bor (.scr ns)),some (.bor (.lst (([a,b,c,d,e]:List Int).map D.int))),some (.sh (.int n)),some (.sh (.int r)),some (.own (ps.map prD)),t,some (.sh (.int v)),none]) ?_ ?_
   ·refine⟨ns,0,rfl,by decide,(by show(0:Int)<2;decide),ite2 (fun _=>?_) (fun _=>⟨_,_,rfl⟩)⟩;exact⟨ns,1,rfl,by decide,_,_,rfl,_,_,rfl⟩
   ·rintro γ' ⟨v,t,rfl⟩;have q1:=Int.emod_nonneg (v / a) (show d≠0 by omega);have q2:=V4 (v / a) (show 0<d by omega);refine⟨_,rfl,_,rfl,⟨by omega,by omega⟩,_,rfl,(by show 0<d;omega),_,rfl,(by show 0<a;omega),[a,b,c,d,e],_,rfl,hMM,fun h l1 l2 _=>⟨by simp,by omega,?_⟩⟩;refine⟨_,rfl,⟨by omega,by omega⟩,_,rfl,⟨by omega,by omega⟩,ps++[(h,e+v / a % d)],r / a / d,?_,fun q hq=>?_,by rw[Y4,hl];rfl⟩
    ·rw[Y9];rfl
    ·rcases YR.mp hq with hq|hq
     ·exact hF q hq
     ·rw[Y5]at hq;subst hq;exact⟨l1,l2,by show 1<=e+v / a % d;omega,by show e+v / a % d<=1000;omega⟩
  ·rintro γ' ⟨ps,r,rfl,hF,hl⟩;exact hR ps hF hl
def O9(G:Glob K mg)(DD:Def K mg "_law_days" BU ["_law_script","_law_most"])(Zi:Nu P w K mg base)(Zc:Te P w K mg base)
  : Ij P w K mg base:=by
 refine DD.oz (k:=1) Oa (fun _ _ _ _ _ _ E hr=>⟨_,(JO (Ua (cq K hr (JS Uw (fz Zc hr (bz (pv 0) JM)) JM) JM) (JQ (JT (X7 (XA (K:=K)) (pv 0) (X4 JM) (X4 (JS Uu JM (pv 1))))))
   Ub) (JQ (JT (Xg (N':=["_law_k","_law_script"]) (φ:=[none,some 0]) rfl (Own.CompOk.of (by rfl)) (Kp rfl G.range (az (JS Uw (fz Zc hr (bz (pv 0) JM)) (JS Uu (pv 1) JM)))) (fun _ _ _ _ _=>⟨(gz 0 (show(["_law_k","_law_script"]:List Str).Nodup from by decide +kernel)),X9,(fz Zi hr (bz (fz Zc hr (bz (pv 1) JM)) (JS Uu JM (pv 0))))⟩))))), (JN (Ue (JX (U4 (Ux (JZ (tz (JK 0) JL)) JL) JL)) (JY (Zeh (JK 0) (Xy JL) (Xy (Ut JL (JK 1))))) Uc) (JY (UD (SndI.c (Ks (sz (Ux (JZ (tz (JK 0) JL)) (Ut (JK 1) JL))))) (JR 0) XC (JZ (tz (JZ (tz (JK 1) JL)) (Ut JL (JK 0)))))))⟩) (.a fun ds R X h=>?_)
 ·obtain⟨ns,n,rfl,h0,h1,hR⟩:=h;refine⟨rfl,?_⟩;refine⟨ns,0,rfl,by decide,(by show(0:Int)<2;decide),ite2 (fun _=>?_) (fun _=>?_)⟩
  ·refine hR _ ?_;unfold Pu.cutD;rw[We]
   have e3:HT.sIx ns.length 0 (some 3)=min 3 ns.length:=by
    rw[show(3:Int)=((3:Nat):Int) by rfl,HT.Se]
   have e2:HT.sIx ns.length ns.length (some (3+n))=min (3+n).toNat ns.length:=by
    rw[show(3+n:Int)=(((3+n).toNat:Nat):Int) by omega,HT.Se];rfl
   rw[e3,e2];omega
  ·refine⟨ns,2,rfl,by decide,(by show 0<n+1;omega),?_⟩;have q1:=Int.emod_nonneg (ns.getD (2:Int).toNat 0) (show n+1≠0 by omega);have q2:=V4 (ns.getD (2:Int).toNat 0) (show 0<n+1 by omega);refine⟨⟨by omega,by omega⟩,Sk (fun i=>some (.int (mixP (ns.getD (1:Int).toNat 0) (200+(0+(i:Int)))))) (by omega) (fun i hi=>⟨ns,1,rfl,by decide,_,_,rfl,_,rfl,rfl⟩) ?_⟩
   have e:(List.range (ns.getD (2:Int).toNat 0 % (n+1)).toNat).filterMap (fun i:Nat=>some (D.int (mixP (ns.getD (1:Int).toNat 0) (200+(0+(i:Int))))))=((List.range (ns.getD (2:Int).toNat 0 % (n+1)).toNat).map fun i:Nat=>mixP (ns.getD (1:Int).toNat 0) (200+(0+(i:Int)))).map D.int:=by
    rw[Qb,YZ];rfl
   rw[e];refine hR _ ?_;rw[Yu,Q3];omega
def Zci(G:Glob K mg)(DD:Def K mg "_law_pair" BV ["_law_cell","_law_menu_here"])(Zn:Bw P w K mg base)(Zh:N0 P w K mg base)
  : SZ P w K mg base:=by
 refine DD.oz (k:=1) Nm (fun _ _ _ _ _ _ E hr=>⟨_,(JO (Pu.pz 2 Nm.nd (jx K (Uj (Ug JM (Ug (jx K (pv 1) JM) (Ug (jx K (pv 1) JM) (Ug (jx K (pv 1) JM) U0))))) (JS Uw (pv 0) JM))) (JO (Pu.pz 3 Nm.nd (JS Uw (JS UY (pv 0) JM) (pv 2))) (JO (Pu.pz 4 Nm.nd (JS Uw (JS Uu (JS Uu (pv 3) JM) (JS Uw (JS UY (pv 0) JM) (UZ (Ht rfl) (by rfl) G.max boot_max (bz JM (JS U3 (pv 2) JM))))) (pv 2))) (JO (Pu.pz 5 Nm.nd (fz Zn hr (bz (JS UY (pv 0) JM) (fz Zh hr (bz (pv 1) (pv 3)))))) (JQ (JT (Ur (bz (pv 5) (fz Zn hr (bz (JS UY (pv 0) JM) (fz Zh hr (bz (pv 1) (pv 4))))))))))))), (JN (JW (JP (Ui (Uh JL (Uh (JP (JK 1) JL) (Uh (JP (JK 1) JL) (Uh (JP (JK 1) JL) Um))))) (Ux (JK 0) JL)) (JR 2)) (JN (JW (Ux (Xb (JK 0) JL) (JK 2)) (JR 3)) (JN (JW (Ux (Ut (Ut (JK 3) JL) (Ux (Xb (JK 0) JL) (Io (tz JL (U5 (JK 2) JL))))) (JK 2)) (JR 4)) (JN (JW (JZ (tz (Xb (JK 0) JL) (JZ (tz (JK 1) (JK 3))))) (JR 5)) (Ud 5 (JY (Us (tz (JK 5) (JZ (tz (Xb (JK 0) JL) (JZ (tz (JK 1) (JK 4)))))))))))))⟩) (.a fun ds R X h=>?_)
 ·obtain⟨c,m,rfl,hM,hR⟩:=h;refine⟨rfl,?_⟩;have hMM:=hM;obtain⟨a,b,e,d,f,rfl,ha,hb,he,hd,hf⟩:=hM;have h4:0<=c % 4/\c % 4<4:=by omega
  obtain⟨pool,ep,hp⟩:∃p:Int,atI [D.int 10,.int a,.int a,.int a] (c % 4)=some (.int p)/\1<=p/\p<=10:=by
   have:c % 4=0\/c % 4=1\/c % 4=2\/c % 4=3:=by omega
   rcases this with e|e|e|e<;>rw[e]
   ·exact⟨10,rfl,by decide,by decide⟩
   ·exact⟨a,rfl,ha⟩
   ·exact⟨a,rfl,ha⟩
   ·exact⟨a,rfl,ha⟩
  have hmx:0<(if pool-1>1 then pool-1 else 1):=by split<;>omega
  refine⟨_,rfl,_,rfl,_,rfl,by simp,(by show(0:Int)<4;decide),_,ep,?_⟩;refine⟨⟨by decide,by decide⟩,(by show 0<pool;omega),⟨by decide,by decide⟩,hmx,(by show 0<pool;omega),?_⟩;refine⟨⟨by decide,by decide⟩,_,_,rfl,hMM,fun h1 _ _ _=>⟨_,_,rfl,fun v1=>?_⟩⟩;exact⟨⟨by decide,by decide⟩,_,_,rfl,hMM,fun h2 _ _ _=>⟨_,_,rfl,fun v2=>⟨by simp,hR v1 v2⟩⟩⟩
def MO(G:Glob K mg)(DD:Def K mg "gathered" Fi ["strips","order"])(Zv:FP P w K mg base)
  : Hk P w K mg base:=by
 refine DD.ox (k:=2) Bl (fun _ _ _ _ _ _ E hr=>⟨_,(JO (U8 (Xk Zv (hr.mono (by decide)) ExcR.US (bz (pv 0) (pv 1)))) (JO (Pu.pz 2 Bl.nd (Uj U0)) (JO (UN ExcR.B7 rfl (U1 (K:=K) (pv 1)) (gz 3 Bl.nd) (JQ (U8 (Kd YI PySem.F.slot_list_extend PySem.F.type_list_extend De (pv 2) (az (Xg (N':=["strip","holder"]) (φ:=[none,some 3]) rfl (Own.CompOk.of (by rfl)) (U1 (K:=K) (pv 0)) (fun _ _ _ _ _=>⟨(gz 0 (show(["strip","holder"]:List Str).Nodup from by decide +kernel)),(XS (cq K hr (jx K (pv 0) JM) (pv 1))),(pv 0)⟩))))))) (JQ (JT (pv 2)))))), (JN (Xn (X5 (tz (JK 0) (JK 1)))) (JN (JW (Ui Um) (JR 2)) (JN (Ud 1 (UM [3] (X2 (JK 1)) (JR 3) (HP 2 (UD (Xm (JK 0)) (JR 0) (JX (U4 (JP (JK 0) JL) (JK 1))) (JK 0))))) (XB 2))))⟩) (.a fun ds R X h=>?_)
 ·obtain⟨ps,os,rfl,hF,hz,hl,hR⟩:=h;refine⟨rfl,?_⟩;refine⟨ps,os,rfl,hF,hz,hl,?_⟩;cases e:Th ps os with
  |some c=>rw[e]at hR;exact hR
  |none=>
   rw[e]at hR;have hR':R (.own ((Kx ps os).map prD)):=hR;refine⟨by simp,rfl,Xv (xs:=os) (emb:=D.int) (fun i γ'=>γ'=[some (.bor (plD ps)),some (.bor (.lst (os.map D.int))),some (.own ((Kx ps (os.take i)).map prD)),none]) rfl ?_ ?_⟩
   ·rintro i hi γ' rfl;have hg:=Oz ps (os.take i);have ht:(os.take i).length<=64:=by rw[We];omega
    have hm:=Nat.mul_le_mul ht hz;have hf:=Wd (fun q:Int×Int=>decide (q.1=os[i])) ps;refine UV (xs:=ps) (emb:=prD) (fun q=>if decide (q.1=os[i])=true then some (prD q)else none) (by omega) (fun q hq=>⟨_,rfl,ite2 (fun g=>⟨_,rfl,Yz g⟩) (fun g=>Yx g)⟩) ?_;rw[XT (fun q:Int×Int=>decide (q.1=os[i]))];refine⟨by rw[Yu,Yu];omega,?_⟩
    have et:Kx ps (os.take (i+1))=Kx ps (os.take i)++ps.filter fun q=>decide (q.1=os[i]):=by
     unfold Kx;rw[YL hi,Vw];simp
    rw[et,Y9];rfl
   ·rintro γ' rfl;rw[Wr];exact hR'
def Zg7(G:Glob K mg)(DD:Def K mg "told_moves" BJ ["strips","order"])(Zv:FP P w K mg base)(Zq:Bx P w K mg base)(Z1:HY P w K mg base)(Zt:Fh P w K mg base)(Zs:A5 P w K mg base)
  : Gh P w K mg base:=by
 refine DD.oz (k:=2) Pv (fun _ _ _ _ _ _ E hr=>⟨_,(JO (U8 (Xk Zv (hr.mono (by decide)) Tn (bz (pv 0) (pv 1)))) (JO (KY (N':=["holder","width","order"]) (φ:=[none,none,some 1]) (i:=2) Pv.nd rfl rfl rfl (Own.CompOk.of (by rfl)) (U1 (K:=K) (pv 0)) (fun _ _ _ _ _=>⟨(P0 (K:=K) (n:=2) rfl (XJ (gz 0 (show(["holder","width","order"]:List Str).Nodup from by decide +kernel)) (XJ (gz 1 (show(["holder","width","order"]:List Str).Nodup from by decide +kernel)) P1))),X9,(PV (K:=K) YI W8 WH (Tf (K:=K)) (pv 2) (az (pv 0)))⟩)) (JO (Pu.pz 3 Pv.nd (fz Zq hr (az (pv 0)))) (JO (Pu.pz 4 Pv.nd (Uj U0)) (JO (Pu.pz 5 Pv.nd (fz Z1 hr (bz (pv 3) (pv 2)))) (JO (NP YN (Uk Xp (pv 5) JM (Up _)) (JO (U8 (Kd YI Wo Wp Kz (pv 4) (az (Ur (Ug (pv 5) (Ug (jx K (pv 3) (JS U3 (pv 5) JM)) (Ug (jx K (pv 3) (pv 5)) (Ug (fz Zs hr (dz (pv 0) (pv 3) (pv 5))) U0)))))))) (JO (Pu.pz 3 Pv.nd (fz Zt hr (bz (pv 3) (pv 5)))) (JQ (Pu.pz 5 Pv.nd (fz Z1 hr (bz (pv 3) (pv 2)))))))) (JQ (JT (pv 4))))))))), (JN (Xn (JZ (tz (JK 0) (JK 1)))) (JN (JW (UD (Xm (JK 0)) (Tj (Kj (JR 0) (Kj (JR 1) Tq))) XC (Tx (JK 2) (sz (JK 0)))) (JR 2)) (JN (JW (JZ (sz (JK 0))) (JR 3)) (JN (JW (Ui Um) (JR 4)) (JN (JW (JZ (tz (JK 3) (JK 2))) (JR 5)) (JN (NL [] (JX (Xq (JK 5) JL)) (JN (Ud 5 (PU 4 (Us (Uh (JK 5) (Uh (JP (JK 3) (U5 (JK 5) JL)) (Uh (JP (JK 3) (JK 5)) (Uh (JZ (uz (JK 0) (JK 3) (JK 5))) Um))))))) (JN (JW (JZ (tz (JK 3) (JK 5))) (JR 3)) (JW (JZ (tz (JK 3) (JK 2))) (JR 5))))) (XB 4)))))))⟩) (.a fun ds R X h=>?_)
 ·obtain⟨ps,o,rfl,hF,hz,hp,hR⟩:=h;refine⟨rfl,?_⟩;have hh:=KJ ps;have hol:=hp.length_eq;have hin:=GV hF hp;refine⟨ps,o,rfl,hF,by omega,by omega,?_⟩;rw[IB hp];refine UV (xs:=ps) (emb:=prD) (fun q=>some (.int (o.idxOf q.1:Nat))) (by omega) (fun q hq=>?_) ?_
  ·exact⟨rfl,⟨_,rfl⟩,o,rfl,hin q hq,_,rfl,rfl⟩
  rw[mapD (fun q:Int×Int=>D.int (o.idxOf q.1:Nat))];have er:ps.map (fun q:Int×Int=>D.int (o.idxOf q.1:Nat))=(ps.map fun q:Int×Int=>((o.idxOf q.1:Nat):Int)).map D.int:=by rw[YZ];rfl
  rw[er];generalize ers:(ps.map fun q:Int×Int=>((o.idxOf q.1:Nat):Int))=rs;have lrs:rs.length=ps.length:=by rw[←ers,Yu]
  have rk:∀m:Int,1<=m/\m<=ps.length->rs.getD (m-1).toNat 0=rkN ps o m:=fun m hm=>by
   have hi:(m-1).toNat<ps.length:=by omega
   rw[←ers];unfold rkN hdN;rw[Yw,Yw,Y6,Yt hi];rfl
  have keys:∀ns:List Int,ns.Perm (runI 1 ps.length)->ns.map (fun m=>rs.getD (m-1).toNat 0)=ns.map (rkN ps o):=fun ns hn=>WK fun m hm=>rk m (runI_mem.mp (hn.mem_iff.mp hm))
  have inr:∀ns:List Int,ns.Perm (runI 1 ps.length)->∀m∈ns,1<=m/\m<=rs.length:=fun ns hn m hm=>by
   have:=runI_mem.mp (hn.mem_iff.mp hm)
   omega
  refine⟨ps,rfl,by omega,by simp,?_⟩;refine⟨_,rs,rfl,inr _ (.refl _),by rw[Pb];omega,fun p0 hw0=>?_⟩;rw[keys _ (.refl _)]at hw0
  have e0:∀ns:List Int,ns.Perm (runI 1 ps.length)->cntN (fun m=>rs.getD (m-1).toNat 0) ns=cntN (rkN ps o) ns:=fun ns hn=>by
   unfold cntN;congr 1;exact WK fun m hm=>by show(rs.getD (m-1).toNat 0,(1:Int))=_;rw[rk m (runI_mem.mp (hn.mem_iff.mp hm))]
  have b0:=Sh (rkN ps o) (runI 1 ps.length)
  have nn:((ps.length:Int))*ps.length<=1600:=by
   have:=Int.mul_le_mul (a:=(ps.length:Int)) (b:=ps.length) (c:=40) (d:=40) (by omega) (by omega) (by omega) (by omega)
   omega
  rw[Pb]at b0;refine Sv (fun γ'=>∃(ns:List Int) (ms0:List Mo) (p:Nat),FW (ns.map (rkN ps o)) p/\ns.Perm (runI 1 ps.length)/\(∀ms,Mv ps (rkN ps o) ns ms->Mv ps (rkN ps o) (runI 1 ps.length) (ms0++ms))/\(ms0.length:Int)+cntN (rkN ps o) ns=cntN (rkN ps o) (runI 1 ps.length)/\γ'=[some (.bor (plD ps)),some (.bor (.lst (o.map D.int))),some (.own (rs.map D.int)),some (.own (ns.map D.int)),some (.own (ms0.map mvD)),some (.sh (.int p))]) mvN ⟨runI 1 ps.length,[],p0,hw0,.refl _,fun ms h=>h,by simp,rfl⟩ ?_;rintro γ' ⟨ns,ms0,p,hw,hn,hM,hc,rfl⟩;have hl:ns.length=ps.length:=by rw[hn.length_eq,Pb]
  have b1:=Sh (rkN ps o) ns;refine ite2 (fun g=>?_) (fun g=>?_)
  ·have g':0<((p:Nat):Int):=Y0 g;obtain⟨h1,h2,h3⟩:=hw.2.resolve_left (by omega);rw[Yu]at h2;rw[XY h2,XY (by omega)]at h3;have hs:=CU (rkN ps o) h1 h2 h3;have hn2:(UR ns p).Perm (runI 1 ps.length):=(N3 h1 h2).trans hn;have b2:=Sh (rkN ps o) (UR ns p)
   have ix:∀(i:Nat) (k:Int),i<ns.length->k=(i:Int)->atI (ns.map D.int) k=some (.int (ns.getD i 0)):=fun i k hi e=>by
    rw[e];exact K6 (f:=D.int) (T6 (by rw[Yw,Yt hi];rfl))
   have lm:(ms0.map mvD).length=ms0.length:=Yu ..;have inn:∀m∈ns,1<=m/\m<=ps.length:=fun m hm=>runI_mem.mp (hn.mem_iff.mp hm);refine⟨_,ix (p-1) _ (by omega) (by omega),_,ix p _ h2 rfl,?_⟩;refine⟨ps,ns,p,rfl,hF,inn,by omega,by omega,by simp,by omega,?_⟩;refine⟨ns,p,rfl,by omega,by omega,by omega,?_⟩;rw[Wb];refine⟨UR ns p,rs,rfl,inr _ hn2,by rw[Gp h1 h2];omega,fun p' hw'=>?_⟩;rw[keys _ hn2]at hw';refine⟨⟨UR ns p,ms0++[((p:Int),ns.getD (p-1) 0,ns.getD p 0,exM ps ns p)],p',hw',hn2,fun ms hms=>?_,?_,?_⟩,?_⟩
   ·rw[QR];exact hM _ (.step ns p ms hw (by omega) hms)
   ·rw[Y4,Wn];omega
   ·rw[Y9];rfl
   ·show(cntN _ (((UR ns p).map D.int).map toI)).toNat<(cntN _ ((ns.map D.int).map toI)).toNat;rw[BD,BD,BD,e0 _ hn2,e0 _ hn];omega
  ·have g':¬0<((p:Nat):Int):=fun z=>g (Yy z);have hp0:p=0:=by omega
   subst hp0
   have:=hM [] (.done ns hw)
   rw[Wl]at this;exact hR ms0 this
def Zde(G:Glob K mg)(DD:Def K mg "find_ring" AX ["holders","wishes"])(Z8:Hx P w K mg base)
  : Hq P w K mg base:=by
 refine DD.oz (k:=2) TZ (fun _ _ _ _ _ _ E hr=>⟨_,(JO (Pu.pz 2 TZ.nd (Uj U0)) (JO (UN YN rfl (U1 (K:=K) (UZ (NO (K:=K) (w:=w) rfl) (by rfl) G.sorted boot_sorted (az (pv 0)))) (gz 3 TZ.nd) (JO (Pu.pz 4 TZ.nd (fz Z8 hr (dz (pv 3) (pv 0) (pv 1)))) (JQ (Ua (PW.pt (PH (UC (K:=K) (pv 4)) (Nd (PW.pt (UL (Xi (UC (K:=K) (pv 2))) (UU (Uk X6 (ln K G.len (pv 4)) (ln K G.len (pv 2)) (Up _)))))))) (JQ (Pu.pz 2 TZ.nd (pv 4)))
   Ub)))) (JQ (JT (pv 2))))), (JN (JW (Ui Um) (JR 2)) (JN (Ud 2 (UM [3,4] (X2 (NM (sz (JK 0)))) (JR 3) (JN (JW (JZ (uz (JK 3) (JK 0) (JK 1))) (JR 4)) (Ue (P6 (UT (JK 4)) (UP (Xr (UT (JK 2))) (JX (X8 (Uy (sz (JK 4))) (Uy (sz (JK 2))))))) (Ud 4 (JW (JK 4) (JR 2))) Uc)))) (Ud 2 (XB 2))))⟩) (.a fun ds R X h=>?_)
 ·obtain⟨hs,ws,rfl,hz,hN,hR⟩:=h;refine⟨rfl,?_⟩;refine⟨by simp,hs,rfl,by omega,fun ns hp hsrt=>?_⟩;refine⟨rfl,Xv (xs:=ns) (emb:=D.int) (fun i γ'=>γ'=[some (.bor (.lst (hs.map D.int))),some (.bor (.lst (ws.map prD))),some (.sh (.lst [])),none,none]) rfl ?_ ?_⟩
  ·rintro i hi γ' rfl;have hl:=hN ns[i] (hp.mem_iff.mp (YK hi));generalize ns[i]=l at hl ⊢;exact⟨l,hs,ws,rfl,hz,hl,rfl⟩
  ·rintro γ' rfl;exact hR
def RY(G:Glob K mg)(DD:Def K mg "least_costs" Bf ["strips","wishes","pairs"])(Z9:D7 P w K mg base)(Ze:TQ P w K mg base)(ZA:DQ P w K mg base)(ZC:CO P w K mg base)
  : Fl P w K mg base:=by
 refine DD.oz (k:=2) S8 (fun _ _ _ _ _ _ E hr=>⟨_,(JO (Pu.pz 3 S8.nd (Zf8 (UO hr) (Ur U0) JM)) (JO (UN YN rfl (U1 (K:=K) (X7 (XA (K:=K)) (fz Z9 hr (az (fz Ze hr (az (pv 0))))) (X4 JM) XD)) (gz 4 S8.nd) (JO (KY (N':=["holder","members","wishes"]) (φ:=[none,some 4,some 1]) (i:=5) S8.nd rfl rfl rfl (Own.CompOk.of (by rfl)) (PQ (K:=K) (pv 4)) (fun _ _ _ _ _=>⟨(gz 0 (show(["holder","members","wishes"]:List Str).Nodup from by decide +kernel)),(XS (UC (K:=K) (fz ZA hr (dz (pv 1) (pv 0) (pv 2))))),(pv 0)⟩)) (JQ (Su (UO hr) (pv 3) (pv 4) (UZ (Za2 (K:=K) rfl) (by rfl) G.min boot_min (az (Xg (N':=["last","members","least","pairs"]) (φ:=[none,some 4,some 3,some 2]) rfl (Own.CompOk.of (by rfl)) (U1 (K:=K) (pv 5)) (fun _ _ _ _ _=>⟨(gz 0 (show(["last","members","least","pairs"]:List Str).Nodup from by decide +kernel)),X9,(fz ZC hr (Ug (pv 1) (Ug (pv 0) (Ug (pv 2) (Ug (pv 3) U0)))))⟩)))) rfl)))) (JQ (JT (pv 3))))), (JN (JW (Zgm (Us Um) JL) (JR 3)) (JN (UM [4,5] (X2 (XH (JZ (sz (JZ (sz (JK 0))))) (Xy JL) XE)) (JR 4) (JN (JW (UD (SndI.c (Tv (JK 4))) (JR 0) (UT (JZ (uz (JK 1) (JK 0) (JK 2)))) (JK 0)) (JR 5)) (SG 3 (JK 4) (LD (sz (UD (Xm (JK 5)) (JR 0) XC (JZ (Uh (JK 1) (Uh (JK 0) (Uh (JK 2) (Uh (JK 3) Um))))))))))) (XB 3)))⟩) (.a fun ds R X h=>?_)
 ·obtain⟨ps,ws,pa,c,rfl,hF,hz,hw,hu,hc,hL,hR⟩:=h;refine⟨rfl,?_⟩;refine⟨by simp,_,_,rfl,rfl,?_⟩;refine⟨ps,rfl,hF,hz,_,rfl,KJ ps,?_⟩;have hh:=KJ ps;have nd:(Ul ps).Nodup:=(KQ ps).imp (fun h=>QK h);generalize Ul ps=hs at hh nd hc hL hR ⊢;have hsl:=DL hs;have hsub:=ND hs;have hbef:=GA nd;have hsn:=DX nd
  have hlen:(U2 hs).length<=1024:=by
   rw[hsl];exact Nat.pow_le_pow_right (j:=10) (by decide) hh
  obtain⟨T,eT⟩:=Zbf hs;rw[eT]at hsub hbef hsn hlen hR ⊢;refine⟨rfl,rfl,?_⟩
  have ec:Pu.cutD (List.map tD ([]::T)) (some 1) none=T.map tD:=by
   rw[KC,T7 _ (by decide)];rfl
  rw[ec];refine Xv (xs:=T) (emb:=tD) (fun i γ'=>∃kvs:List (List Key×V),γ'=[some (.bor (.lst (ps.map prD))),some (.bor (.lst (ws.map prD))),some (.bor (.dT pa)),some (.own (.dT kvs)),none,none]/\Tab ws c ([]::T.take i) kvs) ⟨_,rfl,OX ws c⟩ ?_ ?_
  ·rintro i hi γ' ⟨kvs,rfl,ht⟩;have em:([]::T)[i+1]?=some T[i]:=by rw[Ws,Yt hi]
   have hmem:T[i]∈[]::T:=YM em;have hsm:=hsub _ hmem;have hne:T[i]≠[]:=fun e=>(YV.mp hsn).1 (e▸YK hi)
   have hnew:T[i]∉[]::T.take i:=fun z=>by
    rcases YA.mp z with z|z
    ·exact hne z
    ·obtain⟨j,hj,e⟩:=W1.mp z;rw[We]at hj;rw[VB]at e;exact Ql.mp (YV.mp hsn).2 j i (by omega) hi (by omega) e
   have hml:T[i].length<=10:=Y8 hsm.length_le hh
   have hless:∀l∈T[i],Uq T[i] l∈[]::T.take i:=fun l hl=>by
    obtain⟨j,hj,e⟩:=hbef (i+1) _ em l hl
    have:([]::T.take i)=([]::T).take (i+1):=by rw[Vv]
    rw[this];refine YM (i:=j) ?_;rw[WC hj];exact e
   have ndm:T[i].Nodup:=nd.sublist hsm
   have hkl:kvs.length<=1024:=by
    have:=Wj List.length ht.keys
    rw[Yu,Yu,YF,We]at this;rw[YF]at hlen;omega
   have etk:[]::T.take (i+1)=([]::T.take i)++[T[i]]:=by rw[YL hi];rfl
   rw[etk];generalize T[i]=ms at *;obtain⟨vs,hvs⟩:=Hn fun l hl=>ht.val _ (hless l hl);obtain⟨l0,hl0,hl0'⟩:=hL ms hsm hne;refine⟨_,rfl,UV (s:=.sh .non) (xs:=ms) (emb:=D.int) (fun h=>if K5 ws ms h=true then some (.int h)else none) (by omega) (fun h hm=>?_) ?_⟩
   ·refine⟨ms,h,ws,rfl,hw,?_⟩;refine ite2 (fun g=>⟨_,rfl,Yz g⟩) (fun g=>Yx g)
   ·rw[XT (fun h=>K5 ws ms h)];refine UV (xs:=ms.filter (fun h=>K5 ws ms h)) (emb:=D.int) (fun l=>some (.int (vs l+((Uq ms l).map (c · l)).sum))) (Y8 (Wd _ _) (by omega)) (fun l hl=>?_) ?_
    ·obtain⟨hl1,hl2⟩:=YS.mp hl;exact⟨ms,l,kvs,pa,(c · l),vs l,rfl,by omega,(hvs l hl1).1,fun m hm=>hc m (hsm.subset (less_sub.subset hm)) l (hsm.subset hl1),_,rfl,rfl⟩
    ·rw[mapD];refine⟨(ms.filter (fun h=>K5 ws ms h)).map fun l=>vs l+((Uq ms l).map (c · l)).sum,by rw[YZ];rfl,?_,fun M hM hle=>⟨_,_,Sn ms,rfl,by omega,_,rfl,ht.put hnew (Mx ndm hu (fun l hl=>(hvs l hl).2) ?_ ?_)⟩⟩
     ·rw[Yu];exact List.length_pos_of_mem (YS.mpr ⟨hl0,lastM_iff.mpr hl0'⟩)
     ·obtain⟨l,hl,e⟩:=YX.mp hM;obtain⟨hl1,hl2⟩:=YS.mp hl;exact⟨l,hl1,hl2,e.symm⟩
     ·intro l hl hlast;exact hle _ (YX.mpr ⟨l,YS.mpr ⟨hl,hlast⟩,rfl⟩)
  ·rintro γ' ⟨kvs,rfl,ht⟩;rw[Wr]at ht;exact hR kvs ht
def My(G:Glob K mg)(DD:Pu.DefM K (Mk K (ExcR.JU mg "Village")) "__init__" "Village.__init__" Fm ["self","strips"])(ZD:Gm P w K mg base)
  : CY P w K mg base:=by
 refine DD.ox (k:=2) Zhu (fun _ _ _ _ _ _ E hr=>⟨_,(JO (U8 (Xk ZD (hr.mono (by decide)) ExcR.US (az (pv 1)))) (JO (FZ (pv 0) (Uj U0) rfl) (JO (FZ (pv 0) (Uj (az (XX (T3 (K:=K)) (by rfl) G.list boot_list (az (pv 1))))) rfl) (JQ (FZ (pv 0) (Uj (az (Uj U0))) rfl))))), (JN (Xn (X5 (sz (JK 1)))) (JN (A9 0 G.cl_Village G.n_Village_book Zcq (Ui Um)) (JN (A9 0 G.cl_Village G.n_Village_fields Lp (Ui (sz (Tg (sz (JK 1)))))) (A9 0 G.cl_Village G.n_Village_wished Ze6 (Ui (sz (Ui Um)))))))⟩) (.c fun o ss R X h=>?_)
 ·obtain⟨x,ps,rfl,rfl,hz,hR⟩:=h;refine⟨rfl,?_⟩;refine⟨ps,rfl,hz,?_⟩;cases e:Tt ps with
  |some c=>
   rw[e]at hR;exact⟨_,rfl,⟨rfl,by simp⟩,hR⟩
  |none=>
   rw[e]at hR;refine⟨by simp,rfl,rfl,by decide,fun b1=>?_⟩;refine⟨rfl,by simp,rfl,rfl,by decide,fun b2=>?_⟩;refine⟨by simp,by simp,rfl,rfl,by decide,fun b3=>?_⟩;exact⟨_,rfl,⟨rfl,by simp⟩,hR b1 b2 b3⟩
def Zeg(G:Glob K mg)(DD:Pu.DefM K (Meth K (ExcR.JU mg "Village") "sell") "sell" "Village.sell" AU ["self","place","holder"])(Zf:PZ P w K mg base)(ZE:Gz P w K mg base)(Zg:PP P w K mg base)(Zb:K4 P w K mg base)(Zd:Pi P w K mg base)
  : EY P w K mg base:=by
 refine DD.ox (k:=2) DR (fun _ _ _ _ _ _ E hr=>⟨_,(JO (U8 (UI Zf G.cl_Village (hr.mono (by decide)) ExcR.US (pv 0))) (JO (Pu.pz 3 DR.nd (Xk ZE (hr.mono (by decide)) ExcR.US (dz (UI Zb G.cl_Village (hr.mono (by decide)) UH (pv 0)) (pv 1) (pv 2)))) (JQ (JT (Kv Zg G.cl_Village (hr.mono (by decide)) UH (pv 0) (dz (Ur (dz U6 (pv 1) (pv 2))) (pv 3) (UI Zd G.cl_Village (hr.mono (by decide)) UH (pv 0)))))))), (JN (Xn (Ni TN (JK 0) Um)) (JN (JW (X5 (uz (Xh KB (JK 0) Um) (JK 1) (JK 2))) (JR 3)) (Ud 2 (Ud 1 (Ud 3 (Kt (T1 0 TH (uz (Us (uz U7 (JK 1) (JK 2))) (JK 3) (Xh Pt (JK 0) Um)))))))))⟩) (.c fun o ss R X h=>?_)
 ·obtain⟨x,b1,b2,b3,bk,fs,ws,f,w,p,h,rfl,rfl,hb,hf,hw,hz,hR⟩:=h;refine⟨rfl,?_⟩;unfold Sl at hR;refine⟨rfl,rfl,bk,fs++[f],ws++[w],rfl,?_⟩;unfold PD;by_cases c:100<=bk.length
  ·rw[Yz c]at hR ⊢;exact⟨_,rfl,⟨rfl,by simp⟩,hR⟩
  ·rw[Yx c]at hR ⊢;refine⟨rfl,rfl,bk,fs,ws++[w],f,rfl,f,p,h,rfl,hz,?_⟩;cases e:Xj f p h with
   |some c=>
    rw[e]at hR;exact⟨_,rfl,⟨rfl,by simp⟩,hR⟩
   |none=>
    rw[e]at hR;refine⟨rfl,rfl,by simp,rfl,rfl,bk,fs++[f],ws,w,rfl,?_⟩;exact⟨x,b1,b2,b3,bk,fs++[f],ws++[w],("sell",[p,h]),K8 f p h,w,rfl,rfl,hb,by rw[Y4];simp;omega,by rw[Y4];simp;omega,_,rfl,⟨rfl,by simp⟩,hR⟩
def RU(G:Glob K mg)(DD:Pu.DefM K (Meth K (ExcR.JU mg "Village") "part") "part" "Village.part" A1 ["self","place","width"])(Zf:PZ P w K mg base)(ZF:HR P w K mg base)(Zg:PP P w K mg base)(Zb:K4 P w K mg base)(Zd:Pi P w K mg base)
  : Da P w K mg base:=by
 refine DD.ox (k:=2) Gi (fun _ _ _ _ _ _ E hr=>⟨_,(JO (U8 (UI Zf G.cl_Village (hr.mono (by decide)) ExcR.US (pv 0))) (JO (Pu.pz 3 Gi.nd (Xk ZF (hr.mono (by decide)) ExcR.US (dz (UI Zb G.cl_Village (hr.mono (by decide)) UH (pv 0)) (pv 1) (pv 2)))) (JQ (JT (Kv Zg G.cl_Village (hr.mono (by decide)) UH (pv 0) (dz (Ur (dz U6 (pv 1) (pv 2))) (pv 3) (UI Zd G.cl_Village (hr.mono (by decide)) UH (pv 0)))))))), (JN (Xn (Ni TN (JK 0) Um)) (JN (JW (X5 (uz (Xh KB (JK 0) Um) (JK 1) (JK 2))) (JR 3)) (Ud 2 (Ud 1 (Ud 3 (Kt (T1 0 TH (uz (Us (uz U7 (JK 1) (JK 2))) (JK 3) (Xh Pt (JK 0) Um)))))))))⟩) (.c fun o ss R X h=>?_)
 ·obtain⟨x,b1,b2,b3,bk,fs,ws,f,w,p,h,rfl,rfl,hb,hf,hw,hz,hR⟩:=h;refine⟨rfl,?_⟩;unfold Sf at hR;refine⟨rfl,rfl,bk,fs++[f],ws++[w],rfl,?_⟩;unfold PD;by_cases c:100<=bk.length
  ·rw[Yz c]at hR ⊢;exact⟨_,rfl,⟨rfl,by simp⟩,hR⟩
  ·rw[Yx c]at hR ⊢;refine⟨rfl,rfl,bk,fs,ws++[w],f,rfl,f,p,h,rfl,hz,?_⟩;cases e:Xf f p h with
   |some c=>
    rw[e]at hR;exact⟨_,rfl,⟨rfl,by simp⟩,hR⟩
   |none=>
    rw[e]at hR;refine⟨rfl,rfl,by simp,rfl,rfl,bk,fs++[f],ws,w,rfl,?_⟩;exact⟨x,b1,b2,b3,bk,fs++[f],ws++[w],("part",[p,h]),Ka f p h,w,rfl,rfl,hb,by rw[Y4];simp;omega,by rw[Y4];simp;omega,_,rfl,⟨rfl,by simp⟩,hR⟩
def Om(G:Glob K mg)(DD:Pu.DefM K (Meth K (ExcR.JU mg "Village") "unite") "unite" "Village.unite" A4 ["self","place"])(Zf:PZ P w K mg base)(ZG:DK P w K mg base)(Zg:PP P w K mg base)(Zb:K4 P w K mg base)(Zd:Pi P w K mg base)
  : Hy P w K mg base:=by
 refine DD.ox (k:=2) GP (fun _ _ _ _ _ _ E hr=>⟨_,(JO (U8 (UI Zf G.cl_Village (hr.mono (by decide)) ExcR.US (pv 0))) (JO (Pu.pz 2 GP.nd (Xk ZG (hr.mono (by decide)) ExcR.US (bz (UI Zb G.cl_Village (hr.mono (by decide)) UH (pv 0)) (pv 1)))) (JQ (JT (Kv Zg G.cl_Village (hr.mono (by decide)) UH (pv 0) (dz (Ur (bz U6 (pv 1))) (pv 2) (UI Zd G.cl_Village (hr.mono (by decide)) UH (pv 0)))))))), (JN (Xn (Ni TN (JK 0) Um)) (JN (JW (X5 (tz (Xh KB (JK 0) Um) (JK 1))) (JR 2)) (Ud 1 (Ud 2 (Kt (T1 0 TH (uz (Us (tz U7 (JK 1))) (JK 2) (Xh Pt (JK 0) Um))))))))⟩) (.c fun o ss R X h=>?_)
 ·obtain⟨x,b1,b2,b3,bk,fs,ws,f,w,p,rfl,rfl,hb,hf,hw,hz,hR⟩:=h;refine⟨rfl,?_⟩;unfold NH at hR;refine⟨rfl,rfl,bk,fs++[f],ws++[w],rfl,?_⟩;unfold PD;by_cases c:100<=bk.length
  ·rw[Yz c]at hR ⊢;exact⟨_,rfl,⟨rfl,by simp⟩,hR⟩
  ·rw[Yx c]at hR ⊢;refine⟨rfl,rfl,bk,fs,ws++[w],f,rfl,f,p,rfl,hz,?_⟩;cases e:uniE f p with
   |some c=>
    rw[e]at hR;exact⟨_,rfl,⟨rfl,by simp⟩,hR⟩
   |none=>
    rw[e]at hR;refine⟨rfl,rfl,by simp,rfl,rfl,bk,fs++[f],ws,w,rfl,?_⟩;exact⟨x,b1,b2,b3,bk,fs++[f],ws++[w],("unite",[p]),uniL f p,w,rfl,rfl,hb,by rw[Y4];simp;omega,by rw[Y4];simp;omega,_,rfl,⟨rfl,by simp⟩,hR⟩
def L0(G:Glob K mg)(DD:Pu.DefM K (Meth K (ExcR.JU mg "Village") "wish") "wish" "Village.wish" FJ ["self","ahead","behind"])(Zf:PZ P w K mg base)(ZH:GB P w K mg base)(Zg:PP P w K mg base)(Zd:Pi P w K mg base)(Zb:K4 P w K mg base)
  : EE P w K mg base:=by
 refine DD.ox (k:=2) HC (fun _ _ _ _ _ _ E hr=>⟨_,(JO (U8 (UI Zf G.cl_Village (hr.mono (by decide)) ExcR.US (pv 0))) (JO (Pu.pz 3 HC.nd (Xk ZH (hr.mono (by decide)) ExcR.US (dz (UI Zd G.cl_Village (hr.mono (by decide)) UH (pv 0)) (pv 1) (pv 2)))) (JQ (JT (Kv Zg G.cl_Village (hr.mono (by decide)) UH (pv 0) (dz (Ur (dz U6 (pv 1) (pv 2))) (UI Zb G.cl_Village (hr.mono (by decide)) UH (pv 0)) (pv 3))))))), (JN (Xn (Ni TN (JK 0) Um)) (JN (JW (X5 (uz (Xh Pt (JK 0) Um) (JK 1) (JK 2))) (JR 3)) (Ud 2 (Ud 1 (Ud 3 (Kt (T1 0 TH (uz (Us (uz U7 (JK 1) (JK 2))) (Xh KB (JK 0) Um) (JK 3)))))))))⟩) (.c fun o ss R X h=>?_)
 ·obtain⟨x,b1,b2,b3,bk,fs,ws,f,w,p,h,rfl,rfl,hb,hf,hw,hz,hR⟩:=h;refine⟨rfl,?_⟩;unfold NZ at hR;refine⟨rfl,rfl,bk,fs++[f],ws++[w],rfl,?_⟩;unfold PD;by_cases c:100<=bk.length
  ·rw[Yz c]at hR ⊢;exact⟨_,rfl,⟨rfl,by simp⟩,hR⟩
  ·rw[Yx c]at hR ⊢;refine⟨rfl,rfl,bk,fs++[f],ws,w,rfl,w,p,h,rfl,hz,?_⟩;cases e:UX w p h with
   |some c=>
    rw[e]at hR;exact⟨_,rfl,⟨rfl,by simp⟩,hR⟩
   |none=>
    rw[e]at hR;refine⟨rfl,rfl,by simp,rfl,rfl,bk,fs,ws++[w],f,rfl,?_⟩;exact⟨x,b1,b2,b3,bk,fs++[f],ws++[w],("wish",[p,h]),f,w++[(p,h)],rfl,rfl,hb,by rw[Y4];simp;omega,by rw[Y4];simp;omega,_,rfl,⟨rfl,by simp⟩,hR⟩
def Za6(G:Glob K mg)(DD:Def K mg "_law_walked" FO ["_law_told","_law_strips","_law_order"])(ZI:Er P w K mg base)
  : Ce P w K mg base:=by
 refine DD.oz (k:=2) Pl (fun _ _ _ _ _ _ E hr=>⟨_,(JO (KY (N':=["_law_strip","_law_order"]) (φ:=[none,some 2]) (i:=3) Pl.nd rfl rfl rfl (Own.CompOk.of (by rfl)) (U1 (K:=K) (pv 1)) (fun _ _ _ _ _=>⟨(gz 0 (show(["_law_strip","_law_order"]:List Str).Nodup from by decide +kernel)),X9,(PV (K:=K) YI W8 WH (Tf (K:=K)) (pv 1) (az (jx K (pv 0) JM)))⟩)) (JO (Pu.pz 4 Pl.nd (XX (Zeb rfl) (by rfl) G.list boot_list (az (XX Ly (by rfl) G.range boot_range (bz JM (JS Uu (ln K G.len (pv 1)) JM)))))) (JO (Pu.pz 5 Pl.nd Gc) (JO (Pu.pz 6 Pl.nd JM) (JO (Ua (Xi (UC (K:=K) (UZ (KI (K:=K)) (by rfl) G.isinstance WI (bz (pv 0) (KL (v:=.ty "list") rfl G.list boot_list rfl))))) (JQ (JT Fd))
   Ub) (JO (UN YN rfl (U1 (K:=K) (pv 0)) (gz 7 Pl.nd) (JO (Ua (Xi (UC (K:=K) (fz ZI hr (Ug (pv 7) (Ug (pv 4) (Ug (pv 1) (Ug (pv 3) U0))))))) (JQ (JT Fd))
   Ub) (JO (Ua (PW.pt (UL (Uk Me (jx K (pv 3) (JS U3 (jx K (pv 7) JM) JM)) (jx K (pv 3) (JS U3 (jx K (pv 7) JM) JM)) (Up _)) (UU (Aa (OJ (UO hr) (Ur (bz (jx K (pv 7) JM) (jx K (pv 7) JM))) (pv 5)))))) (JQ (JT Fd))
   Ub) (JO (Su (UO hr) (pv 5) (Ur (bz (jx K (pv 7) JM) (jx K (pv 7) JM))) UG rfl) (JO (Pu.pz 6 Pl.nd (JS Uu (pv 6) (jx K (pv 7) JM))) (JO (DE (jx K (pv 7) JM) (Gq (pv 4) (JS U3 (jx K (pv 7) JM) JM) Em)) (JQ (DE (jx K (pv 7) JM) (Gq (pv 4) (jx K (pv 7) JM) Em))))))))) (JQ (JT (Uj (bz (pv 6) (pv 4))))))))))), (JN (JW (UD (Xm (JK 1)) (JR 0) XC (Tx (JK 1) (sz (JP (JK 0) JL)))) (JR 3)) (JN (JW (Ll (tz JL (Ut (Uy (sz (JK 1))) JL))) (JR 4)) (JN (JW Cs (JR 5)) (JN (JW JL (JR 6)) (JN (Ue (Xr (UT (KE (tz (JK 0) KM)))) (JY A2) Uc) (JN (Ud 0 (UM [7] (X2 (JK 0)) (JR 7) (JN (Ue (Xr (UT (JZ (Uh (JK 7) (Uh (JK 4) (Uh (JK 1) (Uh (JK 3) Um))))))) (JY A2) Uc) (JN (Ue (UP (JX (Ze9 (JP (JK 3) (U5 (JP (JK 7) JL) JL)) (JP (JK 3) (U5 (JP (JK 7) JL) JL)))) (st_b (Rf (Us (tz (JP (JK 7) JL) (JP (JK 7) JL))) (JK 5)))) (JY A2) Uc) (JN (SG 5 (Us (tz (JP (JK 7) JL) (JP (JK 7) JL))) UF) (JN (JW (Ut (JK 6) (JP (JK 7) JL)) (JR 6)) (JN (Dw 4 (U5 (JP (JK 7) JL) JL) (JP (JK 7) JL)) (Dw 4 (JP (JK 7) JL) (JP (JK 7) JL))))))))) (Ud 4 (Ud 6 (JY (Ui (tz (JK 6) (JK 4))))))))))))⟩) (.a fun ds R X h=>?_)
 ·obtain⟨ps,o,ms,rfl,hF,hz,hin,hM,hms,hR⟩:=h;refine⟨rfl,?_⟩;have hlm:(ps.map prD).length=ps.length:=Yu ..;refine UV (xs:=ps) (emb:=prD) (fun q=>some (.int (o.idxOf q.1:Nat))) (by omega) (fun q hq=>?_) ?_
  ·exact⟨⟨_,rfl⟩,_,rfl,o,rfl,hin q hq,_,rfl,rfl⟩
  rw[mapD (fun q:Int×Int=>D.int (o.idxOf q.1:Nat))];have er:ps.map (fun q:Int×Int=>D.int (o.idxOf q.1:Nat))=(ps.map fun q:Int×Int=>((o.idxOf q.1:Nat):Int)).map D.int:=by rw[YZ];rfl
  rw[er];generalize ers:(ps.map fun q:Int×Int=>((o.idxOf q.1:Nat):Int))=rs;have lrs:rs.length=ps.length:=by rw[←ers,Yu]
  have rk:∀m:Int,1<=m/\m<=ps.length->rs.getD (m-1).toNat 0=rkN ps o m:=fun m hm=>by
   have hi:(m-1).toNat<ps.length:=by omega
   rw[←ers];unfold rkN hdN;rw[Yw,Yw,Y6,Yt hi];rfl
  have keys:∀ns:List Int,ns.Perm (runI 1 ps.length)->ns.map (fun m=>rs.getD (m-1).toNat 0)=ns.map (rkN ps o):=fun ns hn=>WK fun m hm=>rk m (runI_mem.mp (hn.mem_iff.mp hm))
  have rx:∀z:Int,1<=z/\z<=ps.length->atI (rs.map D.int) (z-1)=some (.int (rkN ps o z)):=fun z hz=>by
   have hi:(z-1).toNat<rs.length:=by omega
   rw[←rk z hz];have e:rs.getD (z-1).toNat 0=rs[(z-1).toNat]:=by rw[Yw,Yt hi];rfl
   rw[e];exact Xs (f:=D.int) (xs:=rs) (by omega) (by omega)
  refine⟨⟨by decide,by decide,by omega,by omega⟩,by omega,?_⟩;have e0:((((ps.map prD).length:Nat):Int)+1-1).toNat=ps.length:=by rw[hlm];omega
  refine⟨true,.same _,iteF ?_⟩
  refine⟨rfl,Xv (xs:=ms) (emb:=mvD) (fun i γ'=>∃(su:List Int×Int) (kvs:List (List Key×V)),γ'=[some (.bor (.lst (ms.map mvD))),some (.bor (plD ps)),some (.bor (.lst (o.map D.int))),some (.own (rs.map D.int)),some (.own (su.1.map D.int)),some (.own (.dT kvs)),some (.sh (.int su.2)),none]/\su.1.Perm (runI 1 ps.length)/\XU ps ((ms.take i).map (·.1)) (runI 1 ps.length,0)=some su/\Mv ps (rkN ps o) su.1 (ms.drop i)/\kvs.length<=i/\
    (su.1.Pairwise fun x y=>rkN ps o x=rkN ps o y->x<y)/\(su.1.Pairwise fun a b=>valV kvs [.inl a,.inl b]=none)/\∀a b,(valV kvs [.inl a,.inl b]).isSome=true->rkN ps o b<rkN ps o a) ⟨(runI 1 ps.length,0),[],?_,List.Perm.refl _,rfl,hM,Y3 _,?_,?_,fun a b h=>by cases h⟩ ?_ ?_⟩
  ·show _=([some (.bor (.lst (ms.map mvD))),some (.bor (plD ps)),some (.bor (.lst (o.map D.int))),some (.own (rs.map D.int)),some (.own ((runI 1 ps.length).map D.int)),some (.own (.dT [])),some (.sh (.int 0)),none]:List (Option S));rw[←e0];rfl
  ·exact(Cr ps.length).imp (fun {a b} (h:a<b)=>fun _=>h)
  ·exact(Cr ps.length).imp (fun {a b} _=>rfl)
  ·rintro i hi γ' ⟨st,kvs,rfl,hp,hw,hMi,lk,hst,hno,hme⟩;have hl:st.1.length=ps.length:=by rw[hp.length_eq,Pb]
   have ed:ms.drop i=ms[i]::ms.drop (i+1):=Wk hi;rw[ed]at hMi;obtain⟨p,em,hfw,hp0,h1,h2,h3,hMn⟩:=hMi.step_of
   have ew:XU ps ((ms.take (i+1)).map (·.1)) (runI 1 ps.length,0)=some (UR st.1 p,st.2+exM ps st.1 p):=by
    rw[YL hi,Y9,Qd,EU ps _ _ _ st hw,Ti,em,Yx (by show ¬((p:Int)<1\/(ps.length:Int)<=(p:Int));omega),Bp];rfl
   rw[em];have b1:p-1<st.1.length:=by omega
   have g1:st.1.getD (p-1) 0=st.1[p-1]:=by rw[Yw,Yt b1];rfl
   have g2:st.1.getD p 0=st.1[p]:=by rw[Yw,Yt h2];rfl
   have lst:(st.1.map D.int).length=ps.length:=by rw[Yu];exact hl
   have all:∀m∈st.1,1<=m/\m<=ps.length:=fun m hm=>runI_mem.mp (hp.mem_iff.mp hm)
   have inn:∀i:Nat,i<st.1.length->1<=st.1.getD i 0/\st.1.getD i 0<=ps.length:=fun i hi=>by
    have hm:st.1.getD i 0∈st.1:=by rw[Yw,Yt hi];exact YK hi
    exact all _ hm
   obtain⟨A,x,y,B,ea,la,es,ex,ey⟩:=Fn h1 h2;have nd:st.1.Nodup:=hp.symm.nodup (G7 _)
   have x1:ixN (st.1.map D.int).length ((p:Int)-1)=some (p-1):=by
    unfold ixN;rw[lst,Yz (by omega),Yz (by omega)];congr 1;omega
   have x2:∀d:D,ixN ((st.1.map D.int).set (p-1) d).length (p:Int)=some p:=fun d=>by
    unfold ixN;rw[Wy,lst,Yz (by omega),Yz (by omega)];rfl
   have e1:((st.1.map D.int).set (p-1) (.int (st.1.getD p 0))).set p (.int (st.1.getD (p-1) 0))=(UR st.1 p).map D.int:=by
    rw[←Zej h1 h2,List.map_set,List.map_set,g1,g2]
   have n1:=inn (p-1) b1;have n2:=inn p h2;rw[ea]at nd hst hno
   have hxy:valV kvs [.inl x,.inl y]=none:=by
    have:=(WE.mp hno).2.1
    rw[Wh]at this;exact this.1 y YO
   rw[ex,ey]at h3;obtain⟨m1,m2⟩:=M6 (f:=rkN ps o) (v:=.bl true) nd hno hme h3;have m3:=HS hst (show rkN ps o y=rkN ps o x->y<x from fun z=>by omega)
   rw[←es]at m1 m3;refine⟨ps,st.1,rs,p,rfl,hF,by omega,all,lrs,by rw[keys _ hp];exact hfw,hp0,iteF ?_⟩;refine⟨_,rfl,_,rx _ n1,_,rfl,_,rx _ n2,ite2 (fun g=>absurd (show rkN ps o (st.1.getD (p-1) 0)<=rkN ps o (st.1.getD p 0)from Y0 g) (by rw[ex,ey];omega)) (fun _=>?_)⟩
   refine⟨_,rfl,_,rfl,by simp,[.inl (st.1.getD (p-1) 0),.inl (st.1.getD p 0)],rfl,?_⟩;rw[←ex,←ey]at hxy m1 m2;rw[hxy];refine⟨_,rfl,_,rfl,by simp,[.inl (st.1.getD (p-1) 0),.inl (st.1.getD p 0)],.bl true,rfl,rfl,by omega,?_⟩;refine⟨_,rfl,_,rfl,_,rfl,p-1,_,x1,rfl,_,rfl,_,rfl,p,_,x2 _,rfl,?_⟩;refine⟨(UR st.1 p,st.2+exM ps st.1 p),putK kvs [.inl (st.1.getD (p-1) 0),.inl (st.1.getD p 0)] (.bl true),?_,(N3 h1 h2).trans hp,ew,hMn,Y8 (Nj _ _ _) (by omega),m3,m1,m2⟩;show _=([some (.bor (.lst (ms.map mvD))),some (.bor (plD ps)),some (.bor (.lst (o.map D.int))),some (.own (rs.map D.int)),some (.own ((UR st.1 p).map D.int)),some (.own (.dT (putK kvs [.inl (st.1.getD (p-1) 0),.inl (st.1.getD p 0)] (.bl true)))),some (.sh (.int (st.2+exM ps st.1 p))),none]:List (Option S));rw[←e1];rfl
  ·rintro γ' ⟨su,kvs,rfl,hp,hw,hMi,lk,hst,hno,hme⟩;rw[Wr]at hw;rw[Va]at hMi;obtain⟨ns',c',w1,w2,w3,w4⟩:=hM.cut (Pb _) 0 ms.length (Y3 _);rw[Wr,hw]at w1;cases w1
   have fw:FW (ns'.map (rkN ps o)) 0:=by cases hMi with|done _ h=>exact h
   have z:invL (keyL ps (rkN ps o) ns')=0:=BO (by unfold keyL;rw[Q1];exact AG fw);exact⟨by simp,hR _ _ hw hp fw hst (by omega)⟩
def Zae(G:Glob K mg)(DD:Def K mg "_law_opening" BA ["_law_script","_law_menu_here"])(Zi:Nu P w K mg base)(Zc:Te P w K mg base)(Zw:SZ P w K mg base)(Zh:N0 P w K mg base)
  : Co P w K mg base:=by
 refine DD.oz (k:=2) KS (fun _ _ _ _ _ _ E hr=>⟨_,(JO (Pu.pz 2 KS.nd (fz Zi hr (bz (fz Zc hr (bz (pv 0) JM)) JM))) (@JO _ _ _ _ _ (@Pu.pz _ _ _ _ _ _ 3 KS.nd (@Ia _ _ _ _ _ _ _ (Ei (K:=K)) (@Uj _ _ _ _ (@Ug _ _ _ _ _ JM (@Ug _ _ _ _ _ JM (@Ug _ _ _ _ _ JM (@Ug _ _ _ _ _ JM (@Ug _ _ _ _ _ JM (@Ug _ _ _ _ _ JM (@Ug _ _ _ _ _ JM (@Ug _ _ _ _ _ JM (@Ug _ _ _ _ _ (jx K (pv 1) JM) U0 rfl) rfl) rfl) rfl) rfl) rfl) rfl) rfl) rfl)) (JS Uw (pv 2) JM) (fun _ _=>rfl)) rfl (by first|exact Or.inl rfl|exact Or.inr rfl) rfl (by first|exact .inl rfl|exact .inr rfl|assumption)) (JO (Pu.pz 4 KS.nd (Uj U0)) (JO (UN YN rfl (Kp rfl G.range (az (pv 3))) (gz 5 KS.nd) (JO (Pu.pz 6 KS.nd (fz Zw hr (bz (fz Zi hr (bz (pv 2) (JS Uu JM (pv 5)))) (pv 1)))) (Nx (Ua (cq K hr (JS Uw (pv 2) JM) JM) (JQ (Pu.pz 6 KS.nd (Ur (bz (JS Uu JM (JS Uw (JS Uu (pv 2) (pv 5)) JM)) (JS Uu JM (JS Uw (JS Uu (JS Uu (JS Uu (pv 2) (pv 5)) JM) (JS UY (pv 5) JM)) JM))))))
   Ub) (Nx (Ua (cq K hr (JS Uw (pv 2) JM) JM) (JQ (Pu.pz 6 KS.nd (Ur (bz (fz Zh hr (bz (pv 1) (pv 5))) (fz Zh hr (bz (pv 1) (JS Uw (JS Uu (pv 5) JM) (pv 3))))))))
   Ub) (JQ (U8 (Kd YI Wo Wp Kz (pv 4) (az (Ur (dz U6 (jx K (pv 6) JM) (jx K (pv 6) JM))))))))))) (JQ (JT (pv 4))))))), (JN (JW (JZ (tz (JZ (tz (JK 0) JL)) JL)) (JR 2)) (JN (JW (JP (Ui (Uh JL (Uh JL (Uh JL (Uh JL (Uh JL (Uh JL (Uh JL (Uh JL (Uh (JP (JK 1) JL) Um)))))))))) (Ux (JK 2) JL)) (JR 3)) (JN (JW (Ui Um) (JR 4)) (JN (UM [5,6] (Ks (sz (JK 3))) (JR 5) (JN (JW (JZ (tz (JZ (tz (JK 2) (Ut JL (JK 5)))) (JK 1))) (JR 6)) (N4 (Ue (JX (U4 (Ux (JK 2) JL) JL)) (JW (Us (tz (Ut JL (Ux (Ut (JK 2) (JK 5)) JL)) (Ut JL (Ux (Ut (Ut (Ut (JK 2) (JK 5)) JL) (Xb (JK 5) JL)) JL)))) (JR 6)) Uc) (N4 (Ue (JX (U4 (Ux (JK 2) JL) JL)) (JW (Us (tz (JZ (tz (JK 1) (JK 5))) (JZ (tz (JK 1) (Ux (Ut (JK 5) JL) (JK 3)))))) (JR 6)) Uc) (PU 4 (Us (uz U7 (JP (JK 6) JL) (JP (JK 6) JL)))))))) (XB 4)))))⟩) (.a fun ds R X h=>?_)
 ·obtain⟨ns,m,rfl,hM,hR⟩:=h;refine⟨rfl,?_⟩;have hMM:=hM;obtain⟨a,b,c,d,e,rfl,ha,hb,hc,hd,he⟩:=hM;refine⟨ns,1,rfl,by decide,_,_,rfl,?_⟩;generalize mixP (ns.getD (1:Int).toNat 0) 300=sd;have h9:0<=sd % 9/\sd % 9<9:=by omega
  obtain⟨many,em,hm⟩:∃v:Int,atI ([0,1,2,3,4,6,9,24,a].map D.int) (sd % 9)=some (.int v)/\0<=v/\v<=24:=by
   refine⟨_,Xs (f:=D.int) (xs:=[0,1,2,3,4,6,9,24,a]) h9.1 h9.2,?_⟩
   have hall:∀v∈([0,1,2,3,4,6,9,24,a]:List Int),0<=v/\v<=24:=by
    intro v hv;simp at hv;rcases hv with rfl|rfl|rfl|rfl|rfl|rfl|rfl|rfl|rfl<;>omega
   exact hall _ (YK _)
  refine⟨_,rfl,by simp,(by show(0:Int)<9;decide),_,em,by simp,⟨by omega,by omega⟩,?_⟩;refine Ku (fun i γ'=>∃qs:List (Int×Int),qs.length=i/\γ'=[some (.bor (.scr ns)),some (.bor (.lst (([a,b,c,d,e]:List Int).map D.int))),some (.sh (.int sd)),some (.sh (.int many)),some (.own (qs.map fun q=>dD (Dd.wish q.1 q.2).q)),none,none]) ⟨[],rfl,rfl⟩ ?_ ?_
  ·rintro i γ' hi ⟨qs,hq,rfl⟩;have hi':i<many.toNat:=hi;have hlm:(qs.map fun q=>dD (Dd.wish q.1 q.2).q).length=qs.length:=Yu ..;refine⟨_,_,rfl,_,_,rfl,hMM,fun p1 p2=>?_⟩;refine TU (fun γ'=>∃(x y:Int),γ'=[some (.bor (.scr ns)),some (.bor (.lst (([a,b,c,d,e]:List Int).map D.int))),some (.sh (.int sd)),some (.sh (.int many)),some (.own (qs.map fun q=>dD (Dd.wish q.1 q.2).q)),some (.sh (.int (0+(i:Int)))),some (.sh (prD (x,y)))]) ?_ ?_
   ·refine⟨(by show(0:Int)<9;decide),ite2 (fun _=>?_) (fun _=>⟨p1,p2,rfl⟩)⟩;exact⟨(by show(0:Int)<10;decide),⟨by decide,by decide⟩,(by show(0:Int)<10;decide),by simp,_,_,rfl⟩
   ·rintro γ' ⟨p1,p2,rfl⟩;refine TU (fun γ'=>∃(x y:Int),γ'=[some (.bor (.scr ns)),some (.bor (.lst (([a,b,c,d,e]:List Int).map D.int))),some (.sh (.int sd)),some (.sh (.int many)),some (.own (qs.map fun q=>dD (Dd.wish q.1 q.2).q)),some (.sh (.int (0+(i:Int)))),some (.sh (prD (x,y)))]) ?_ ?_
    ·refine⟨(by show(0:Int)<9;decide),ite2 (fun _=>?_) (fun _=>⟨p1,p2,rfl⟩)⟩;exact⟨_,_,rfl,hMM,fun h1 _ _ _=>⟨(by show 0<many;omega),_,_,rfl,hMM,fun h2 _ _ _=>⟨by simp,_,_,rfl⟩⟩⟩
    ·rintro γ' ⟨x,y,rfl⟩;refine⟨_,XN _ _,_,Fw _ _ (.inr rfl),by simp,by omega,?_⟩;exact⟨qs++[(x,y)],by rw[Y4,hq];rfl,by rw[Y9];rfl⟩
  ·rintro γ' ⟨qs,hq,rfl⟩;have hq':qs.length=many.toNat:=hq;exact hR qs (by omega)
def OP(G:Glob K mg)(DD:Def K mg "_law_deed" AV ["_law_cell","_law_menu_here","_law_now"])(ZJ:E1 P w K mg base)(Zw:SZ P w K mg base)(Zn:Bw P w K mg base)(ZK:Dz P w K mg base)(Zh:N0 P w K mg base)
  : GE P w K mg base:=by
 refine DD.oz (k:=2) Po (fun _ _ _ _ _ _ E hr=>⟨_,(JO (Pu.pz 3 Po.nd (JS Uw (pv 0) JM)) (JO (Pu.pz 4 Po.nd (JS UY (pv 0) JM)) (JO (Pu.pz 5 Po.nd (fz ZJ hr (bz (pv 4) (jx K (pv 2) JM)))) (JO (Pu.pz 6 Po.nd (JS UY (JS UY (pv 4) JM) (UZ (Ht rfl) (by rfl) G.max boot_max (bz JM (ln K G.len (jx K (pv 2) JM)))))) (JO (Ua (Uk X6 (pv 3) JM (Up _)) (JQ (JT (Ur (dz U6 (pv 5) (fz Zn hr (bz (pv 6) (fz Zh hr (bz (pv 1) (JS Uw (JS UY (pv 6) JM) (jx K (pv 1) JM))))))))))
   Ub) (JO (Ua (Uk X6 (pv 3) JM (Up _)) (JQ (JT (Ur (dz U6 (pv 5) (fz ZK hr (dz (pv 6) (jx K (pv 2) JM) (pv 5)))))))
   Ub) (JO (Ua (cq K hr (pv 3) JM) (JQ (JT (Ur (bz U6 (pv 5)))))
   Ub) (JO (Pu.pz 7 Po.nd (fz Zw hr (bz (pv 4) (pv 1)))) (Nx (Ua (PW.pt (PH (cq K hr (pv 3) JM) (PH (Uk Xp (JS Uw (pv 4) JM) JM (Up _)) (Nd (Uk (RW (K:=K) (show _<cLine from hr.units0)) (jx K (pv 2) JM) (Uj U0) (Up _)))))) (JQ (Pu.pz 7 Po.nd (jx K (jx K (pv 2) JM) (JS Uw (JS UY (pv 4) JM) (ln K G.len (jx K (pv 2) JM))))))
   Ub) (JO (Ua (Uk X6 (pv 3) JM (Up _)) (JQ (JT (Ur (dz (jx K (Uj (bz U6 U6)) (JS UY (pv 3) JM)) (jx K (pv 7) JM) (jx K (pv 7) JM)))))
   Ub) (JQ (JT (Ur (az U6)))))))))))))), (JN (JW (Ux (JK 0) JL) (JR 3)) (JN (JW (Xb (JK 0) JL) (JR 4)) (JN (JW (JZ (tz (JK 4) (JP (JK 2) JL))) (JR 5)) (JN (JW (Xb (Xb (JK 4) JL) (Io (tz JL (Uy (sz (JP (JK 2) JL)))))) (JR 6)) (JN (Ue (JX (X8 (JK 3) JL)) (Ud 5 (JY (Us (uz U7 (JK 5) (JZ (tz (JK 6) (JZ (tz (JK 1) (Ux (Xb (JK 6) JL) (JP (JK 1) JL)))))))))) Uc) (JN (Ue (JX (X8 (JK 3) JL)) (Ud 5 (JY (Us (uz U7 (JK 5) (JZ (uz (JK 6) (JP (JK 2) JL) (JK 5))))))) Uc) (JN (Ue (JX (U4 (JK 3) JL)) (Ud 5 (JY (Us (tz U7 (JK 5))))) Uc) (JN (JW (JZ (tz (JK 4) (JK 1))) (JR 7)) (N4 (Ue (P6 (JX (U4 (JK 3) JL)) (P6 (JX (Xq (Ux (JK 4) JL) JL)) (JX (AS (JP (JK 2) JL) (Ui Um))))) (JW (JP (JP (JK 2) JL) (Ux (Xb (JK 4) JL) (Uy (sz (JP (JK 2) JL))))) (JR 7)) Uc) (JN (Ue (JX (X8 (JK 3) JL)) (JY (Us (uz (JP (Ui (tz U7 U7)) (Xb (JK 3) JL)) (JP (JK 7) JL) (JP (JK 7) JL)))) Uc) (JY (Us (sz U7)))))))))))))⟩) (.a fun ds R X h=>?_)
 ·obtain⟨c,m,f,w,es,rfl,hM,hz,hF,hw,hR,hB⟩:=h;refine⟨rfl,?_⟩;have hMM:=hM;have at1:atI (plD f::plD w::es) 1=some (plD w):=TR (by decide) rfl;have hl:(f.map prD).length=f.length:=Yu ..;have hlw:(w.map prD).length=w.length:=Yu ..;have hmx:∀z:Int,0<(if z>1 then z else 1)/\((if z>1 then z else 1)=z\/(if z>1 then z else 1)=1):=fun z=>by split<;>omega
  have hm1:=hmx (((f.map prD).length:Nat):Int);refine⟨(by show(0:Int)<9;decide),⟨by decide,by decide⟩,_,XN _ _,_,f,rfl,hz,fun p=>?_⟩;refine⟨⟨by decide,by decide⟩,_,XN _ _,⟨hm1.1,Int.lt_of_le_of_lt (b:=1000) (by rcases hm1.2 with w|w<;>rw[w]<;>omega) (by decide)⟩,?_⟩
  obtain⟨m0,m1,m2,m3,m4,em,ha,hb,hc,hd,he⟩:=hM;have i0:atI (m.map D.int) 0=some (.int m0):=by rw[em];rfl
  refine ite2 (fun _=>?_) (fun _=>ite2 (fun _=>?_) (fun _=>ite2 (fun _=>?_) (fun g4=>?_)))
  ·exact⟨⟨by decide,by decide⟩,_,i0,(by show 0<m0;omega),m,_,rfl,hMM,fun h _ _ _=>⟨_,_,rfl,fun v=>⟨by simp,hR (.sell p v)⟩⟩⟩
  ·exact⟨_,XN _ _,_,f,p,rfl,hz,hF,fun v=>⟨by simp,hR (.part p v)⟩⟩
  ·exact⟨by simp,hR (.unite p)⟩
  ·refine⟨_,m,rfl,hMM,fun a b=>?_⟩;refine TU (fun γ'=>∃(a b:Int) (t1 t2 t3:Option S),γ'=[some (.sh (.int c)),some (.bor (.lst (m.map D.int))),some (.bor (.tup (plD f::plD w::es))),some (.sh (.int (c % 9))),t1,t2,t3,some (.sh (prD (a,b)))]) ?_ ?_
   ·refine ite2 (fun _=>⟨(by show(0:Int)<4;decide),ite2 (fun _=>⟨_,at1,by simp,?_⟩) (fun _=>iteF ⟨a,b,_,_,_,rfl⟩)⟩) (fun _=>iteF ⟨a,b,_,_,_,rfl⟩);have emp:(w.map prD).isEmpty=decide (w=[]):=by cases w<;>simp
    show if (!(w.map prD).isEmpty)=true then _ else _;rw[emp];refine ite2 (fun g=>?_) (fun g=>⟨a,b,_,_,_,rfl⟩);have hne:w≠[]:=fun z=>by rw[Yy z]at g;cases g
    have hp:0<w.length:=Qu.mpr hne;have q1:=Int.emod_nonneg (c / 9 / 4) (show(((w.map prD).length:Nat):Int)≠0 by omega);have q2:=V4 (c / 9 / 4) (show 0<(((w.map prD).length:Nat):Int) by omega);exact⟨_,at1,⟨by decide,by decide⟩,_,at1,(by show 0<(((w.map prD).length:Nat):Int);omega),_,Xs (f:=prD) (xs:=w) q1 (by omega),_,_,_,_,_,rfl⟩
   ·rintro γ' ⟨a,b,t1,t2,t3,rfl⟩;refine ite2 (fun g=>?_) (fun g=>⟨by simp,hB⟩);have g':c % 9<8:=Y0 g;have hk:c % 9 / 7=0\/c % 9 / 7=1:=by omega
    have ex:∃k:Str,atI [D.str "wish",.str "drop"] (c % 9 / 7)=some (.str k)/\(k=("wish" : Str)\/k=("drop" : Str)):=by
     rcases hk with e|e<;>rw[e]
     ·exact⟨_,rfl,.inl rfl⟩
     ·exact⟨_,rfl,.inr rfl⟩
    obtain⟨k,ek,hk2⟩:=ex;refine⟨by simp,⟨by decide,by decide⟩,_,ek,_,XN _ _,_,Fw _ _ (.inr rfl),by simp,?_⟩;rcases hk2 with rfl|rfl
    ·exact hR (.wish a b)
    ·exact hR (.drop a b)
def Zfe(G:Glob K mg)(DD:Def K mg "check_no_ring" Bb ["strips","wishes"])(ZL:Hq P w K mg base)(Ze:TQ P w K mg base)
  : SX P w K mg base:=by
 refine DD.oz (k:=3) DS (fun _ _ _ _ _ _ E hr=>⟨_,(JO (Pu.pz 2 DS.nd (fz ZL hr (bz (fz Ze hr (az (pv 0))) (pv 1)))) (JQ (Ua (UC (K:=K) (pv 2)) (JQ Lo)
   Ub))), (JN (JW (JZ (tz (JZ (sz (JK 0))) (JK 1))) (JR 2)) (Ue (UT (JK 2)) Zes Uc))⟩) (.a fun ds R X h=>?_)
 ·obtain⟨ps,ws,rfl,hF,hz,hu,hN,hR⟩:=h;refine⟨rfl,?_⟩;exact⟨ps,rfl,hF,hz,_,ws,rfl,Y8 (KJ ps) (by decide),fun l hl t=>Zap hu hN hl _ t (Y3 _),iteF (A:=False) hR⟩
def RJ(G:Glob K mg)(DD:Def K mg "_law_call" BR ["_law_village","_law_deed_here"])(ZM:HN P w K mg base)(ZN:EY P w K mg base)(ZO:Da P w K mg base)(ZP:Hy P w K mg base)(ZQ:EE P w K mg base)
  : Hs P w K mg base:=by
 refine DD.ox (k:=3) Zcd (fun _ _ _ _ _ _ E hr=>⟨_,(JO (Ua (cq K hr (jx K (pv 1) JM) U6) (JQ (JT (Kv ZN G.cl_Village (hr.mono (by decide)) ExcR.US (pv 0) (bz (jx K (pv 1) JM) (jx K (pv 1) JM)))))
   Ub) (JO (Ua (cq K hr (jx K (pv 1) JM) U6) (JQ (JT (Kv ZO G.cl_Village (hr.mono (by decide)) ExcR.US (pv 0) (bz (jx K (pv 1) JM) (jx K (pv 1) JM)))))
   Ub) (JO (Ua (cq K hr (jx K (pv 1) JM) U6) (JQ (JT (Kv ZP G.cl_Village (hr.mono (by decide)) ExcR.US (pv 0) (az (jx K (pv 1) JM)))))
   Ub) (JO (Ua (cq K hr (jx K (pv 1) JM) U6) (JQ (JT (Kv ZQ G.cl_Village (hr.mono (by decide)) ExcR.US (pv 0) (bz (jx K (pv 1) JM) (jx K (pv 1) JM)))))
   Ub) (JQ (JT (Kv ZM G.cl_Village (hr.mono (by decide)) ExcR.US (pv 0) (bz (jx K (pv 1) JM) (jx K (pv 1) JM))))))))), (JN (Ue (JX (U4 (JP (JK 1) JL) U7)) (Kt (Nb 0 LM (tz (JP (JK 1) JL) (JP (JK 1) JL)))) Uc) (JN (Ue (JX (U4 (JP (JK 1) JL) U7)) (Kt (Nb 0 Zdz (tz (JP (JK 1) JL) (JP (JK 1) JL)))) Uc) (JN (Ue (JX (U4 (JP (JK 1) JL) U7)) (Kt (Nb 0 Zd9 (sz (JP (JK 1) JL)))) Uc) (JN (Ue (JX (U4 (JP (JK 1) JL) U7)) (Kt (Nb 0 IT (tz (JP (JK 1) JL) (JP (JK 1) JL)))) Uc) (Kt (Nb 0 Zb7 (tz (JP (JK 1) JL) (JP (JK 1) JL))))))))⟩) (.c fun o ss R X h=>?_)
 ·obtain⟨x,b1,b2,b3,bk,fs,ws,f,w,d,rfl,rfl,hb,hf,hw,hz,hy,hR⟩:=h;refine⟨rfl,?_⟩;cases d with
  |sell p h=>
   refine⟨_,rfl,?_⟩;refine⟨rfl,rfl,_,rfl,_,rfl,x,b1,b2,b3,bk,fs,ws,f,w,p,h,rfl,rfl,hb,hf,hw,hz,?_⟩;have hR:UW (Sl bk f p h) (X (vO (ExcR.JU mg "Village") x b1 b2 b3 bk (fs++[f]) (ws++[w]))) (R (vO (ExcR.JU mg "Village") x b1 b2 b3 (bk++[(Dd.sell p h).q]) (fs++[f]++[(Dd.sell p h).fld f]) (ws++[w]++[(Dd.sell p h).wsh w])) (.int (bk.length+1))):=hR;cases e:Sl bk f p h with
   |some c=>rw[e]at hR;exact⟨_,rfl,⟨rfl,by simp⟩,hR⟩
   |none=>rw[e]at hR;exact⟨_,rfl,⟨rfl,by simp⟩,hR⟩
  |part p h=>
   refine⟨_,rfl,_,rfl,?_⟩;refine⟨rfl,rfl,_,rfl,_,rfl,x,b1,b2,b3,bk,fs,ws,f,w,p,h,rfl,rfl,hb,hf,hw,hz,?_⟩;have hR:UW (Sf bk f p h) (X (vO (ExcR.JU mg "Village") x b1 b2 b3 bk (fs++[f]) (ws++[w]))) (R (vO (ExcR.JU mg "Village") x b1 b2 b3 (bk++[(Dd.part p h).q]) (fs++[f]++[(Dd.part p h).fld f]) (ws++[w]++[(Dd.part p h).wsh w])) (.int (bk.length+1))):=hR;cases e:Sf bk f p h with
   |some c=>rw[e]at hR;exact⟨_,rfl,⟨rfl,by simp⟩,hR⟩
   |none=>rw[e]at hR;exact⟨_,rfl,⟨rfl,by simp⟩,hR⟩
  |unite p=>
   refine⟨_,rfl,_,rfl,_,rfl,?_⟩;refine⟨rfl,rfl,_,rfl,x,b1,b2,b3,bk,fs,ws,f,w,p,rfl,rfl,hb,hf,hw,hz,?_⟩;have hR:UW (NH bk f p) (X (vO (ExcR.JU mg "Village") x b1 b2 b3 bk (fs++[f]) (ws++[w]))) (R (vO (ExcR.JU mg "Village") x b1 b2 b3 (bk++[(Dd.unite p).q]) (fs++[f]++[(Dd.unite p).fld f]) (ws++[w]++[(Dd.unite p).wsh w])) (.int (bk.length+1))):=hR;cases e:NH bk f p with
   |some c=>rw[e]at hR;exact⟨_,rfl,⟨rfl,by simp⟩,hR⟩
   |none=>rw[e]at hR;exact⟨_,rfl,⟨rfl,by simp⟩,hR⟩
  |wish p h=>
   refine⟨_,rfl,_,rfl,_,rfl,_,rfl,?_⟩;refine⟨rfl,rfl,_,rfl,_,rfl,x,b1,b2,b3,bk,fs,ws,f,w,p,h,rfl,rfl,hb,hf,hw,hy,?_⟩;have hR:UW (NZ bk w p h) (X (vO (ExcR.JU mg "Village") x b1 b2 b3 bk (fs++[f]) (ws++[w]))) (R (vO (ExcR.JU mg "Village") x b1 b2 b3 (bk++[(Dd.wish p h).q]) (fs++[f]++[(Dd.wish p h).fld f]) (ws++[w]++[(Dd.wish p h).wsh w])) (.int (bk.length+1))):=hR;cases e:NZ bk w p h with
   |some c=>rw[e]at hR;exact⟨_,rfl,⟨rfl,by simp⟩,hR⟩
   |none=>rw[e]at hR;exact⟨_,rfl,⟨rfl,by simp⟩,hR⟩
  |drop p h=>
   refine⟨_,rfl,_,rfl,_,rfl,_,rfl,?_⟩;refine⟨rfl,rfl,_,rfl,_,rfl,x,b1,b2,b3,bk,fs,ws,f,w,p,h,rfl,rfl,hb,hf,hw,hy,?_⟩;have hR:UW (SD bk w p h) (X (vO (ExcR.JU mg "Village") x b1 b2 b3 bk (fs++[f]) (ws++[w]))) (R (vO (ExcR.JU mg "Village") x b1 b2 b3 (bk++[(Dd.drop p h).q]) (fs++[f]++[(Dd.drop p h).fld f]) (ws++[w]++[(Dd.drop p h).wsh w])) (.int (bk.length+1))):=hR;cases e:SD bk w p h with
   |some c=>rw[e]at hR;exact⟨_,rfl,⟨rfl,by simp⟩,hR⟩
   |none=>rw[e]at hR;exact⟨_,rfl,⟨rfl,by simp⟩,hR⟩
def MY(G:Glob K mg)(DD:Def K mg "cost_table" FF ["strips","wishes"])(Zx:SX P w K mg base)(Zy:Fl P w K mg base)(Zz:Ay P w K mg base)
  : Iw P w K mg base:=by
 refine DD.oz (k:=4) EJ (fun _ _ _ _ _ _ E hr=>⟨_,(JO (U8 (fz Zx hr (bz (pv 0) (pv 1)))) (JO (Pu.pz 2 EJ.nd (fz Zy hr (dz (pv 0) (pv 1) (fz Zz hr (az (pv 0)))))) (JQ (JT (XX (Zcf rfl) (by rfl) G.list boot_list (Ug (Zdt (K:=K) (pv 2)) U0)))))), (JN (Xn (JZ (tz (JK 0) (JK 1)))) (JN (JW (JZ (uz (JK 0) (JK 1) (JZ (sz (JK 0))))) (JR 2)) (JY (RF (JK 2)))))⟩) (.a fun ds R X h=>?_)
 ·obtain⟨ps,ws,rfl,hF,hz,hw,hu,hN,hR⟩:=h;refine⟨rfl,?_⟩;refine⟨ps,ws,rfl,hF,hz,hu,hN,ps,rfl,hF,hz,fun pa hpa=>⟨ps,ws,pa,pcc ps,rfl,hF,hz,hw,hu,hpa,E3 hu hN,fun kvs T=>?_⟩⟩;have nd:(Ul ps).Nodup:=(KQ ps).imp (fun h=>QK h);obtain⟨vs,e,hv⟩:=T.vals (DX nd);obtain⟨e1,e2⟩:=D2 e;refine⟨kvs,rfl,e1,?_⟩;rw[e2];exact hR vs hv
def Rm(G:Glob K mg)(DD:Def K mg "best_order" FT ["strips","wishes"])(Zx:SX P w K mg base)(Zz:Ay P w K mg base)(Zy:Fl P w K mg base)(Ze:TQ P w K mg base)(Zl:Sg P w K mg base)(ZR:EO P w K mg base)(ZS:CP P w K mg base)
  : CF P w K mg base:=by
 refine DD.oz (k:=4) Pf (fun _ _ _ _ _ _ E hr=>⟨_,(JO (U8 (fz Zx hr (bz (pv 0) (pv 1)))) (JO (Pu.pz 2 Pf.nd (fz Zz hr (az (pv 0)))) (JO (Pu.pz 3 Pf.nd (fz Zy hr (dz (pv 0) (pv 1) (pv 2)))) (JO (Pu.pz 4 Pf.nd (XX (Cg (K:=K)) (by rfl) G.tuple boot_tuple (az (fz Ze hr (az (pv 0)))))) (JO (Pu.pz 5 Pf.nd (Uj U0)) (JO (NP YN (UC (K:=K) (pv 4)) (JO (KY (N':=["holder","members","wishes"]) (φ:=[none,some 4,some 1]) (i:=6) Pf.nd rfl rfl rfl (Own.CompOk.of (by rfl)) (PQ (K:=K) (pv 4)) (fun _ _ _ _ _=>⟨(gz 0 (show(["holder","members","wishes"]:List Str).Nodup from by decide +kernel)),(XS (UC (K:=K) (fz ZR hr (dz (pv 1) (pv 0) (pv 2))))),(pv 0)⟩)) (JO (KY (N':=["first","members","least","pairs"]) (φ:=[none,some 4,some 3,some 2]) (i:=7) Pf.nd rfl rfl rfl (Own.CompOk.of (by rfl)) (U1 (K:=K) (pv 6)) (fun _ _ _ _ _=>⟨(gz 0 (show(["first","members","least","pairs"]:List Str).Nodup from by decide +kernel)),(XS (cq K hr (fz ZS hr (Ug (pv 1) (Ug (pv 0) (Ug (pv 2) (Ug (pv 3) U0))))) (N6 (UO hr) (pv 2) (pv 1) (fun _ _=>rfl)))),(pv 0)⟩)) (JO (U8 (Kd YI Wo Wp Kz (pv 5) (az (jx K (pv 7) JM)))) (JQ (Pu.pz 4 Pf.nd (fz Zl hr (bz (pv 4) (jx K (pv 7) JM))))))))) (JQ (JT (pv 5))))))))), (JN (Xn (JZ (tz (JK 0) (JK 1)))) (JN (JW (JZ (sz (JK 0))) (JR 2)) (JN (JW (JZ (uz (JK 0) (JK 1) (JK 2))) (JR 3)) (JN (JW (EW (sz (JZ (sz (JK 0))))) (JR 4)) (JN (JW (Ui Um) (JR 5)) (JN (NL [6,7] (UT (JK 4)) (JN (JW (UD (SndI.c (Tv (JK 4))) (JR 0) (UT (JZ (uz (JK 1) (JK 0) (JK 2)))) (JK 0)) (JR 6)) (JN (JW (UD (Xm (JK 6)) (JR 0) (JX (U4 (JZ (Uh (JK 1) (Uh (JK 0) (Uh (JK 2) (Uh (JK 3) Um))))) (N7 (JK 2) (JK 1)))) (JK 0)) (JR 7)) (JN (PU 5 (JP (JK 7) JL)) (JW (JZ (tz (JK 4) (JP (JK 7) JL))) (JR 4)))))) (XB 5)))))))⟩) (.a fun ds R X h=>?_)
 ·obtain⟨ps,ws,rfl,hF,hz,hw,hu,hN,hR⟩:=h;refine⟨rfl,?_⟩;refine⟨ps,ws,rfl,hF,hz,hu,hN,ps,rfl,hF,hz,fun pa hpa=>⟨ps,ws,pa,pcc ps,rfl,hF,hz,hw,hu,hpa,E3 hu hN,fun kvs T=>⟨ps,rfl,hF,hz,?_⟩⟩⟩;have hh:=KJ ps;have hri:=KQ ps;have nd:(Ul ps).Nodup:=hri.imp (fun h=>QK h);have hpa':∀x∈Ul ps,∀y∈Ul ps,valV pa [.inl x,.inl y]=some (.int (pcc ps x y)):=hpa;generalize pcc ps=c at *;generalize Ul ps=hs at *
  refine⟨rfl,by simp,Sv (fun γ'=>∃(ms o:List Int),γ'=[some (.bor (.lst (ps.map prD))),some (.bor (.lst (ws.map prD))),some (.own (.dT pa)),some (.own (.dT kvs)),some (.sh (tD ms)),some (.own (o.map D.int)),none,none]/\ms∈U2 hs/\o.length+ms.length<=10/\
   ∀p,Best ws c ms p->Best ws c hs (o++p)) Zc3 ⟨hs,[],rfl,List.mem_of_getLast? (Ho hs),by simpa using hh,fun p hp=>hp⟩ ?_⟩
  rintro γ' ⟨ms,o,rfl,hms,hol,hB⟩;show if (!(ms.map D.int).isEmpty)=true then _ else _;refine ite2 (fun g=>?_) (fun g=>?_)
  ·have hsm:=ND hs ms hms;have hne:ms≠[]:=fun e=>by subst e;simp at g
   have ndm:ms.Nodup:=nd.sublist hsm;have hrm:=hri.sublist hsm
   have hless:∀l∈ms,Uq ms l∈U2 hs:=fun l hl=>by
    obtain⟨k,hk,e⟩:=W1.mp hms;obtain⟨j,_,ej⟩:=GA nd k ms (by rw[Yt hk,e]) l hl;exact YM ej
   obtain⟨vs,hvs⟩:=Hn fun l hl=>T.val _ (hless l hl);obtain⟨V,hV1,hV2⟩:=T.val ms hms;have hv2:∀l∈ms,Least ws c (Uq ms l) (vs l):=fun l hl=>(hvs l hl).2
   have hsome:∃f rest,(ms.filter (fun h=>firstM ws ms h)).filter (fun f=>decide (vs f+((Uq ms f).map (c f)).sum=V))=f::rest:=by
    obtain⟨q,q1,q2,q3⟩:=hV2.is;cases q with
    |nil=>exact absurd q1.nil_eq.symm hne
    |cons g p=>
     obtain⟨r1,r2,r3,_⟩:=Hw ndm hu hv2 hV2 q1 q2 q3;exact List.exists_cons_of_ne_nil (List.ne_nil_of_mem (YS.mpr ⟨YS.mpr ⟨r1,r2⟩,Yy r3⟩))
   obtain⟨f,rest,ef⟩:=hsome;have hfm:f∈(ms.filter (fun h=>firstM ws ms h)).filter (fun f=>decide (vs f+((Uq ms f).map (c f)).sum=V)):=by rw[ef];exact YO ..
   obtain⟨hfm,hf3⟩:=YS.mp hfm;obtain⟨hf1,hf2⟩:=YS.mp hfm
   have hmin:∀g∈ms,firstM ws ms g=true->vs g+((Uq ms g).map (c g)).sum=V->f<=g:=fun g h1 h2 h3=>by
    have hg:g∈(ms.filter (fun h=>firstM ws ms h)).filter (fun f=>decide (vs f+((Uq ms f).map (c f)).sum=V)):=YS.mpr ⟨YS.mpr ⟨h1,h2⟩,Yy h3⟩
    have hr:(f::rest).Pairwise (· < ·):=by
     rw[←ef];exact(hrm.filter _).filter _
    rw[ef]at hg;rcases YA.mp hg with e|hg
    ·omega
    ·have:=(Wh.mp hr).1 g hg
     omega
   refine⟨_,rfl,UV (s:=.sh .non) (xs:=ms) (emb:=D.int) (fun h=>if firstM ws ms h=true then some (.int h)else none) (by omega) (fun h hm=>?_) ?_⟩
   ·refine⟨ms,h,ws,rfl,hw,?_⟩;refine ite2 (fun g=>⟨_,rfl,Yz g⟩) (fun g=>Yx g)
   ·rw[XT (fun h=>firstM ws ms h)];refine UV (xs:=ms.filter (fun h=>firstM ws ms h)) (emb:=D.int) (fun f=>if decide (vs f+((Uq ms f).map (c f)).sum=V)=true then some (.int f)else none) (Y8 (Wd _ _) (by omega)) (fun l hl=>?_) ?_
    ·obtain⟨hl1,hl2⟩:=YS.mp hl;refine⟨ms,l,kvs,pa,c l,vs l,rfl,by omega,(hvs l hl1).1,fun m hm=>hpa' l (hsm.subset hl1) m (hsm.subset (less_sub.subset hm)),_,_,Sn ms,hV1,rfl,?_⟩;refine ite2 (fun g=>⟨_,rfl,Yz g⟩) (fun g=>Yx g)
    ·rw[XT (fun f=>decide (vs f+((Uq ms f).map (c f)).sum=V)),ef];refine⟨_,XN _ _,by rw[Yu];omega,_,XN _ _,ms,f,rfl,by omega,⟨Uq ms f,o++[f],?_,hless f hf1,?_,fun p hp=>?_⟩,?_⟩
     ·rw[Y9];rfl
     ·have:=(KD ndm hf1).length_eq
      rw[Y4];rw[YF]at this;show o.length+1+_<=10;omega
     ·rw[QR];exact hB _ (Zhp ndm hu hv2 hV2 hf1 hf2 (Y0 hf3) hmin hp)
     ·have:=(KD ndm hf1).length_eq
      rw[YF]at this;show((Uq ms f).map D.int).length<(ms.map D.int).length;rw[Yu,Yu];omega
  ·have e:ms=[]:=by
    cases ms with
    |nil=>rfl
    |cons a r=>exact absurd rfl g
   subst e
   have:=hB [] (Zcw ws c)
   rw[Wl]at this;exact hR o this
def M2(G:Glob K mg)(DD:Def K mg "_law_go" BZ ["_law_village","_law_past","_law_deed_here"])(ZT:Dx P w K mg base)(ZU:Hs P w K mg base)(Zj:N5 P w K mg base)(ZV:HJ P w K mg base)
  : FL P w K mg base:=by
 refine DD.oz (k:=4) F9 (fun _ _ _ _ _ _ E hr=>⟨_,(JO (Ua (cq K hr (jx K (pv 2) JM) U6) (Nx (Ua (Uk Xp (ln K G.len (pv 1)) JM (Up _)) (JO (U8 (UI ZV G.cl_Village (hr.mono (by decide)) Tn (pv 0))) (JQ (U8 (TX YI Q8 Q9 SA (pv 1)))))
   Ub) (JQ (JT UG)))
   Ub) (JO (Pu.pz 3 F9.nd (fz ZT hr (bz (jx K (pv 1) (X1 Xx JM)) (pv 2)))) (JO (Ua (Uk Xp (jx K (pv 3) JM) JM (Up _)) (JQ (JT UG))
   Ub) (JO (U8 (Kd YI Wo Wp Kz (pv 1) (az (Ur (dz (jx K (pv 3) JM) (jx K (pv 3) JM) (pv 2)))))) (JO (Pu.pz 4 F9.nd (Xk ZU (hr.mono (by decide)) Tn (bz (pv 0) (pv 2)))) (JQ (JT (Nl (fz Zj hr (az (pv 4))) (Nn (Pa (Tw (K:=K) (show _<cLine from hr.units0)) (pv 4) (JS U3 (ln K G.len (pv 1)) JM) (Up _))))))))))), (JN (Ue (JX (U4 (JP (JK 2) JL) U7)) (N4 (Ue (JX (Xq (Uy (sz (JK 1))) JL)) (JN (PB (T1 0 Zaq Um)) (PB (Zep 1))) Uc) (Tu UF)) Uc) (JN (Ud 2 (JW (Ar (tz (JP (JK 1) (Xw JL)) (JK 2))) (JR 3))) (JN (Ue (JX (Xq (JP (JK 3) JL) JL)) (Tu UF) Uc) (JN (Ud 2 (PU 1 (Us (uz (JP (JK 3) JL) (JP (JK 3) JL) (JK 2))))) (JN (Ud 2 (Zcr (Rj 0 (sz (JK 2))) (JR 4))) (Tu (Np (JZ (sz (JK 4))) (U4 (JK 4) (U5 (Uy (sz (JK 1))) JL)))))))))⟩) (.d fun o1 o2 ss R X h=>?_)
 ·obtain⟨x,b1,b2,b3,a,f0,hs,q,rfl,rfl,rfl,hz,hf,hor⟩:=h;refine⟨rfl,?_⟩;obtain⟨⟨h1,h2⟩,h3⟩:=hf.cur;rcases hor with⟨rfl,hR⟩|⟨d,rfl,hR⟩
  ·refine⟨_,rfl,?_⟩;refine TU (fun γ'=>∃t1 t2 t3:Option S,γ'=[some (.own (vO (ExcR.JU mg "Village") x b1 b2 b3 (bkH hs.dropLast) (fsH f0 hs.dropLast) (wsH hs.dropLast))),some (.own (.lsA a (UK f0 hs.dropLast))),t1,t2,t3]) ?_ ?_
   ·rcases W6 hs with rfl|⟨h,y,rfl⟩
    ·exact⟨_,_,_,rfl⟩
    ·rw[WO,WT];have lp':(UK f0 (h++[y])).length=h.length+2:=by rw[Sj,Y4,Wn]
     have g:(((UK f0 (h++[y])).length:Nat):Int)>1:=by omega
     have el:(UK f0 (h++[y]))[(UK f0 (h++[y])).length-1]?=some (pstD y):=by
      rw[lp',S9,Wc (by rw[Sj];omega),Sj];rw[show h.length+2-1-(h.length+1)=0 by omega];rfl
     have ed:(UK f0 (h++[y])).dropLast=UK f0 h:=by rw[S9,WT]
     show if decide ((((UK f0 (h++[y])).length:Nat):Int)>1)=true then _ else _;rw[Yy g];refine iteT ⟨rfl,rfl,x,b1,b2,b3,bkH (h++[y]),fsH f0 (h++[y]),wsH (h++[y]),rfl,rfl,by rw[Zey,BQ],by rw[Ze2,BQ],fun e=>?_,fun b0 q e=>?_⟩
     ·rw[BF]at e;simp at e
     ·rw[BF]at e;obtain⟨rfl,e2⟩:=List.append_inj' e rfl;cases e2
      rw[Sd,NK,WT,WT];refine⟨_,el,?_⟩;rw[ed];exact⟨_,_,_,rfl⟩
   ·rintro γ' ⟨t1,t2,t3,rfl⟩;exact⟨_,_,rfl,rfl,⟨rfl,by simp⟩,rfl,hR⟩
  ·obtain⟨fs,ef,lf⟩:=Ah f0 hs;obtain⟨ws,ew,lw⟩:=Bc hs;obtain⟨dl,el⟩:=NI f0 hs;have lb:=BQ hs;have lp:=Sj f0 hs;have nb:=d.not_back;refine⟨_,XN _ _,?_⟩;show if decide (d.q.1=("back" : Str))=true then _ else _;rw[YH nb];refine iteF ⟨_,el,curF f0 hs,curW hs,[dl],d,rfl,h2,h3.1,_,rfl,?_⟩;by_cases e:d.err (curF f0 hs) (curW hs)=none
   ·have ea:addH f0 hs d=hs++[(d,d.fld (curF f0 hs),d.wsh (curW hs))]:=by unfold addH;rw[Yz e]
    rw[ea]at hR;rw[BF,Sd,NK,S9,ef,ew]at hR;show if decide (codeN (d.err (curF f0 hs) (curW hs))>0)=true then _ else _;rw[e];refine iteF ⟨_,rfl,_,rfl,by simp,by omega,?_⟩;refine⟨x,b1,b2,b3,bkH hs,fs,ws,curF f0 hs,curW hs,d,by rw[←ef,←ew],rfl,by omega,by omega,by omega,by omega,by have:=h3.1;omega,?_⟩
    have ec:Bi (bkH hs) (curF f0 hs) (curW hs) d=none:=by
     unfold Bi;rw[Yx (by omega),e]
    have en:d.nf (curF f0 hs) (curW hs)=d.fld (curF f0 hs):=by unfold Dd.nf;rw[Yz e]
    have ew':d.nw (curF f0 hs) (curW hs)=d.wsh (curW hs):=by unfold Dd.nw;rw[Yz e]
    rw[ec];have es:((((bkH hs).length:Nat):Int)+1=((((UK f0 hs++[D.tup [plD (d.nf (curF f0 hs) (curW hs)),plD (d.nw (curF f0 hs) (curW hs)),dD d.q]]).length:Nat)):Int)-1):=by rw[Y4,Wn];omega
    refine⟨_,rfl,iteT ?_⟩;refine⟨_,_,rfl,rfl,⟨rfl,by simp⟩,rfl,?_⟩;rw[Yy es,en,ew'];exact hR
   ·have ea:addH f0 hs d=hs:=by unfold addH;rw[Yx e]
    rw[ea]at hR;show if decide (codeN (d.err (curF f0 hs) (curW hs))>0)=true then _ else _;rw[Yy (Dd.code_pos e)];exact iteT ⟨_,_,rfl,rfl,⟨rfl,by simp⟩,rfl,hR⟩
def Rk(G:Glob K mg)(DD:Def K mg "least_cost" Bu ["strips","wishes"])(ZW:Iw P w K mg base)
  : CI P w K mg base:=by
 refine DD.oz (k:=5) RR (fun _ _ _ _ _ _ E hr=>⟨_,(JQ (JT (jx K (fz ZW hr (bz (pv 0) (pv 1))) (X1 Xx JM)))), (JY (JP (JZ (tz (JK 0) (JK 1))) (Xw JL)))⟩) (.a fun ds R X h=>?_)
 ·obtain⟨ps,ws,rfl,hF,hz,hw,hu,hN,hR⟩:=h;refine⟨rfl,?_⟩;refine⟨ps,ws,rfl,hF,hz,hw,hu,hN,fun vs hv=>?_⟩;have e1:=Ho (Ul ps);rw[List.getLast?_eq_getElem?]at e1;have hi:=(YQ.mp e1).1;have hl:=hv.1;obtain⟨v,h2⟩:∃v,vs[(U2 (Ul ps)).length-1]?=some v:=⟨_,Yt (by omega)⟩;have L:=hv.2 _ _ _ e1 h2;rw[←hl]at h2;exact⟨_,K6 (f:=D.int) (Nz h2),hR _ L⟩
def Rx(G:Glob K mg)(DD:Pu.DefM K (Meth K (ExcR.JU mg "Village") "order") "order" "Village.order" FR ["self"])(ZX:CF P w K mg base)(Zb:K4 P w K mg base)(Zd:Pi P w K mg base)
  : NW P w K mg base:=by
 refine DD.oz (k:=5) LA (fun _ _ _ _ _ _ E hr=>⟨_,(JQ (JT (fz ZX hr (bz (UI Zb G.cl_Village (hr.mono (by decide)) UH (pv 0)) (UI Zd G.cl_Village (hr.mono (by decide)) UH (pv 0)))))), (JY (JZ (tz (Xh KB (JK 0) Um) (Xh Pt (JK 0) Um))))⟩) (.a fun ds R X h=>?_)
 ·obtain⟨bk,fs,ws,f,w,rfl,hF,hz,hw,hu,hN,hR⟩:=h;refine⟨rfl,?_⟩;exact⟨rfl,rfl,bk,fs,ws++[w],f,rfl,rfl,rfl,bk,fs++[f],ws,w,rfl,f,w,rfl,hF,hz,hw,hu,hN,hR⟩
def Zan(G:Glob K mg)(DD:Def K mg "_law_no_rings" A3 ["_law_village","_law_past"])(ZY:Gn P w K mg base)(Z0:BB P w K mg base)(Zo:FL P w K mg base)
  : Dm P w K mg base:=by
 refine DD.oz (k:=5) Ex (fun _ _ _ _ _ _ E hr=>⟨_,(JO (NP YN (Xi (UC (K:=K) (fz ZY hr (bz (fz Z0 hr (az (jx K (jx K (pv 1) (X1 Xx JM)) JM))) (jx K (jx K (pv 1) (X1 Xx JM)) JM))))) (JO (Pu.pz 2 Ex.nd (jx K (jx K (jx K (pv 1) (X1 Xx JM)) JM) (X1 Xx JM))) (JQ (Ua (Xi (UC (K:=K) (fz Zo hr (dz (pv 0) (pv 1) (Ur (dz U6 (jx K (pv 2) JM) (jx K (pv 2) JM))))))) (JQ (JT UG))
   Ub)))) (JQ (JT UG))), (JN (NL [2] (Xr (UT (JZ (tz (JZ (sz (JP (JP (JK 1) (Xw JL)) JL))) (JP (JP (JK 1) (Xw JL)) JL))))) (JN (JW (JP (JP (JP (JK 1) (Xw JL)) JL) (Xw JL)) (JR 2)) (N2 1 (Ss (SH (sv_w (S4 0 1 (by decide) (sz (Us (uz U7 (JP (JK 2) JL) (JP (JK 2) JL))))))) (Tu UF) Uc)))) (Tu UF))⟩) (.d fun o1 o2 ss R X h=>?_)
 ·obtain⟨x,b1,b2,b3,a,f0,hs,rfl,rfl,rfl,hz,hf,hR⟩:=h;refine⟨rfl,?_⟩;refine Sv (fun γ'=>∃hs':Hist,γ'=[some (.own (vO (ExcR.JU mg "Village") x b1 b2 b3 (bkH hs') (fsH f0 hs') (wsH hs'))),some (.own (.lsA a (UK f0 hs'))),none]/\hs'.length+(curW hs').length<=hs.length+20/\FineH f0 hs'/\curF f0 hs'=curF f0 hs) Zhh ⟨hs,rfl,by have:=hf.cur.2.1;omega,hf,rfl⟩ ?_;rintro γ' ⟨hs',rfl,hl,hf',hc⟩;obtain⟨⟨c1,c2⟩,c3⟩:=hf'.cur;obtain⟨dl,el⟩:=NI f0 hs';have hu:∀q∈curW hs',q.1≠q.2:=fun q hq=>(c3.2.2 q hq).2;refine⟨_,el,_,rfl,curF f0 hs',rfl,by omega,_,el,_,rfl,Ul (curF f0 hs'),curW hs',rfl,by have:=KJ (curF f0 hs');omega,by have:=c3.1;omega,?_⟩;refine ite2 (fun g=>?_) (fun g=>?_)
  ·have hne:¬UA (curW hs') (Ul (curF f0 hs')) (Ul (curF f0 hs')).length=[]:=fun z=>by rw[Yy z]at g;cases g
   have hR1:∃r,Ring (Ul (curF f0 hs')) (curW hs') r:=YY fun z=>hne ((EV hu).mpr z)
   have hne2:curW hs'≠[]:=fun z=>by
    obtain⟨r,R0⟩:=hR1;rw[z]at R0;exact Zho R0
   obtain⟨q,hq,eq⟩:=Zfm prD hne2;have h4:=Ra (f0:=f0) hq;have h5:=RG hq;refine⟨_,el,_,rfl,_,eq,?_⟩;refine⟨_,XN _ _,_,Fw _ _ (.inr rfl),by simp,?_⟩;refine⟨x,b1,b2,b3,a,f0,hs',_,rfl,rfl,rfl,by omega,hf',.inr ⟨.drop q.1 q.2,rfl,?_⟩⟩;have hk:=hf'.add (.drop q.1 q.2);rw[h4]at hk ⊢;refine⟨⟨_,rfl,?_,hk,?_⟩,?_⟩
   ·rw[CV,Y4,Wn];show _+(K9 (curW hs') q.1 q.2).length<=_;omega
   ·rw[RN];exact hc
   ·show P2 (UK f0 (hs'++[_]))<P2 (UK f0 hs');rw[DN,DN,CV];exact h5
  ·have hN:¬ ∃r,Ring (Ul (curF f0 hs')) (curW hs') r:=(EV hu).mp (YY fun z=>g (by rw[YH z];rfl));exact⟨_,_,rfl,rfl,⟨rfl,by simp⟩,rfl,hR hs' (by omega) hf' hN hc⟩
def Ms(G:Glob K mg)(DD:Pu.DefM K (Meth K (ExcR.JU mg "Village") "cost") "cost" "Village.cost" FE ["self"])(ZZ:CI P w K mg base)(Zb:K4 P w K mg base)(Zd:Pi P w K mg base)
  : IG P w K mg base:=by
 refine DD.oz (k:=6) Zb2 (fun _ _ _ _ _ _ E hr=>⟨_,(JQ (JT (fz ZZ hr (bz (UI Zb G.cl_Village (hr.mono (by decide)) UH (pv 0)) (UI Zd G.cl_Village (hr.mono (by decide)) UH (pv 0)))))), (JY (JZ (tz (Xh KB (JK 0) Um) (Xh Pt (JK 0) Um))))⟩) (.a fun ds R X h=>?_)
 ·obtain⟨bk,fs,ws,f,w,rfl,hF,hz,hw,hu,hN,hR⟩:=h;refine⟨rfl,?_⟩;exact⟨rfl,rfl,bk,fs,ws++[w],f,rfl,rfl,rfl,bk,fs++[f],ws,w,rfl,f,w,rfl,hF,hz,hw,hu,hN,hR⟩
def Zce(G:Glob K mg)(DD:Pu.DefM K (Meth K (ExcR.JU mg "Village") "moves") "moves" "Village.moves" FH ["self"])(Ya:Gh P w K mg base)(Zb:K4 P w K mg base)(Zm:NW P w K mg base)
  : Gw P w K mg base:=by
 refine DD.oz (k:=6) Zfa (fun _ _ _ _ _ _ E hr=>⟨_,(JQ (JT (fz Ya hr (bz (UI Zb G.cl_Village (hr.mono (by decide)) UH (pv 0)) (UI Zm G.cl_Village (hr.mono (by decide)) UH (pv 0)))))), (JY (JZ (tz (Xh KB (JK 0) Um) (Xh Bz (JK 0) Um))))⟩) (.a fun ds R X h=>?_)
 ·obtain⟨bk,fs,ws,f,w,rfl,hF,hz,hw,hu,hN,hR⟩:=h;refine⟨rfl,?_⟩;exact⟨rfl,rfl,bk,fs,ws++[w],f,rfl,rfl,rfl,bk,fs,ws,f,w,rfl,hF,by omega,hw,hu,hN,fun o hB=>⟨f,o,rfl,hF,hz,hB.perm,fun ms hm=>hR o ms hB hm⟩⟩
def Zf2(G:Glob K mg)(DD:Pu.DefM K (Meth K (ExcR.JU mg "Village") "melded") "melded" "Village.melded" F8 ["self"])(Yb:Hk P w K mg base)(Zb:K4 P w K mg base)(Zm:NW P w K mg base)
  : CT P w K mg base:=by
 refine DD.oz (k:=6) Zf7 (fun _ _ _ _ _ _ E hr=>⟨_,(JQ (JT (Xk Yb (hr.mono (by decide)) Tn (bz (UI Zb G.cl_Village (hr.mono (by decide)) UH (pv 0)) (UI Zm G.cl_Village (hr.mono (by decide)) UH (pv 0)))))), (JY (JZ (tz (Xh KB (JK 0) Um) (Xh Bz (JK 0) Um))))⟩) (.a fun ds R X h=>?_)
 ·obtain⟨bk,fs,ws,f,w,rfl,hF,hz,hw,hu,hN,hR⟩:=h;refine⟨rfl,?_⟩;refine⟨rfl,rfl,bk,fs,ws++[w],f,rfl,rfl,rfl,bk,fs,ws,f,w,rfl,hF,by omega,hw,hu,hN,fun o hB=>⟨f,o,rfl,hF,by omega,?_,?_⟩⟩
  ·have:=hB.perm.length_eq
   have:=KJ f
   omega
  ·rw[IB hB.perm];exact hR o hB
def Zgn(G:Glob K mg)(DD:Def K mg "law" Kw ["_law_script"])(Yc:CB P w K mg base)(Yd:D1 P w K mg base)(Ye:CY P w K mg base)(Yf:Co P w K mg base)(Yg:Ij P w K mg base)(Zm:NW P w K mg base)(Yh:Gw P w K mg base)(Yi:Ce P w K mg base)(Yj:ED P w K mg base)(Yk:G9 P w K mg base)(Yl:Dm P w K mg base)(Ym:Cp P w K mg base)(Zp:Hc P w K mg base)(Zo:FL P w K mg base)(Yn:GO P w K mg base)(Yo:Il P w K mg base)(Yp:EB P w K mg base)(Yq:CT P w K mg base)(Zc:Te P w K mg base)(Yr:GE P w K mg base)(Z0:BB P w K mg base)(Ys:IG P w K mg base)
  : Zb0 P w K mg base:=by
 refine DD.oz (k:=7) Km (fun _ _ _ _ _ _ E hr=>⟨_,(JO (Pu.pz 1 Km.nd (fz Yc hr (az (fz Yk hr (bz (pv 0) JM))))) (JO (Pu.pz 2 Km.nd (fz Yd hr (dz (pv 0) (pv 1) (JS Uw (JS UY (fz Zc hr (bz (pv 0) JM)) JM) JM)))) (JO (Pu.pz 3 Km.nd (RX Ye G.m_Village (hr.mono (by decide)) Tn (az (XX (T3 (K:=K)) (by rfl) G.list boot_list (az (pv 2)))))) (JO (Pu.pz 4 Km.nd (Uj (az (Ur (dz (pv 2) (Uj U0) (Ur U0)))))) (JO (UN YN rfl (U1 (K:=K) (fz Yf hr (bz (pv 0) (pv 1)))) (gz 5 Km.nd) (JQ (Ua (Xi (UC (K:=K) (fz Zo hr (dz (pv 3) (pv 4) (pv 5))))) (JQ (JT UG))
   Ub))) (JO (UN YN rfl (U1 (K:=K) (fz Yg hr (bz (pv 0) JM))) (gz 6 Km.nd) (JQ (Ua (Xi (UC (K:=K) (fz Zo hr (dz (pv 3) (pv 4) (fz Yr hr (dz (pv 6) (pv 1) (jx K (pv 4) (X1 Xx JM)))))))) (JQ (JT UG))
   Ub))) (JO (Ua (Xi (UC (K:=K) (fz Yl hr (bz (pv 3) (pv 4))))) (JQ (JT UG))
   Ub) (JO (Pu.pz 2 Km.nd (jx K (jx K (pv 4) (X1 Xx JM)) JM)) (JO (Pu.pz 7 Km.nd (UI Zm G.cl_Village (hr.mono (by decide)) UH (pv 3))) (JO (Ua (PW.pt (UL (Xi (UC (K:=K) (UZ (KI (K:=K)) (by rfl) G.isinstance WI (bz (pv 7) (KL (v:=.ty "list") rfl G.list boot_list rfl))))) (UU (Xi (UC (K:=K) (fz Zp hr (bz (UZ (NO (K:=K) (w:=w) rfl) (by rfl) G.sorted boot_sorted (az (pv 7))) (fz Z0 hr (az (pv 2)))))))))) (JQ (JT UG))
   Ub) (JO (Pu.pz 8 Km.nd (UI Yh G.cl_Village (hr.mono (by decide)) UH (pv 3))) (JO (Pu.pz 9 Km.nd (fz Yi hr (dz (pv 8) (pv 2) (pv 7)))) (JO (Ua (PW.pt (UL (Aa (Zgd (pv 9))) (UL (cn K hr (jx K (pv 9) JM) (fz Yn hr (bz (pv 2) (pv 7)))) (UU (Xi (UC (K:=K) (fz Yo hr (bz (pv 7) (jx K (jx K (pv 4) (X1 Xx JM)) JM))))))))) (JQ (JT UG))
   Ub) (JO (Ua (PW.pt (UL (cn K hr (ln K G.len (pv 8)) (fz Yp hr (bz (pv 2) (pv 7)))) (UU (Xi (UC (K:=K) (fz Zp hr (bz (Uj (az (UI Ys G.cl_Village (hr.mono (by decide)) UH (pv 3)))) (Uj (az (jx K (pv 9) JM)))))))))) (JQ (JT UG))
   Ub) (JO (Ua (Xi (UC (K:=K) (fz Ym hr (bz (UI Yq G.cl_Village (hr.mono (by decide)) UH (pv 3)) (Xg (N':=["_law_number","_law_strips"]) (φ:=[none,some 2]) rfl (Own.CompOk.of (by rfl)) (U1 (K:=K) (jx K (pv 9) JM)) (fun _ _ _ _ _=>⟨(gz 0 (show(["_law_number","_law_strips"]:List Str).Nodup from by decide +kernel)),X9,(jx K (pv 1) (JS U3 (pv 0) JM))⟩)))))) (JQ (JT UG))
   Ub) (JO (Pu.pz 10 Km.nd (Xk Yj (hr.mono (by decide)) Tn (bz (XX (T3 (K:=K)) (by rfl) G.list boot_list (az (pv 2))) (Xg (N':=["_law_move"]) (φ:=[none]) rfl (Own.CompOk.of (by rfl)) (U1 (K:=K) (pv 8)) (fun _ _ _ _ _=>⟨(gz 0 (show(["_law_move"]:List Str).Nodup from by decide +kernel)),X9,(jx K (pv 0) JM)⟩))))) (JO (Ua (PW.pt (UL (Xi (UC (K:=K) (UZ (KI (K:=K)) (by rfl) G.isinstance WI (bz (pv 10) (KL (v:=.ty "tuple") rfl G.tuple boot_tuple rfl))))) (UU (cn K hr (ln K G.len (pv 10)) JM)))) (JQ (JT UG))
   Ub) (JQ (JT (Nl (fz Zp hr (bz (jx K (pv 10) JM) (jx K (pv 9) JM))) (Nn (fz Zp hr (bz (Uj (az (jx K (pv 10) JM))) (Uj (az (jx K (pv 9) JM)))))))))))))))))))))))))), (JN (JW (JZ (sz (JZ (tz (JK 0) JL)))) (JR 1)) (JN (JW (JZ (uz (JK 0) (JK 1) (Ux (Xb (JZ (tz (JK 0) JL)) JL) JL))) (JR 2)) (JN (JW (Mp (sz (Tg (sz (JK 2))))) (JR 3)) (JN (Ud 2 (JW (Ui (sz (Us (uz (JK 2) (Ui Um) (Us Um))))) (JR 4))) (JN (N2 4 (UM [5] (X2 (JZ (tz (JK 0) (JK 1)))) (JR 5) (Ud 5 (N2 4 (Ss (SH (sv_w (S4 3 4 (by decide) (sz (JK 5))))) (JY UF) Uc))))) (JN (UM [6] (X2 (JZ (tz (JK 0) JL))) (JR 6) (N2 4 (Ss (SH (sv_w (S4 3 4 (by decide) (sz (JZ (uz (JK 6) (JK 1) (JP (JK 4) (Xw JL)))))))) (JY UF) Uc))) (JN (N2 4 (Ss (SH (sv_w (S4 3 4 (by decide) Um))) (JY UF) Uc)) (JN (JW (JP (JP (JK 4) (Xw JL)) JL) (JR 2)) (JN (JW (Xh Bz (JK 3) Um) (JR 7)) (JN (Ue (UP (Xr (UT (KE (tz (JK 7) KM)))) (Xr (UT (JZ (tz (NM (sz (JK 7))) (JZ (sz (JK 2)))))))) (JY UF) Uc) (JN (JW (Xh Zee (JK 3) Um) (JR 8)) (JN (JW (JZ (uz (JK 8) (JK 2) (JK 7))) (JR 9)) (JN (Ue (UP (st_b (LO (JK 9))) (UP (JX (XI (JP (JK 9) JL) (JZ (tz (JK 2) (JK 7))))) (Xr (UT (JZ (tz (JK 7) (JP (JP (JK 4) (Xw JL)) JL))))))) (JY UF) Uc) (JN (Ue (UP (JX (XI (Uy (sz (JK 8))) (JZ (tz (JK 2) (JK 7))))) (Xr (UT (JZ (tz (Ui (sz (Xh Zch (JK 3) Um))) (Ui (sz (JP (JK 9) JL)))))))) (JY UF) Uc) (JN (Ue (Xr (UT (JZ (tz (Xh Rt (JK 3) Um) (UD (Xm (JP (JK 9) JL)) (JR 0) XC (JP (JK 1) (U5 (JK 0) JL))))))) (JY UF) Uc) (JN (JW (JZ (tz (Tg (sz (JK 2))) (UD (Xm (JK 8)) (JR 0) XC (JP (JK 0) JL)))) (JR 10)) (JN (Ue (UP (Xr (UT (KE (tz (JK 10) KM)))) (JX (XI (Uy (sz (JK 10))) JL))) (JY UF) Uc) (JY (Np (JZ (tz (JP (JK 10) JL) (JP (JK 9) JL))) (JZ (tz (Ui (sz (JP (JK 10) JL))) (Ui (sz (JP (JK 9) JL))))))))))))))))))))))))⟩) (.a fun ds R X h=>?_)
 ·obtain⟨ns,rfl,hR⟩:=h;refine⟨rfl,?_⟩;refine⟨ns,0,rfl,by decide,fun c0=>⟨c0,rfl,fun m hM=>?_⟩⟩;refine⟨ns,0,rfl,by decide,⟨by decide,by decide⟩,(by show(0:Int)<41;decide),ns,m,_,rfl,hM,by omega,by omega,fun ps hF hlen=>?_⟩;have hz:ps.length<=40:=by omega
  refine⟨rfl,fun x=>⟨x,ps,rfl,rfl,by omega,?_⟩⟩;rw[Zdw hF hz];refine fun b1 b2 b3=>⟨rfl,?_⟩;refine⟨by simp,by simp,by simp,by simp,fun a=>?_⟩;refine⟨ns,m,rfl,hM,fun qs hq=>?_⟩;refine⟨rfl,Xv (xs:=qs) (emb:=fun q:Int×Int=>dD (Dd.wish q.1 q.2).q) (fun i γ'=>∃hs:Hist,hs.length<=i/\FineH ps hs/\γ'=[some (.bor (.scr ns)),some (.own (m.map D.int)),some (.sh (plD ps)),some (.own (vO (ExcR.JU mg "Village") x b1 b2 b3 (bkH hs) (fsH ps hs) (wsH hs))),some (.own (.lsA a (UK ps hs))),none,none,none,none,none,none]) ?_ ?_ ?_⟩
  ·exact⟨[],WA _,FineH.nil hF hz,rfl⟩
  ·rintro i γ' hi ⟨hs,h1,h2,rfl⟩;refine⟨x,b1,b2,b3,a,ps,hs,_,rfl,rfl,rfl,by omega,h2,.inr ⟨.wish qs[i].1 qs[i].2,rfl,?_⟩⟩;refine iteF ?_;exact⟨addH ps hs (.wish qs[i].1 qs[i].2),by have:=Ci ps hs (.wish qs[i].1 qs[i].2);omega,h2.add _,rfl⟩
  rintro γ' ⟨hs,h1,h2,rfl⟩;refine⟨ns,12,rfl,by decide,by decide,fun cs hc=>?_⟩;refine⟨rfl,Xv (xs:=cs) (emb:=D.int) (fun i γ'=>∃hs:Hist,hs.length<=24+i/\FineH ps hs/\γ'=[some (.bor (.scr ns)),some (.own (m.map D.int)),some (.sh (plD ps)),some (.own (vO (ExcR.JU mg "Village") x b1 b2 b3 (bkH hs) (fsH ps hs) (wsH hs))),some (.own (.lsA a (UK ps hs))),none,none,none,none,none,none]) ?_ ?_ ?_⟩
  ·exact⟨hs,by omega,h2,rfl⟩
  ·rintro i γ' hi ⟨hs,h1,h2,rfl⟩;obtain⟨⟨c1,c2⟩,c3⟩:=h2.cur;obtain⟨dl,el⟩:=NI ps hs;refine⟨_,el,_,m,curF ps hs,curW hs,[dl],rfl,hM,by omega,c1,by have:=c3.1;omega,fun d=>?_,?_⟩
   ·refine⟨x,b1,b2,b3,a,ps,hs,_,rfl,rfl,rfl,by omega,h2,.inr ⟨d,rfl,?_⟩⟩;have la:=Ci ps hs d;exact⟨addH ps hs d,by omega,h2.add d,rfl⟩
   ·refine⟨x,b1,b2,b3,a,ps,hs,_,rfl,rfl,rfl,by omega,h2,.inl ⟨rfl,?_⟩⟩;have la:hs.dropLast.length<=hs.length:=by rw[List.length_dropLast];omega
    exact⟨hs.dropLast,by omega,h2.back,rfl⟩
  rintro γ' ⟨hs,h1,h2,rfl⟩;refine⟨x,b1,b2,b3,a,ps,hs,rfl,rfl,rfl,by omega,h2,fun hs h1' h2 hN _=>?_⟩;clear h1' h1 hc;obtain⟨⟨c1,c2⟩,c3⟩:=h2.cur;obtain⟨dl,el⟩:=NI ps hs;obtain⟨fs,ef,lf⟩:=Ah ps hs;obtain⟨ws,ew,lw⟩:=Bc hs;have hu:∀q∈curW hs,q.1≠q.2:=fun q hq=>(c3.2.2 q hq).2;have hw:=c3.1;have ev:vilD (ExcR.JU mg "Village") (bkH hs) (fsH ps hs) (wsH hs)=vilD (ExcR.JU mg "Village") (bkH hs) (fs++[curF ps hs]) (ws++[curW hs]):=by rw[←ef,←ew]
  generalize curF ps hs=f at *;generalize curW hs=W at *;have hh:=KJ f;refine⟨_,el,_,rfl,?_⟩;refine⟨rfl,rfl,bkH hs,fs,ws,f,W,by rw[←ev];rfl,c1,by omega,by omega,hu,hN,fun o hB=>?_⟩;have hol:=hB.perm.length_eq;refine⟨true,.same _,iteF ⟨o,rfl,by omega,fun ss hp hs'=>?_⟩⟩;have es:=HK hB.perm hp hs';subst es;refine⟨f,rfl,by omega,Ul f,rfl,by omega,iteF ?_⟩;refine⟨rfl,rfl,bkH hs,fs,ws,f,W,by rw[←ev];rfl,c1,by omega,by omega,hu,hN,fun o' ms hB' hMv=>?_⟩;obtain rfl:=Pu.Best.uniq hB' hB;have hin:=GV c1 hB.perm;have nd:o'.Nodup:=hB.perm.symm.nodup ((KQ f).imp fun h=>QK h);have cn:=hMv.count
  have lms:(ms.length:Int)<=780:=by
   have h2:=Hf (rkN f o') (runI 1 f.length);rw[Pb]at h2;have h3:=Oi f.length (by omega);omega
  have lmm:(ms.map mvD).length=ms.length:=Yu ..;refine⟨f,o',ms,rfl,c1,by omega,hin,hMv,by omega,fun st c hwk hpm fw hst hinv=>?_⟩;obtain⟨g1,g2⟩:=Zbx nd hin;have est:st=endsN f o':=GZ (hpm.trans g1.symm) (Mm fw hst) g2;have lst:st.length=f.length:=by rw[hpm.length_eq,Pb]
  have hol':o'.length<=10:=by omega
  have e10:[D.int c,D.lst (st.map D.int)].length=2:=rfl;refine⟨_,rfl,f,o',rfl,by omega,by omega,_,_,rfl,rfl,?_⟩;have g0:decide (st=endsN f o')=true:=Yy est;refine ite2 (fun g=>absurd g (by show ¬(!decide (st=endsN f o'))=true;rw[g0];decide)) (fun _=>?_);refine⟨_,el,_,rfl,o',W,rfl,(fun _=>?_),fun⟨q,hq,hb⟩=>by rw[Zdf hB.keeps q hq]at hb;cases hb⟩;refine iteF ?_;refine⟨f,o',rfl,by omega,hin,P7 (by rw[lmm];exact cn) ?_⟩;have epri:=OB c1 hB.perm;have hL:Least W (pcc f) (Ul f) (priM f o' f.length):=by rw[←epri];exact⟨⟨o',hB.perm,hB.keeps,rfl⟩,hB.le⟩
  have ec:priM f o' f.length=c:=by rw[Lg];exact(Wj invL (Zfh f o').symm).trans hinv
  rw[ec]at hL;have eg:Kx f o'=fldN f st:=by rw[est];exact Zfw f o'
  refine⟨rfl,rfl,bkH hs,fs,ws,f,W,by rw[←ev];rfl,c1,by omega,by omega,hu,hN,fun v hv=>?_⟩;obtain rfl:=hv.uniq hL;refine⟨by simp,_,rfl,by simp,[v],rfl,by simp,iteF ?_⟩;refine⟨rfl,rfl,bkH hs,fs,ws,f,W,by rw[←ev];rfl,c1,by omega,by omega,hu,hN,fun o2 hB2=>?_⟩;obtain rfl:=Pu.Best.uniq hB2 hB;rw[eg];have lfl:(fldN f st).length=st.length:=Yu ..;refine⟨_,rfl,UV (xs:=st) (emb:=D.int) (fun z=>some (prD (f.getD (z-1).toNat (0,0)))) (by omega) (fun z hz'=>?_) ?_⟩
  ·have hb:=runI_mem.mp (hpm.mem_iff.mp hz');have hi:(z-1).toNat<f.length:=by omega
   have e:f.getD (z-1).toNat (0,0)=f[(z-1).toNat]:=by rw[Yw,Yt hi];rfl
   exact⟨_,Xs (f:=prD) (xs:=f) (by omega) (by omega),_,rfl,by rw[e]⟩
  rw[mapD (fun z:Int=>prD (f.getD (z-1).toNat (0,0)))];have efl:st.map (fun z:Int=>prD (f.getD (z-1).toNat (0,0)))=(fldN f st).map prD:=by unfold fldN;rw[YZ];rfl
  rw[efl];refine⟨fldN f st,rfl,by omega,iteF ?_⟩;refine⟨rfl,UV (xs:=ms) (emb:=mvD) (fun q=>some (.int q.1)) (by omega) (fun q hq=>⟨_,rfl,_,rfl,rfl⟩) ?_⟩;rw[mapD (fun q:Mo=>D.int q.1)];have ep:ms.map (fun q:Mo=>D.int q.1)=(ms.map (·.1)).map D.int:=by rw[YZ];rfl
  rw[ep];refine⟨f,_,rfl,c1,by omega,by rw[Yu];omega,?_⟩;rw[hwk];refine⟨true,.same _,iteF ?_⟩;refine⟨_,rfl,_,rfl,st,rfl,by omega,?_⟩;exact⟨_,rfl,by simp,_,rfl,by simp,[v],rfl,by simp,hR⟩
end
end T
namespace T
open PySem PySem.Spec PyProof.Rows L2 Own M
def Rq{l:PySem.W.OpenLaw}{w:World}{K:Za}{h:Heap}{mg:Str->Option Value}{fa:Addr}(X:K.In h)(G0:h.Ns mainGlobals mg)(hfa:mg "law"=some (.ref fa)){VF:Addr}(VH:PySem.W.nsIn K mainGlobals "Village"=some (some (.ref VF)))(VZ:PySem.W.plainGet K VF Str.empty=true)(Ja:PySem.W.hasDictIn K VF=true)(Jb:PySem.W.plainOver K VF=true)(Jc:PySem.W.findIn K (.ref VF) "__setattr__"=some (some (.builtin "object.__setattr__")))(Jd:PySem.W.makesIn K VF=true)(Je:PySem.W.keepIn K (.ref VF)=true)(Jf:PySem.W.findIn K (.ref VF) "book"=some none)(Jg:PySem.W.findIn K (.ref VF) "fields"=some none)(Jh:PySem.W.findIn K (.ref VF) "wished"=some none)(a0:Pu.DI K "check_holder" AH)(a1:Pu.DI K "check_width" F2)(a2:Pu.DI K "check_strips" Br)(a3:Pu.DI K "holders_of" AQ)(a4:Pu.DI K "check_order" A0)(a5:Pu.DI K "gathered" Fi)(a6:Pu.DI K "pair_cost" Av)(a7:Pu.DI K "own_numbers" B8)(a8:Pu.DI K "exchange_cost" BL)(a9:Pu.DI K "exchanged" Fc)(a10:Pu.DI K "first_wrong_place" BN)(a11:Pu.DI K "told_moves" BJ)(a12:Pu.DI K "check_neighbours" SW)(a13:Pu.DI K "walk_places" Ag)(a14:Pu.DI K "longer_paths" BP)(a15:Pu.DI K "ring_from" Fp)(a16:Pu.DI K "find_ring" AX)(a17:Pu.DI K "check_no_ring" Bb)(a18:Pu.DI K "check_place" As)(a19:Pu.DI K "sold" Aj)(a20:Pu.DI K "parted" FV)(a21:Pu.DI K "united" FY)(a22:Pu.DI K "with_wish" F4)(a23:Pu.DI K "without_wish" BX)(a24:Pu.DI K "pair_costs" AN)(a25:Pu.DI K "sets_of" FU)(a26:Pu.DI K "without" Bk)(a27:Pu.DI K "may_lie_last" Az)(a28:Pu.DI K "may_lie_first" Fg)(a29:Pu.DI K "cost_with_last" Ai)(a30:Pu.DI K "cost_with_first" Bh)(a31:Pu.DI K "least_costs" Bf)(a32:Pu.DI K "cost_table" FF)(a33:Pu.DI K "best_order" FT)(a34:Pu.DI K "least_cost" Bu)(a35:Pu.MI K VF "__init__" "Village.__init__" Fm)(a36:Pu.MI K VF "strips" "Village.strips" Fq)(a37:Pu.MI K VF "wishes" "Village.wishes" BH)(a38:Pu.MI K VF "check_room" "Village.check_room" SS)(a39:Pu.MI K VF "enter" "Village.enter" BW)(a40:Pu.MI K VF "sell" "Village.sell" AU)(a41:Pu.MI K VF "part" "Village.part" A1)(a42:Pu.MI K VF "unite" "Village.unite" A4)(a43:Pu.MI K VF "wish" "Village.wish" FJ)(a44:Pu.MI K VF "drop" "Village.drop" AR)(a45:Pu.MI K VF "take_back" "Village.take_back" SM)(a46:Pu.MI K VF "order" "Village.order" FR)(a47:Pu.MI K VF "cost" "Village.cost" FE)(a48:Pu.MI K VF "moves" "Village.moves" FH)(a49:Pu.MI K VF "melded" "Village.melded" F8)(a50:Pu.DI K "_law_at" Fb)(a51:Pu.DI K "_law_whole" Ba)(a52:Pu.DI K "_law_mix" A6)(a53:Pu.DI K "_law_draw" FN)(a54:Pu.DI K "_law_menu" BS)(a55:Pu.DI K "_law_holder" AF)(a56:Pu.DI K "_law_row" Ft)(a57:Pu.DI K "_law_tuples" B0)(a58:Pu.DI K "_law_present" Fx)(a59:Pu.DI K "_law_kept" F7)(a60:Pu.DI K "_law_no_ring" Ae)(a61:Pu.DI K "_law_ends" By)(a62:Pu.DI K "_law_turned" AD)(a63:Pu.DI K "_law_no_rings" A3)(a64:Pu.DI K "_law_good_move" B3)(a65:Pu.DI K "_law_walked" FO)(a66:Pu.DI K "_law_field_step" FD)(a67:Pu.DI K "_law_wish_step" Bv)(a68:Pu.DI K "_law_step" AA)(a69:Pu.DI K "_law_call" BR)(a70:Pu.DI K "_law_go" BZ)(a71:Pu.DI K "_law_start" Ax)(a72:Pu.DI K "_law_days" BU)(a73:Pu.DI K "_law_odd" BI)(a74:Pu.DI K "_law_place" AB)(a75:Pu.DI K "_law_pair" BV)(a76:Pu.DI K "_law_opening" BA)(a77:Pu.DI K "_law_width" Ab)(a78:Pu.DI K "_law_deed" AV){f79:Addr}{od79 an79:Option Addr}{sl79:Array (Option Value)}{oc79 kV79 dc79 pm79 cd79 ct79:Value}(a79:PySem.W.nsIn K mainGlobals "law"=some (some (.ref f79)))(l79:K.lookup f79=some ⟨oc79,od79,.func (PySem.W.fnOf "law" "law" (Kl Kw) (Xl Kw) (JV Kw) .none kV79 dc79 pm79 an79 cd79 ct79),sl79⟩)(c79:PySem.W.codeIn K cd79 "law"=true)(k79:PySem.W.keepIn K (.ref f79)=true)(Ji:PySem.W.nsIn K mainGlobals "any"=some none)(Jj:PySem.W.nsIn K mainGlobals "bool"=some none)(Jk:PySem.W.nsIn K mainGlobals "int"=some none)(Jl:PySem.W.nsIn K mainGlobals "isinstance"=some none)(Jm:PySem.W.nsIn K mainGlobals "len"=some none)(Jn:PySem.W.nsIn K mainGlobals "list"=some none)(Jo:PySem.W.nsIn K mainGlobals "max"=some none)(Jp:PySem.W.nsIn K mainGlobals "min"=some none)(Jq:PySem.W.nsIn K mainGlobals "range"=some none)(Jr:PySem.W.nsIn K mainGlobals "set"=some none)(Js:PySem.W.nsIn K mainGlobals "sorted"=some none)(Jt:PySem.W.nsIn K mainGlobals "sum"=some none)(Ju:PySem.W.nsIn K mainGlobals "tuple"=some none){J0:Tok}(Jv:PySem.W.nsIn K mainGlobals "HOLDERS"=some (some (.int 10 J0))){J1:Tok}(Jw:PySem.W.nsIn K mainGlobals "STRIPS"=some (some (.int 40 J1))){J2:Tok}(Jx:PySem.W.nsIn K mainGlobals "WIDEST"=some (some (.int 1000 J2))){J3:Tok}(Jy:PySem.W.nsIn K mainGlobals "MOST_WISHES"=some (some (.int 20 J3))){J4:Tok}(Jz:PySem.W.nsIn K mainGlobals "MOST_DEEDS"=some (some (.int 100 J4))){J5:Addr}(VI:Pu.EI K "TooManyStrips" J5){J6:Addr}(VJ:Pu.EI K "BadHolder" J6){J7:Addr}(VL:Pu.EI K "BadWidth" J7){J8:Addr}(VM:Pu.EI K "NoStrip" J8){J9:Addr}(VN:Pu.EI K "BadOrder" J9){JA:Addr}(VO:Pu.EI K "OwnStrip" JA){JB:Addr}(VP:Pu.EI K "BadPart" JB){JC:Addr}(VQ:Pu.EI K "UnlikeHolders" JC){JD:Addr}(VR:Pu.EI K "TooWide" JD){JE:Addr}(VS:Pu.EI K "LikeHolders" JE){JF:Addr}(VT:Pu.EI K "WishStands" JF){JG:Addr}(VU:Pu.EI K "TooManyWishes" JG){JH:Addr}(VW:Pu.EI K "NoWish" JH){JI:Addr}(VX:Pu.EI K "BookFull" JI){JJ:Addr}(VY:Pu.EI K "NothingDone" JJ)
  : ∃fd:FuncData,(∀(s:Shared) (v:Value),BindsTo s fd ⟨[v],[]⟩ [("_law_script",v)])/\∀base:Heap,K.In base->base.Ns mainGlobals mg->FnOk l.prog w K mg base CX0 8 fa fd ["_law_script"] (Pu.FG K):=by
 have e:=hfa.symm.trans (W5 X G0 a79);cases e
 have VG:=ExcR.GR (W5 X G0 VH);have G:Glob K mg:=⟨Wm X G0 Ji,Wm X G0 Jj,Wm X G0 Jk,Wm X G0 Jl,Wm X G0 Jm,Wm X G0 Jn,Wm X G0 Jo,Wm X G0 Jp,Wm X G0 Jq,Wm X G0 Jr,Wm X G0 Js,Wm X G0 Jt,Wm X G0 Ju,⟨_,W5 X G0 Jv,⟨_,rfl⟩⟩,⟨_,W5 X G0 Jw,⟨_,rfl⟩⟩,⟨_,W5 X G0 Jx,⟨_,rfl⟩⟩,⟨_,W5 X G0 Jy,⟨_,rfl⟩⟩,⟨_,W5 X G0 Jz,⟨_,rfl⟩⟩,(VI.m X G0),(VI.k X G0),(VJ.m X G0),(VJ.k X G0),(VL.m X G0),(VL.k X G0),(VM.m X G0),(VM.k X G0),(VN.m X G0),(VN.k X G0),(VO.m X G0),(VO.k X G0),(VP.m X G0),(VP.k X G0),(VQ.m X G0),(VQ.k X G0),(VR.m X G0),(VR.k X G0),(VS.m X G0),(VS.k X G0),(VT.m X G0),(VT.k X G0),(VU.m X G0),(VU.k X G0),(VW.m X G0),(VW.k X G0),(VX.m X G0),(VX.k X G0),(VY.m X G0),(VY.k X G0),(by rw[VG];exact W5 X G0 VH),(by rw[VG];exact⟨VZ,Ja,Jb,Jc⟩),(by rw[VG];exact Jf),(by rw[VG];exact Jg),(by rw[VG];exact Jh)⟩;have F79:=Am (st:=Kw) l79 c79 k79;have b79:=F79.binds (ps:=["_law_script"]) fun _ _ _ _ _ _ us hl=>by obtain⟨_,rfl⟩:=Pu.len1 hl;rfl
 have D79:Def K mg "law" Kw ["_law_script"]:=⟨_,_,F79,W5 X G0 a79,b79⟩;refine⟨PySem.W.fnOf "law" "law" (Kl Kw) (Xl Kw) (JV Kw) .none kV79 dc79 pm79 an79 cd79 ct79,fun s v=>.of_eq rfl,fun base _ _=>?_⟩;have C0:=@Zg1 l.prog w K mg base G (a0.e X G0);have C1:=@Zbe l.prog w K mg base G (a1.e X G0);have C3:=@IL l.prog w K mg base G (a3.e X G0);have C6:=@Le l.prog w K mg base G (a6.e X G0);have C7:=@Za3 l.prog w K mg base G (a7.e X G0);have C8:=@Rc l.prog w K mg base G (a8.e X G0);have C9:=@Zfx l.prog w K mg base G (a9.e X G0);have C10:=@Rb l.prog w K mg base G (a10.e X G0);have C12:=@M4 l.prog w K mg base G (a12.e X G0);have C14:=@Zbg l.prog w K mg base G (a14.e X G0);have C18:=@RE l.prog w K mg base G (a18.e X G0);have C23:=@Zb3 l.prog w K mg base G (a23.e X G0);have C25:=@M5 l.prog w K mg base G (a25.e X G0);have C26:=@Zad l.prog w K mg base G (a26.e X G0);have C27:=@MA l.prog w K mg base G (a27.e X G0);have C28:=@Zac l.prog w K mg base G (a28.e X G0);have C36:=@Ls l.prog w K mg base G (a36.e VG);have C37:=@Zgl l.prog w K mg base G (a37.e VG);have C38:=@Zgt l.prog w K mg base G (a38.e VG);have C39:=@Zcm l.prog w K mg base G (a39.e VG);have C45:=@Zgw l.prog w K mg base G (a45.e VG);have C50:=@Zcg l.prog w K mg base G (a50.e X G0);have C51:=@Zhq l.prog w K mg base G (a51.e X G0);have C52:=@Ml l.prog w K mg base G (a52.e X G0);have C54:=@Zea l.prog w K mg base G (a54.e X G0);have C55:=@OI l.prog w K mg base G (a55.e X G0);have C58:=@Za0 l.prog w K mg base G (a58.e X G0);have C59:=@OL l.prog w K mg base G (a59.e X G0);have C60:=@OY l.prog w K mg base G (a60.e X G0);have C61:=@O1 l.prog w K mg base G (a61.e X G0);have C62:=@Zcc l.prog w K mg base G (a62.e X G0);have C66:=@LU l.prog w K mg base G (a66.e X G0);have C67:=@Zcp l.prog w K mg base G (a67.e X G0);have C73:=@IZ l.prog w K mg base G (a73.e X G0);have C74:=@Od l.prog w K mg base G (a74.e X G0);have C77:=@Zgu l.prog w K mg base G (a77.e X G0);have C2:=@Ze0 l.prog w K mg base G (a2.e X G0) C0 C1;have C4:=@Zct l.prog w K mg base G (a4.e X G0) (Nk C3);have C13:=@Zem l.prog w K mg base G (a13.e X G0) C7 C12 C8 C9;have C15:=@MT l.prog w K mg base G (a15.e X G0) C14;have C19:=@LF l.prog w K mg base G (a19.e X G0) C18 C0;have C20:=@Ze8 l.prog w K mg base G (a20.e X G0) C18;have C21:=@Rh l.prog w K mg base G (a21.e X G0) C12;have C22:=@Zb5 l.prog w K mg base G (a22.e X G0) C0;have C24:=@Zdk l.prog w K mg base G (a24.e X G0) (Nk C3) C6;have C29:=@Zgo l.prog w K mg base G (a29.e X G0) C26;have C30:=@Ou l.prog w K mg base G (a30.e X G0) C26;have C44:=@RP l.prog w K mg base G (a44.e VG) C38 C23 C39 C37 C36;have C53:=@Ob l.prog w K mg base G (a53.e X G0) C52 C50;have C56:=@II l.prog w K mg base G (a56.e X G0) C51;have C57:=@O2 l.prog w K mg base G (a57.e X G0) C51;have C64:=@MD l.prog w K mg base G (a64.e X G0) C51;have C68:=@Og l.prog w K mg base G (a68.e X G0) C66 C67;have C71:=@R8 l.prog w K mg base G (a71.e X G0) C50 C52 C55;have C72:=@O9 l.prog w K mg base G (a72.e X G0) C52 C50;have C75:=@Zci l.prog w K mg base G (a75.e X G0) C73 C55;have C5:=@MO l.prog w K mg base G (a5.e X G0) C4;have C11:=@Zg7 l.prog w K mg base G (a11.e X G0) C4 C7 C10 C9 C8;have C16:=@Zde l.prog w K mg base G (a16.e X G0) C15;have C31:=@RY l.prog w K mg base G (a31.e X G0) C25 (Nk C3) C27 C29;have C35:=@My l.prog w K mg base G (a35.j VG Jd Je) C2;have C40:=@Zeg l.prog w K mg base G (a40.e VG) C38 C19 C39 C36 C37;have C41:=@RU l.prog w K mg base G (a41.e VG) C38 C20 C39 C36 C37;have C42:=@Om l.prog w K mg base G (a42.e VG) C38 C21 C39 C36 C37;have C43:=@L0 l.prog w K mg base G (a43.e VG) C38 C22 C39 C37 C36;have C65:=@Za6 l.prog w K mg base G (a65.e X G0) C64;have C76:=@Zae l.prog w K mg base G (a76.e X G0) C52 C50 C75 C55;have C78:=@OP l.prog w K mg base G (a78.e X G0) C74 C75 C73 C77 C55;have C17:=@Zfe l.prog w K mg base G (a17.e X G0) C16 (Nk C3);have C69:=@RJ l.prog w K mg base G (a69.e X G0) C44 C40 C41 C42 C43;have C32:=@MY l.prog w K mg base G (a32.e X G0) C17 C31 C24;have C33:=@Rm l.prog w K mg base G (a33.e X G0) C17 C24 C31 (Nk C3) C26 C28 C30
 have C70:=@M2 l.prog w K mg base G (a70.e X G0) C68 C69 C51 C45;have C34:=@Rk l.prog w K mg base G (a34.e X G0) C32;have C46:=@Rx l.prog w K mg base G (a46.e VG) C33 C36 C37;have C63:=@Zan l.prog w K mg base G (a63.e X G0) C60 C58 C70;have C47:=@Ms l.prog w K mg base G (a47.e VG) C34 C36 C37;have C48:=@Zce l.prog w K mg base G (a48.e VG) C11 C36 C46;have C49:=@Zf2 l.prog w K mg base G (a49.e VG) C5 C36 C46;have C79:=@Zgn l.prog w K mg base G D79 C54 C71 C35 C76 C72 C46 C48 C65 C13 C53 C63 C57 C56 C70 C61 C59 C62 C49 C50 C78 C58 C47;exact(C79.at (W5 X G0 a79) F79 D79).imp fun _ _ _ _ z=>Pu.Mc z
end T
structure PySem.W.Fast:Prop where (tw14534880900188714203 tw17511987053214806016 tw18145640230994691072 tw3290809576555509888 tw15614170961241285888 tw7921423229824997664 tw5189783274897985824 tw6150040593348818208 tw18329445914644393280 tw14753743213861502272 tw1444042309718808928 tw8105554823924163936 tw14642851547248143712 tw1948276755779567968 tw15800839121676000672 tw18428622321423112640 tw3690673051452664320 tw9740051724903391776 tw3080916378409347680 tw15424046111073352288 tw13699275943721348896 tw5746541307162902336 tw16157504624294444864 tw12993711110281062208 tw9846414646083852128 tw5190096627332211584 tw11991425922055960448 tw7867191278319166368 tw9792800013833974720 tw11727842820587964352 tw3852056683627796513 tw5972235018909696065 tw15750447612309754977 tw12973024200870667425 tw5413761466049446049 tw3016491202073021601 tw7211492077997163777 tw14905772900560788737 tw2914520522548805921 tw12020113841912244513 tw5765424158209344833 tw3191014358684340545 tw8459016974314185025 tw9711906236223936833 tw8011879399889724801 tw16010053134460122529 tw18364898501961337281 tw10077365196892884417 tw2953690033964518881 tw15411033451760204257 tw14997489660434282977 tw7921843222825444865 tw16585242069724747265 tw16678335857970460353 tw7578753940303711969 tw8244223533858180833 tw17115906887230903009 tw11228499173694708481 tw11101973941906252545 tw1611682680386260769 tw10190433311155051297 tw10413764832244667201 tw16506607513363281761 tw3654022836354793441 tw15045989388733150210 tw6195470961178768450 tw6380504999607374946 tw9104931088975546466 tw6680758784217407586 tw17795166827021814914 tw1912044449658140898 tw10035861906521292034 tw3135736836239466818 tw7904492985064252834 tw2543233062778436002 tw129471998841955874 tw17572311068173242978 tw12957314638640540258 tw12460932758313898658 tw16965509363639228066 tw1716785677041773282 tw3995139112368271074 tw718088524797192034 tw2838828527893319618 tw7149967030519767075 tw4815717443799018531 tw9751927137689962595 tw4574891679640442083 tw5146182217822795011 tw10123602827198718243 tw3261020132109739299 tw13187122230755734979 tw5184954013828640195 tw9424399898425640419 tw853597140271155715 tw14761582955214321187 tw3447692132343227075 tw17712557878737845955 tw2245487216878781155 tw1519611595888591587 tw7627029108120239843 tw10682697067043288835 tw901438884701047587 tw16682842589315704611 tw7994544104755932995 tw13377277717311209443 tw8081931571546609668 tw7685205473056611332 tw8517015107499198500 tw2534112485486361636 tw9749164616198914116 tw5245181226713205828 tw10217205529258815620 tw18178476720676006212 tw7348175180253237604 tw1644231747642137988 tw109360371837622692 tw1058330859043765700 tw11734630198882432452 tw96065983646966244 tw13482361346903784932 tw4947574937443251748 tw7237930607038241348 tw7634388158801499748 tw12454988229323858596 tw6366971210237932196 tw108274381247375044 tw10143120276570590948 tw3701631685874898692 tw3180541094773422884 tw16780863650080278340 tw10574788039540994884 tw11088475886580560740 tw16504783572922197892 tw12312425429881919396 tw4273160426174060452 tw14077734952167330724 tw17635597185363551172 tw3364137796837781444 tw17471743539044376516 tw12599454120382967780 tw1360196939456690181 tw18419143206745297925 tw12071799298378061893 tw7468302625971134661 tw14147912076313101573 tw17062321076691220741 tw6462354220773802309 tw15841300993185624421 tw8260363931832158629 tw9790497052425482693 tw5301087605530047973 tw14478981561123849701 tw4591418899752766949 tw7261785074541276709 tw1818778697555293733 tw6810212822488373797 tw10200989674922608261 tw13941733403705525925 tw15376001544429897413 tw18373481904206293701 tw16541645143780555493 tw11568647524087816997 tw9169871123169830693 tw7615906986847234853 tw7361973558916830021 tw707260809244995461 tw79978998568053669 tw4517609987289907109 tw9880998572813132741 tw16435774297418618853 tw2495054548244835334 tw18102589834716218438 tw7380006070472406086 tw12843418885185348710 tw14641422466242693222 tw7349906804273390726 tw10214124659327555718 tw15279900710831708326 tw18156395491717973190 tw11328816676048792774 tw7812811679672233158 tw51758412936310982 tw10820426276941900006 tw10679164807302753510 tw16618026674935947526 tw12490847383477699878 tw6162213877496650054 tw1534472130257084742 tw2913088631844351334 tw5750174764098696550 tw3406591009911243142 tw6877711054591487366 tw4318361569597404614 tw11267803439480176070 tw10419584523209121254 tw10908874300509343238 tw1151942492657380870 tw14621918941371368998 tw3041767293011367462 tw14399684953826315814 tw14041312525340345958 tw16463879266782006886 tw4593259922744138342 tw13842083440232409734 tw15349531459707673286 tw3603869289838062278 tw14424798160065939142 tw15185092538956784358 tw17321981372498209510 tw12778122528946410246 tw13133807439437654790 tw2727083456873405222 tw722848485937569606 tw11013438060855201638 tw5255267050791311206 tw5933672300152501094 tw670166610865808230 tw8185402757537366950 tw2175911694357011366 tw2715718421672808358 tw8431102168063143846 tw6408525482625685446 tw12336304645156415462 tw1554160285438453734 tw5609559211935185894 tw4688729057678777318 tw2458703458172597255 tw7871746308079124519 tw17082400811980626983 tw6407338128460601383 tw12034510059380071495 tw7173810068047986791 tw845951551182446727 tw4759687659952061575 tw7947648963745071239 tw7090138172503933063 tw4301600109231719559 tw268994394738338983 tw13285339889845388487 tw3769858726382650599 tw4988156337305216263 tw4379671554575091015 tw12008683726283675015 tw7650495210166003079 tw15295381239863419335 tw9654841563011427783 tw6100675702877052391 tw18396519069785882087 tw14350221420132706855 tw5736912132837351015 tw14314710197864502919 tw10815534144511536775 tw3746080590896305831 tw11458094733656242855 tw17510001529170138919 tw9524631909541989159 tw2223050487102914439 tw10073186310455428039 tw12227706966459408359 tw10944972438319337544 tw14504101477078475848 tw6214295424656799816 tw2723332899415326856 tw1979161318195529864 tw2742490216175026312 tw17050545989893069032 tw13680762611560620264 tw8173294529399105768 tw11787280640071316744 tw4680195495556619592 tw16603808184580499816 tw3669326075304996200 tw10973904393894003080 tw18158617276070446472 tw13880536108780750248 tw6700482534523853256 tw5792509505229606408 tw7140762806470154792 tw15239453965974944296 tw8305096192691745384 tw2076803129173455464 tw15789205602207861416 tw14019877015535236904 tw3237195522690085672 tw4486204106047845160 tw13609310175784162120 tw2225035086255006568 tw5690290981969578856 tw4464701757313184616 tw8161118146458482536 tw12419681044331995016 tw423519075875821480 tw7286326810028402600 tw7994375883724929992 tw11808002530861002728 tw9130611421225454601 tw13608236942090387465 tw18375834440482186249 tw11651101718295402569 tw14779139120882597001 tw5362796210009368713 tw6650497661881482377 tw6476972314380500169 tw6066574758777959657 tw12677162185911425257 tw3345744040558526761 tw15259874738444715305 tw16875166899837176169 tw13392868347572813161 tw8340541133944817033 tw5779213943479162249 tw39923281982316937 tw9304705482589209097 tw3185171007095564809 tw14217913025517053513 tw12597317905960793737 tw9909001753220913897 tw4131127993481766633 tw13307176015755731689 tw11862148792923612905 tw1397532445558303465 tw13761576885175074569 tw5862529667604954889 tw16595233260068603689 tw15939394849751715625 tw16629380683028725545 tw15541775387549015881 tw14525162436556718057 tw7079092599605049386 tw1346847808689406058 tw9313322121514991722 tw4329717445623941354 tw2496093890676200682 tw4873167629017831658 tw6028580101180335370 tw2745296650847345994 tw9214925656415769962 tw16065776111992283530 tw16501601743433590154 tw2569201513387035050 tw3379722956428292586 tw2932245913104924138 tw1795640302513763882 tw4733438453244268234 tw3153209535877422858 tw773567487088476970 tw17702113918265745258 tw7275850848841359242 tw15698133438904975274 tw6086511636377548811 tw357519141460758667 tw9123364037113841899 tw3698600004202836235 tw10180705099204326667 tw16372844474699454763 tw16374879866557296971 tw2796287321279531371 tw17457369119573479787 tw12731443827868555627 tw4530161339037080939 tw15022390487952057707 tw1319601472315357643 tw6780518956397317643 tw3435173972485164587 tw4397252993984141899 tw12631075224685445739 tw10987143359005236843 tw6811129849039105643 tw12540968916654087819 tw15152874627305673387 tw2224596971061842603 tw15908025737277664939 tw5351745480871711435 tw16113334477889562315 tw14516162391198621419 tw13891923904215170891 tw3533631169298688843 tw9125304702255768427 tw4949600350537395147 tw4094440746442635211 tw16705593148929994699 tw9873662207433833419 tw11937659239691665387 tw12087317491859675115 tw6298895101946522668 tw3618494521315874956 tw4846598768589471916 tw7734319508515156140 tw4565857067358950636 tw14657041742363067660 tw10294530698582629708 tw12767643613485044076 tw8405502939071396204 tw11291463575025130924 tw15235061707161641388 tw13427379956313084364 tw8497648843861975500 tw1155493564304951788 tw1428621171972059692 tw5178140363699277420 tw3240293292122479244 tw17268837016560432812 tw10215040184151756620 tw7725967378260478828 tw16926296809658464140 tw11553120890550023116 tw7075896882434546733 tw6726074578109932621 tw11575302603781617773 tw6947419317498662029 tw16337691530614398093 tw15562063478086911149 tw11301498619910081709 tw10290651849415579821 tw6223932109664724205 tw14984849458520854797 tw15168919241622823181 tw8032503679094826381 tw7609336831478411661 tw991321739815719341 tw9315120103383835053 tw2881302500856114605 tw1996370119363900909 tw484702308562285069 tw7605113589708273165 tw7586997345850741325 tw5916425238525747821 tw706180662394390157 tw15991707034091684525 tw986537710706223821 tw8666039029776399085 tw17120021589312205549 tw15211634147493114605 tw10353575916691357421 tw7077642773121967885 tw14520457873666275149 tw7239067711005922157 tw1174482458868389773 tw12001489992697039757 tw10031878873843404717 tw4881438231346147245 tw10011071189564770253 tw17722625531670396942 tw15142919377736028174 tw17478656827600880686 tw14321818208841478222 tw10315743286636387438 tw17816213356823891054 tw4335173322376929390 tw9070413630714678414 tw15827296118198848654 tw8484671411951217838 tw12796641508815905006 tw2847734692066263310 tw13932800262008670478 tw14355737485952619950 tw16003360715233951182 tw15424810046447418830 tw13372062413845110286 tw13824249847327676974 tw659053289366577710 tw11457481699661064814 tw2661175960545599118 tw11466746648416075438 tw10610715193302063822 tw15164643631853531854 tw694426723965610734 tw7558301238191669998 tw8133672730242640622 tw6949249607667949326 tw8900975851199164238 tw9287074394392919950 tw2067523337081716622 tw15330840657772572719 tw3900918096335639631 tw17620137632854442095 tw13821983736041535599 tw16374134490793821327 tw18388944374369650863 tw18439748873210991823 tw8183692629123187919 tw14575513322832557263 tw13694124925793691887 tw5395484609083410799 tw723593630228860335 tw14324208813067916751 tw16513619991212222927 tw9849495114585097711 tw6704693322097150511 tw8236447169268564591 tw6311056942374215279 tw8239738278764896879 tw13040380746691246703 tw16310313872724081359 tw1987051494577659631 tw7467886532091537135 tw17808119396748750575 tw12136220011987607311 tw16012174148346893071 tw4774534775982810895 tw16364106302497450831 tw18052849828898058127 tw1388243724603244592 tw5356505493133510704 tw3561287926461252752 tw8674330252598146192 tw16162701477284612272 tw4108123540508316880 tw8160563362270159056 tw9280867686002134256 tw7894181882876207376 tw9874397142168684816 tw1398129383375208752 tw8668785852843531568 tw4657113312714496336 tw12718963524243586384 tw9599302812582234544 tw2555990399824883120 tw14688380000318341584 tw1481779639049105904 tw6505553889725015600 tw5323179411928146544 tw5613534848915051152 tw17013708460674465424 tw3666189524581984944 tw8754952008121658064 tw17036414372191963920 tw407560273857057552 tw15869848680850645776 tw6879929710523206480 tw11949863731653666640 tw13202244564771957584 tw2677882387718121392 tw2898116486978262960 tw15312107697538462672 tw7274883884479282128 tw5325761575006218224 tw9432787302324520944 tw11866662603867198481 tw12582308302392103953 tw14481796355127486609 tw5964185740682213521 tw16198214219312910513 tw5665935994581587153 tw17559402155185117425 tw12169632324968953073 tw17613074722564213169 tw9643780312312116721 tw11856195582912756209 tw6078807108459451921 tw3911574468156290705 tw12316829331811346161 tw6101764396058627825 tw10335307640392276721 tw14941395165227594513 tw13331470021854144369 tw13380252025676686225 tw1092073001806044081 tw17004557474737567665 tw8730388405866424241 tw8902142165262868433 tw3609543366811350993 tw8027688586217834514 tw15441706956364566546 tw12713821255285146738 tw7221254748689609842 tw10344829247676543090 tw8476319816023623858 tw4956254079943077042 tw18046406054783977682 tw8761693492980916434 tw9964665567641034962 tw13601752172420361426 tw16364542505578000594 tw8246741035979116786 tw5267121175072785650 tw7393463354528913650 tw8899729022704638194 tw1755797396127822098 tw10994465380670843186 tw16110326443623906610 tw7547244827439038834 tw15158364289397797266 tw3871981830862687634 tw8844151663066757586 tw17077029444269655538 tw7733180635905010226 tw15793073269647678034 tw7144262805431621234 tw1957276668463895218 tw14018199372215047858 tw12480626996624465618 tw8121569827877043922 tw18396797335492463442 tw4615909562978799442 tw14323580840910217042 tw2093799562594269074 tw1037932710556302258 tw7992909765717468146 tw4515001781958842387 tw12018348717320467539 tw2849790083016953971 tw12601948610700344435 tw16827954031758099603 tw1355420018263879827 tw11841523438674196659 tw2842857654239039731 tw7559073710622095603 tw9471168289458531667 tw17358966337731746163 tw11822482957776194963 tw2043534265320168851 tw11261435213946862099 tw16282028486388039187 tw13965741702886721139 tw10607300917939808883 tw2966183267338218099 tw16347964726954735251 tw10347922165517964979 tw12917900973825514227 tw7093799012523244275 tw14540058911907108659 tw12847700081173994355 tw5513438727867012051 tw9028055889156547571 tw8301486728529102835 tw16904129271165827092 tw4962691037679093012 tw6914998343721721140 tw15884749208039660884 tw2244052922077789588 tw5623788374161088916 tw1966734646447685044 tw16258489653796845044 tw13886686738446461460 tw3788553682555168308 tw2488856118982262356 tw4450750001728527988 tw735096937614472820 tw16827315104156451476 tw3685996558735664788 tw12310102855586641556 tw11952494877414801108 tw16059587511261383412 tw2016671187373838132 tw11978261927251162964 tw124009056597274452 tw15646020566873801588 tw13005637124263974772 tw6434635399579659124 tw7172766194537342964 tw4188704729674054644 tw937339679154774165 tw6648848888315564181 tw1680719103630910677 tw3931828805351422165 tw9391509829207861493 tw17560082164187761941 tw3811112566477223221 tw1662695593365449109 tw1247412433205976501 tw875455235432495573 tw8597293387953709557 tw4281972726689592821 tw12398511563360412213 tw16962251757719668341 tw13868941074303341173 tw17686330874639986325 tw889604170216813237 tw8053386164984222421 tw3533264428158500693 tw960803315869491157 tw8132576279913408469 tw10917160643628597205 tw17168532416228839446 tw13465510749690506326 tw9275498274013391958 tw12083155944947142742 tw5385606047307892918 tw8073452062218051830 tw2301868747860167958 tw6686811404938265910 tw834195882320062774 tw3043573772806155702 tw5813029276726012406 tw12524501782700731958 tw2778380912540447318 tw17325173222344871574 tw1511531297722414774 tw4755988762915663542 tw1372736103691854550 tw15409676279057228502 tw13413673229581768406 tw17663420554326355702 tw979994442139713270 tw16162923754679865142 tw8371035295322215254 tw2144195857453400918 tw7605172739407220598 tw15753555722936104854 tw17663130719264432022 tw1679738943010933686 tw2573246602811684854 tw6946554140702951414 tw7012730834750835767 tw9248187989802282039 tw34715925298997367 tw10331874254567110839 tw4520494170575244503 tw9672543178706744535 tw3543249389187373303 tw8074268849739346167 tw1443421984629111031 tw14332844718552823063 tw12019055979289093495 tw17855586475662548407 tw8037500900814983639 tw5339983765787522519 tw8330198725221100055 tw10763577998602085975 tw17522405213132801655 tw16189066118264509047 tw17524170868014599831 tw5428106566416496279 tw9774350248689767095 tw349826045193811671 tw356455135516078839 tw9894445462091331319 tw950280549025743639 tw9220954006657568535 tw18400404703250040631 tw9534993810788704055 tw12411206602742712151 tw11864806456919949175 tw2632201083763289015 tw11140599870286794711 tw5072254888690390999 tw4096266682605471735 tw12740471614672338935 tw4289505541274554392 tw9152515888840135704 tw5363574084675280952 tw7211285840537075768 tw13288065742218808376 tw3222037215047300216 tw3390441607849482392 tw18077862202147666168 tw13691707104631108920 tw17300600648208562488 tw11073063415739321688 tw2265285574431792472 tw13461042345117672824 tw12982633927688284536 tw12625953935326969208 tw11891522999486839192 tw17096547836373517752 tw16172932497896414712 tw8764829635704172024 tw12063336737048805944 tw7676751779980080696 tw15772802340550658648 tw17213579876273610360 tw2902454712345586328 tw5447068214028604088 tw4735593940032251576 tw1712680250616983320 tw15737758431839417112 tw7292597991600858968 tw11017945946000865112 tw4767749353487685496 tw17561513950605349816 tw4239408098419092472 tw8898813168188640248 tw17215825346560206873 tw8624846396861168665 tw3659762024653475865 tw14644081680220231737 tw3270478935569084473 tw14436409812150205497 tw4793351801776761913 tw2133880680915079257 tw17858523826132216921 tw18225709844270610521 tw11193899742380943513 tw16003110743898625273 tw14681963504818507001 tw14700758936519781657 tw10126072207563226393 tw10283622463433116985 tw13186191534792330585 tw15140339209572320633 tw4292323706630964633 tw18345339040848659897 tw17892088274229068281 tw9473583028891657721 tw14348362479326673433 tw14343818407249133081 tw14701216191729994297 tw12947203933108919897 tw6424986692514439769 tw726909295915564633 tw16399968096209226361 tw6033682935517730457 tw8068792142972871353 tw12450811976287687417 tw12689442859013923673 tw3009599284316351417 tw4796695652985333689 tw15133225501547964377 tw6946818598290417690 tw741245207718196250 tw12049810133224751226 tw13810134594746058874 tw8321419941150835866 tw13082189186447131802 tw15702877261100627162 tw8400195144825812218 tw5066836693432683770 tw8458129433328606458 tw9209715219217418522 tw1572769066850727226 tw18253954066372301178 tw10524771986647437722 tw1411931904079295898 tw9639129182574747098 tw3159460639927237114 tw14427738500063465018 tw5162700212562858554 tw5832643935540490810 tw14588004931715152442 tw13710548917663298106 tw12612439485463542362 tw3723875892776758970 tw6864883772151297786 tw12649781557362678586 tw15374352982922202970 tw11121254746947666778 tw17063167843695315834 tw6017723478750661562 tw8705305072599869370 tw13956313879523514298 tw14445809283030478778 tw3309369897082782682 tw2544087290460353563 tw13433068830834742299 tw547320933451850779 tw8950794523052636187 tw13520935972507325499 tw5737905909187245115 tw16294105001929376859 tw14015999018088505435 tw5990311168292328571 tw16960006809063347355 tw8891833806952126619 tw1559267166698831035 tw15358944843618851035 tw4741052830763678939 tw4056263113781281019 tw7965972668267462907 tw1498499787337329915 tw7850832835384222011 tw3155786668744396091 tw8815015096866673019 tw5773741845281911163 tw9949285609544495483 tw1762103051179278715 tw6602792146655079803 tw16663931136883688859 tw14524728479164450267 tw6819908415980126747 tw3942701868759121435 tw15396824111068205627 tw11275730920325600827 tw3039299426527184475 tw10179525283516135003 tw9991445893625827963 tw7300312096575765179 tw2386275355112985307 tw16651493238915960571 tw3934455910537408251 tw14613004615686283131 tw9651009507525014427 tw13183391503282593691 tw15981383561795088315 tw4337385436012460987 tw16145597083585763291 tw12254186591823097819 tw8016437946263740444 tw5846563327208235164 tw3763007606591247516 tw3034105361857962140 tw6744355117553223900 tw14683553533699386588 tw4118589849911666940 tw16441834971562924284 tw1714036400721304860 tw15678437524611221788 tw14185699532280165660 tw17032299771420065084 tw3262811674398827868 tw8045842493471140188 tw4696446005569975644 tw1091843692066948476 tw4512898132381820348 tw1168508622142630332 tw1295601836197858812 tw2709054027936423452 tw12176276864177752636 tw17848409622032471612 tw5820296099232978524 tw9815551927071823452 tw16619990039914049148 tw10670482051730360028 tw6216512121292082908 tw1847375252784317180 tw4922883108101901116 tw14273627629016441660 tw2111925348889603996 tw11345756481417076700 tw14606144380083043292 tw7996074726655500284 tw8306908705132528669 tw1969407986124241981 tw13229233844453558333 tw13296943871572629565 tw1389570999645370461 tw4616288615784571037 tw14667825241185662141 tw8836525123341565117 tw8841782752701589725 tw6286001597194064125 tw6182923885720333565 tw2041519375855669565 tw4061196495569273181 tw2469085742350518621 tw1156954474119276925 tw2567793325639365085 tw10685195172808581629 tw9339907521710203453 tw11352736956067108413 tw998641719942482525 tw10729824564089655997 tw16477225982658773789 tw3993300246239837021 tw3442771775865813853 tw5091725331696435069 tw3943057921354822525 tw10649424452353943453 tw9511770977578194909 tw9243941606812351485 tw6801493359675254846 tw4448087497569449022 tw11163020130363096158 tw17752427501691686014 tw7506905385315488894 tw1569038212981105822 tw6940009572754846942 tw4633147858843538686 tw4232261647055308030 tw16691900361117934878 tw6818936064764057918 tw18170345022622711102 tw14607697845335879070 tw17512850483739981246 tw15049761784854272510 tw3764640115295846942 tw9297682547475322494 tw15406020722996440734 tw5396015399289239262 tw15542085302693240574 tw15979105437930326814 tw4095892831963297566 tw12050789075295280958 tw8573974268194085694 tw7063792010276058974 tw15539817555904709470 tw17563040669489986430 tw10420410146906626974 tw3757330712604026814 tw11651560384828108798 tw11477663224440675359 tw5897577476683476031 tw7764256916048588927 tw13824876184698114175 tw15449591338106749087 tw16682163921735775455 tw5391902409118921983 tw13930293576429656351 tw12990277833572147487 tw127577530884579647 tw3264903014221051199 tw16494628228162223455 tw5098278851999147391 tw12746172032317101471 tw15612423867468382719 tw12329875839473192447 tw12677777567606366751 tw614503030535549503 tw9546677302069963359 tw13743941676980014719 tw4656000985036266111 tw3378832631176729247 tw7307271073283614367 tw4046255929796521663 tw10063699846542812927 tw2841894341647279903 tw5170264433014603583 tw3863287114806171583 tw7820520329582154719:True)
open PySem PySem.W PyProof.Rows
set_option maxRecDepth 100000 in
set_option maxHeartbeats 0 in
theorem PySem.Challenge.cw_stripmeld_k37_whole_exchanges_holds : PySem.Challenge.rw_stripmeld_k37_whole_exchanges.Holds := by
 w_on;o_law;k_head;(case hw=>w_witness2)
 k_fill
 refine L2.OD (l:=PySem.Challenge.rw_stripmeld_k37_whole_exchanges) (n:=63) (k:=8) (x:="_law_script") (CX:=L2.CX0) (sp:=Pu.FG) rfl (by decide) rfl ⟨rfl,by decide,by decide⟩ (fun w h Y=>PySem.W.kIn_of Y) ?F ?S ?C
 case F=>
  intro w mg fa h KX G hmg
  refine' T.Rq KX G hmg ?VH ?VZ ?Ja ?Jb ?Jc ?Jd ?Je ?Jf ?Jg ?Jh ?a0 ?a1 ?a2 ?a3 ?a4 ?a5 ?a6 ?a7 ?a8 ?a9 ?a10 ?a11 ?a12 ?a13 ?a14 ?a15 ?a16 ?a17 ?a18 ?a19 ?a20 ?a21 ?a22 ?a23 ?a24 ?a25 ?a26 ?a27 ?a28 ?a29 ?a30 ?a31 ?a32 ?a33 ?a34 ?a35 ?a36 ?a37 ?a38 ?a39 ?a40 ?a41 ?a42 ?a43 ?a44 ?a45 ?a46 ?a47 ?a48 ?a49 ?a50 ?a51 ?a52 ?a53 ?a54 ?a55 ?a56 ?a57 ?a58 ?a59 ?a60 ?a61 ?a62 ?a63 ?a64 ?a65 ?a66 ?a67 ?a68 ?a69 ?a70 ?a71 ?a72 ?a73 ?a74 ?a75 ?a76 ?a77 ?a78 ?a79 ?l79 ?c79 ?k79 ?Ji ?Jj ?Jk ?Jl ?Jm ?Jn ?Jo ?Jp ?Jq ?Jr ?Js ?Jt ?Ju ?Jv ?Jw ?Jx ?Jy ?Jz ?VI ?VJ ?VL ?VM ?VN ?VO ?VP ?VQ ?VR ?VS ?VT ?VU ?VW ?VX ?VY
  (case VH|VZ|Ja|Jb|Jc|Jd|Je|Jf|Jg|Jh=>k_is)
  (case a0|a1|a2|a3|a4|a5|a6|a7|a8|a9|a10|a11|a12|a13|a14|a15|a16|a17|a18|a19|a20|a21|a22|a23|a24|a25|a26|a27|a28|a29|a30|a31|a32|a33|a34=>apply Pu.di<;>k_is)
  (case a35|a36|a37|a38|a39|a40|a41|a42|a43|a44|a45|a46|a47|a48|a49=>apply Pu.mi<;>k_is)
  (case a50|a51|a52|a53|a54|a55|a56|a57|a58|a59|a60|a61|a62|a63|a64|a65|a66|a67|a68|a69|a70|a71|a72|a73|a74|a75|a76|a77|a78=>apply Pu.di<;>k_is)
  (case a79|l79|c79|k79|Ji|Jj|Jk|Jl|Jm|Jn|Jo|Jp|Jq|Jr|Js|Jt|Ju|Jv|Jw|Jx|Jy|Jz=>k_is)
  (case VI|VJ|VL|VM|VN|VO|VP|VQ|VR|VS|VT|VU|VW|VX|VY=>apply Pu.ei<;>first|(k_is;done)|k_exc)
 case S=>exact fun K H a ns hl hO hS=>⟨a,ns,rfl,hS,fun _=>rfl⟩
 case C=>exact fun _ _ _ _ z=>z
