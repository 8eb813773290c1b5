import PyProof.Rows.All
import Wide.All
import OpenK.AllK
import Wide.FinOn
import Lean
import PyProof.EqAt
import PyProof.EqKinds
import PyProof.TupleCall
import PySem.Challenge.RW_stripmeld_k51_whole_rings_dropped
set_option Elab.async false
set_option linter.all false
set_option maxRecDepth 100000
noncomputable section
def ZT:=@PySem.wpAny_bind
def ZU:=@List.getElem?_eq_getElem
def ZV:=@List.length_map
def ZW:=@PySem.wpAny_pure
def ZX:=@List.mem_singleton
def ZY:=@PySem.Heap.get?_push_of_some
def ZZ:=@if_neg
def Ya:=@if_pos
def Yb:=@decide_eq_true
def Yc:=@Nat.le_refl
def Yd:=@PySem.Heap.lt_size
def Ye:=@List.getElem?_map
def Yf:=@Option.some.inj
def Yg:=@of_decide_eq_true
def Yh:=@List.mem_cons
def Yi:=@PySem.Heap.get?_push_size
def Yj:=@Bool.false_ne_true
def Yk:=@List.getElem?_eq_some_iff
def Yl:=@List.length_append
def Ym:=@decide_eq_false
def Yn:=@Nat.le_trans
def Yo:=@List.size_toArray
def Yp:=@List.getD_eq_getElem?_getD
def Yq:=@List.mem_cons_of_mem
def Yr:=@List.getElem_mem
def Ys:=@List.map_cons
def Yt:=@List.mem_append
def Yu:=@List.map_append
def Yv:=@List.mem_of_getElem?
def Yw:=@PySem.PassesOwn.never
def Yx:=@List.take_succ_eq_append_getElem
def Yy:=@Nat.ne_of_lt
def Yz:=@List.mem_cons_self
def Y0:=@List.mem_append_right
def Y1:=@List.length_cons
def Y2:=@List.mem_filter
def Y3:=@Nat.lt_of_lt_of_le
def Y4:=@List.mem_map
def Y5:=@Bool.and_eq_true
def Y6:=@PySem.F.plainAttrs_list
def Y7:=@List.length_take
def Y8:=@List.nodup_cons
def Y9:=@List.mem_iff_getElem
def YA:=@Int.toNat_natCast
def YB:=@PySem.wpAny_mono
def YC:=@Classical.byContradiction
def YD:=@congrArg
def YE:=@Array.length_toList
def YF:=@PySem.W.mg_none_of
def YG:=@List.length_filter_le
def YH:=@PySem.wpAny_newObj_type
def YI:=@PySem.F.slot_list_append
def YJ:=@PySem.F.type_list_append
def YK:=@PySem.Heap.get?_update_self
def YL:=@List.map_map
def YM:=@List.getElem?_append_left
def YN:=@List.pairwise_iff_getElem
def YO:=@List.append_nil
def YQ:=@PySem.W.mg_of
def YR:=@PySem.Obj.data_mapFields
def YS:=@PySem.Heap.get?_update_other
def YT:=@List.lookup_cons
def YU:=@PySem.Heap.SameBut.update
def YV:=@List.nodup_append
def YW:=@PySem.W.kia_one
def YX:=@List.take_length
def YY:=@List.getElem?_append_right
def YZ:=@beq_eq_false_iff_ne
def Wa:=@Array.getElem?_eq_getElem
def Wb:=@Array.getElem?_toList
def Wc:=@List.getElem?_take_of_lt
def Wd:=@Int.emod_lt_of_pos
def We:=@Nat.zero_le
def Wf:=@PySem.wpAny_loadPart_at
def Wg:=@Int.emod_nonneg
def Wh:=@Nat.lt_irrefl
def Wi:=@List.cons_append
def Wj:=@List.length_singleton
def Wk:=@PySem.wpAny_setField
def Wl:=@PySem.Obj.isFreed_of_fields
def Wm:=@List.mem_append_left
def Wn:=@List.idxOf_lt_length_iff
def Wo:=@List.length_set
def Wp:=@PySem.F.slot_dict_valueiterator_next
def Wq:=@Bool.eq_false_iff
def Wr:=@List.getElem_take
def Ws:=@PySem.wpAny_holding
def Wt:=@PySem.wpAny_typeNameOfWhole_valiter
def Wu:=@List.length_eq_zero_iff
def Wv:=@List.filterMap_cons
def Ww:=@PySem.mem_of_lookup
def Wx:=@List.nodup_nil
def Wy:=@PySem.wpAny_call_entry
def Wz:=@Nat.le_of_eq
def W1:=@PySem.codeAny_mono
def W2:=@List.pairwise_cons
def W3:=@PyProof.Rows.F.plain_set_update_loop
def W4:=@PySem.wpAny_passesOwn
def W5:=@PyProof.Rows.boot_isinstance
def W6:=@List.sum_cons
def W7:=@PySem.F.excBase_ValueError
def W8:=@PySem.wpAny_truthy_bool
def W9:=@PySem.wpAny_setState_of
def WA:=@decide_eq_true_eq
def WB:=@PySem.Heap.get?_none_of_le
def WC:=@PySem.W.looks_findIn
def WD:=@PySem.Around.under_plainId
def WE:=@Bool.false_and
def WG:=@List.all_eq_true
def WH:=@PySem.wpAny_typeNameOf_valiter
def WI:=@Int.ne_of_lt
def WJ:=@PySem.F.slot_list_index
def WK:=@List.getElem?_cons_succ
def WL:=@List.any_cons
def WM:=@Bool.true_and
def WN:=@List.find?_cons
def WO:=@PySem.codeAny_builtin
def WQ:=@List.getElem_idxOf
def WR:=@List.getElem?_set_self
def WS:=@Nat.le_succ
def WT:=@List.take_of_length_le
def WU:=@List.take_sublist
def WV:=@List.append_assoc
def WW:=@PySem.Heap.size_push
def WX:=@PySem.W.methodCall_KW
def WY:=@Nat.lt_trans
def WZ:=@List.getElem?_eq_none
def Qa:=@List.filterMap_append
def Qb:=@List.dropLast_concat_getLast
def Qc:=@PyProof.Rows.callWith_type1
def Qd:=@List.getElem?_set_ne
def Qe:=@List.pairwise_append
def Qf:=@PySem.wpAny_standAt
def Qg:=@List.length_eraseIdx_of_lt
def Qh:=@Array.getElem?_eq_some_iff
def Qi:=@List.drop_eq_getElem_cons
def Qj:=@List.cons.injEq
def Qk:=@Nat.le_of_lt
def Ql:=@PySem.wpAny_Call_Name_kw
def Qm:=@PySem.F.args_tuple_add_2
def Qn:=@PyProof.Rows.F.entry_set_update_loop
def Qo:=@Bool.false_eq_true
def Qp:=@List.map_singleton
def Qq:=@Int.add_zero
def Qr:=@Nat.not_lt
def Qs:=@List.take_zero
def Qt:=@List.getElem?_replicate
def Qu:=@PySem.F.entry_tuple_add
def Qv:=@PySem.wpAny_callSpecial?_slot
def Qw:=@PySem.F.type_list_index
def Qx:=@PySem.fits_of_scanBound
def Qy:=@Nat.lt_succ_of_lt
def Qz:=@PySem.Obj.cls_mapFields
def Q0:=@Bool.not_eq_true'
def Q1:=@PySem.sizeLine_eq
def Q2:=@PySem.F.slot_tuple_add
def Q3:=@Array.getElem?_eq_none
def Q4:=@List.filterMap_eq_map'
def Q5:=@List.all_cons
def Q6:=@PySem.plainId_quiet
def Q7:=@PySem.W.any_some
def Q8:=@Nat.lt_succ_self
def Q9:=@List.length_drop
def QA:=@if_false
def QB:=@List.not_mem_nil
def QC:=@PySem.wpAny_isOneOf_valiter
def QD:=@List.getElem?_reverse
def QE:=@PySem.wpAny_execs_nil
def QF:=@Bool.eq_iff_iff
def QG:=@PySem.wpAny_call
def QH:=@PySem.Calls.evalArgs_plain
def QI:=@Option.map_some
def QJ:=@List.forIn_cons
def QK:=@PySem.codeAny_call_builtin
def QL:=@List.mem_of_mem_take
def QM:=@PySem.W.plainGet_of
def QN:=@PySem.W.looks_clsIn
def QO:=@List.map_congr_left
def QP:=@List.filter_sublist
def QR:=@List.length_pos_iff
def QS:=@List.length_reverse
def QT:=@List.mem_map_of_mem
def QU:=@PySem.wpAny_isSubtype_exc
def QV:=@Nat.add_le_add
def QW:=@PySem.wpAny_field
def QX:=@List.mem_filterMap
def QY:=@PySem.W.Looks.here
def QZ:=@PySem.W.callWith_K
def Va:=@Nat.lt_of_le_of_lt
def Vb:=@PySem.W.isNs_of_in
def Vc:=@List.contains_cons
def Vd:=@List.any_eq_false
def Ve:=@List.ext_getElem?
def Vf:=@Int.emod_eq_of_lt
def Vg:=@List.getElem_inj
def Vh:=@Nat.ne_of_gt
def Vi:=@List.map_nil
abbrev Za:=PySem.W.Frag
namespace L2
open PySem PySem.Spec PyProof.Rows
abbrev Key:=Sum Int Str
def KB:Key->Value->Bool
 | .inl k,v=>Value.isInt k v
 | .inr x,v=>Value.isStrOf x v
def keyH(w:World):Key->Int
 | .inl k=>hashInt k
 | .inr x=>hashStr w x
def Xk:∀{k:Key}{v:Value},KB k v=true->(∃i t,k=Sum.inl i/\v=Value.int i t)\/(∃x t,k=Sum.inr x/\v=Value.str x t)
 | .inl i,v,h=>by
  obtain⟨t,e⟩:=Value.isInt_shape (k:=i) (v:=v) h;exact .inl ⟨i,t,rfl,e⟩
 | .inr x,v,h=>by
  obtain⟨t,e⟩:=Value.isStrOf_shape (x:=x) (v:=v) h;exact .inr ⟨x,t,rfl,e⟩
def Gz(i:Int)(t:Tok):KB (.inl i) (.int i t)=true:=by simp[KB,Value.isInt]
def HH(x:Str)(t:Tok):KB (.inr x) (.str x t)=true:=by simp[KB,Value.isStrOf]
def Ge(a b:Int):decide ((Sum.inl a:Key)=Sum.inl b)=(a==b):=by
 by_cases e:a=b
 ·subst e;simp
 ·have h:¬(Sum.inl a:Key)=Sum.inl b:=λq=>e (Sum.inl.inj q);rw[Ym h];exact(YZ.mpr e).symm
def E6(a b:Str):decide ((Sum.inr a:Key)=Sum.inr b)=decide (a=b):=by
 by_cases e:a=b
 ·subst e;simp
 ·have h:¬(Sum.inr a:Key)=Sum.inr b:=λq=>e (Sum.inr.inj q);rw[Ym h,Ym e]
def MS(a:Int)(b:Str):decide ((Sum.inl a:Key)=Sum.inr b)=false:=Ym (λq=>nomatch q)
def OY(a:Str)(b:Int):decide ((Sum.inr a:Key)=Sum.inl b)=false:=Ym (λq=>nomatch q)
def U6(prog:Program)(w:World):PySem.KeyKind prog w Key where
 is:=KB
 hash:=keyH w
 inj:=λv a b ha hb=>by
  rcases Xk ha with⟨i,t,rfl,rfl⟩|⟨x,t,rfl,rfl⟩
  ·rcases Xk hb with⟨j,u,rfl,e⟩|⟨y,u,rfl,e⟩
   ·injection e with e1 _;rw[e1]
   ·exact nomatch e
  ·rcases Xk hb with⟨j,u,rfl,e⟩|⟨y,u,rfl,e⟩
   ·exact nomatch e
   ·injection e with e1 _;rw[e1]
 byValue:=λk v h=>by
  rcases Xk h with⟨i,t,rfl,rfl⟩|⟨x,t,rfl,rfl⟩<;>rfl
 pyHash:=λhv h=>by
  rcases Xk hv with⟨i,t,rfl,rfl⟩|⟨x,t,rfl,rfl⟩
  ·exact wpAny_pyHash_int h
  ·exact wpAny_pyHash_str h
 eqBool:=λhu hv h=>by
  rcases Xk hu with⟨i,t,rfl,rfl⟩|⟨x,t,rfl,rfl⟩
  ·rcases Xk hv with⟨j,u,rfl,rfl⟩|⟨y,u,rfl,rfl⟩
   ·rw[Ge]at h;exact wpAny_eqBool_int h
   ·rw[MS]at h;exact SeqAt.EqAt.int_str i t y u _ _ _ _ h
  ·rcases Xk hv with⟨j,u,rfl,rfl⟩|⟨y,u,rfl,rfl⟩
   ·rw[OY]at h;exact SeqAt.EqAt.str_int x t j u _ _ _ _ h
   ·rw[E6]at h;exact wpAny_eqBool_str h
 «strs»:=λk x t v h=>by
  rcases Xk h with⟨i,u,rfl,e⟩|⟨y,u,rfl,e⟩
  ·exact nomatch e
  ·injection e with e1 _;subst e1;cases v<;>rfl
def Ei(prog:Program)(w:World)(i:Int)(t:Tok):(U6 prog w).is (.inl i) (.int i t)=true:=Gz i t
def Hm(prog:Program)(w:World)(x:Str)(t:Tok):(U6 prog w).is (.inr x) (.str x t)=true:=HH x t
inductive V where
 |non|bl (b:Bool)|int (i:Int)|str (x:Str)|byt (b:Array UInt8)|flt (b:UInt64)|ref (a:Addr)|ty (n:String)
 deriving DecidableEq
def RelV:V->Value->Prop
 | .non,u=>u=Value.none
 | .bl b,u=>u=Value.bool b
 | .int i,u=>∃t,u=Value.int i t
 | .str x,u=>∃t,u=Value.str x t
 | .byt b,u=>∃t,u=Value.bytes b t
 | .flt b,u=>∃t,u=Value.float b t
 | .ref a,u=>u=Value.ref a
 | .ty n,u=>u=Value.type n
abbrev Vals:List V->List Value->Prop:=Paired RelV
def Vals.length {xs:List V}{us:List Value} (r:Vals xs us):xs.length=us.length:=Paired.length r
def Vals.get:∀{xs:List V}{us:List Value}{i:Nat}{x:V},Vals xs us->xs[i]?=some x->∃u,us[i]?=some u/\RelV x u
 |_,_,_,_,.nil,e=>by simp at e
 |_,_,0,_,.cons r _,e=>by simp at e;subst e;exact⟨_,rfl,r⟩
 |_,_,i+1,x,.cons _ t,e=>by
  obtain⟨u,h1,h2⟩:=Vals.get (i:=i) (x:=x) t (by simpa using e);exact⟨u,by simpa using h1,h2⟩
def Vals.set {x:V}{u:Value} (r:RelV x u):∀{xs:List V}{us:List Value} (i:Nat),Vals xs us->Vals (xs.set i x) (us.set i u)
 |_,_,_,.nil=>.nil
 |_,_,0,.cons _ t=>.cons r t
 |_,_,i+1,.cons q t=>.cons q (Vals.set r i t)
def Vals.append:∀{xs ys:List V}{us ws:List Value},Vals xs us->Vals ys ws->Vals (xs++ys) (us++ws)
 |_,_,_,_,.nil,s=>s
 |_,_,_,_,.cons r t,s=>.cons r (Vals.append t s)
def Vals.take:∀{xs:List V}{us:List Value} (n:Nat),Vals xs us->Vals (xs.take n) (us.take n)
 |_,_,0,_=>.nil
 |_,_,_+1,.nil=>.nil
 |_,_,n+1,.cons r t=>.cons r (Vals.take n t)
def Vals.drop:∀{xs:List V}{us:List Value} (n:Nat),Vals xs us->Vals (xs.drop n) (us.drop n)
 |_,_,0,r=>r
 |_,_,_+1,.nil=>.nil
 |_,_,n+1,.cons _ t=>Vals.drop n t
def RelO:Option V->Option Value->Prop
 |some v,some u=>RelV v u
 |none,none=>True
 |_,_=>False
def KV{κ:Type}:List (κ×V)->List (κ×Value)->Prop:=Paired λ(p:κ×V) (q:κ×Value)=>p.1=q.1/\RelV p.2 q.2
def kV:Key->V
 | .inl i=>.int i
 | .inr x=>.str x
inductive HO where
 |lst (xs:List V)
 |tup (xs:List V)
 |dK (kvs:List (Key×V))|dT (kvs:List (List Key×V))
 |set (S:Int->Bool) (n:Nat)
 |ins (C dx:Addr) (fs:List (Str×V))
 |own (x:Addr)
 |xd (fs:List (Str×V))
 |met (f x:Addr)
 |rng (lo hi:Int)
 |frz (o:Obj) (u:HO)
 |tbl (ps:Array Value)
 |ext (φ:Heap->Prop)
abbrev Hp:=Addr->Option HO
def upd(H:Hp)(a:Addr)(o:HO):Hp:=λb=>if b=a then some o else H b
def Jw{H:Hp}{a:Addr}{o:HO}:upd H a o a=some o:=by unfold upd;rw[Ya rfl]
def Jn{H:Hp}{a b:Addr}{o:HO}(h:b≠a):upd H a o b=H b:=by unfold upd;rw[ZZ h]
def Fi{H:Hp}{a:Addr}{o u:HO}:upd (upd H a o) a u=upd H a u:=by
 funext b;unfold upd;split<;>rfl
def Bf{H:Hp}{a b:Addr}{o u:HO}(h:H a=some o)(h':H b=some u)(d:o≠u):a≠b:=by
 intro e;subst e;rw[h]at h';exact d (Yf h')
def JO{H:Hp}{a b:Addr}{o:HO}(h:H a=some o)(h':H b=none):a≠b:=by
 intro e;subst e;rw[h]at h';cases h'
section
variable (P:Program) (w:World)
def ObjOk(H:Hp)(h:Heap)(a:Addr):HO->Prop
 | .lst xs=>xs.length<=sizeLine/\∃(its:List Value) (n:Nat),Vals xs its/\h.get? a=some {cls:=.type "list",data:=.seq its.toArray n}
 | .tup xs=>xs.length<=sizeLine/\∃its:List Value,Vals xs its/\IsTup h a its.toArray
 | .dK kvs=>kvs.length<=sizeLine/\(a==sysModules)=false/\∃vs,KV kvs vs/\h.DictOf (U6 P w) a vs
 | .dT kvs=>kvs.length<=sizeLine/\(a==sysModules)=false/\∃xs:List (List Key×Addr×Value),
   Paired (λ(p:List Key×V) (q:List Key×Addr×Value)=>p.1=q.1/\H q.2.1=some (.tup (p.1.map kV))/\RelV p.2 q.2.2) kvs xs/\
   ∃o es ep,h.get? a=some o/\o.ExactDict/\o.data=.dict es ep/\es.toList=xs.map (entryOfKey (tupleKind (U6 P w)))/\(xs.map (·.1)).Nodup
 | .set S n=>h.SetOf (intKind P w) a S n
 | .ins C dx fs=>H dx=some (.own a)/\fs.length<=1000/\dx≠a/\h.get? a=some (PySem.W.instObj C dx)/\
   ∃mA,h.Ns1 dx mA/\(∀f,RelO (fs.lookup f) (mA f))/\PySem.Within mA (fs.map (·.1))
 | .own _=>∃o,h.get? a=some o
 | .xd fs=>∃mA,h.Ns1 a mA/\∀f,RelO (fs.lookup f) (mA f)
 | .rng lo hi=>∃t u v,h.get? a=some {cls:=.type "range",data:=.fields #[.int lo t,.int hi u,.int 1 v]}
 | .frz o u=>h.get? a=some o/\ObjOk H h a u
 | .tbl ps=>h.get? a=some {cls:=.none,data:=.fields ps}
 | .met f x=>h.get? a=some (PySem.W.methodObj (.ref f) (.ref x))
 | .ext φ=>φ h/\(∃o,h.get? a=some o)/\∀h1 h2:Heap,φ h1->(∀o,h1.get? a=some o->h2.get? a=some o)->φ h2
def HOk(H:Hp)(h:Heap):Prop:=∀a o,H a=some o->ObjOk P w H h a o
end
section
variable {P:Program}{w:World}{H H':Hp}{h h':Heap}{a:Addr}{o:HO}
def ObjOk.lt (x:ObjOk P w H h a o):a<h.objs.size:=by
 cases o with
 |lst xs=>obtain⟨_,_,_,_,e⟩:=x;exact Yd e
 |tup xs=>obtain⟨_,_,_,p⟩:=x;exact p.lt
 |dK kvs=>obtain⟨_,_,_,_,o,_,_,e,_⟩:=x;exact Yd e
 |dT kvs=>obtain⟨_,_,_,_,o,_,_,e,_⟩:=x;exact Yd e
 |set S n=>obtain⟨o,_,_,_,e,_⟩:=x;exact Yd e
 |ins C dx fs=>obtain⟨_,_,_,e,_⟩:=x;exact Yd e
 |own y=>obtain⟨_,e⟩:=x;exact Yd e
 |xd fs=>obtain⟨_,⟨_,_,_,e,_⟩,_⟩:=x;exact Yd e
 |rng lo hi=>obtain⟨_,_,_,e⟩:=x;exact Yd e
 |frz ob u=>obtain⟨e,_⟩:=x;exact Yd e
 |tbl ps=>exact Yd (show h.get? a=some _ from x)
 |met f y=>exact Yd (show h.get? a=some _ from x)
 |ext φ=>obtain⟨_,⟨_,e⟩,_⟩:=x;exact Yd e
def Paired.mapP {α β:Type}{F G:α->β->Prop}:∀{l₁:List α}{l₂:List β},Paired F l₁ l₂->(∀a b,F a b->G a b)->Paired G l₁ l₂
 |_,_,.nil,_=>.nil
 |_,_,.cons r t,f=>.cons (f _ _ r) (Paired.mapP t f)
def ObjOk.stay (x:ObjOk P w H h a o) (k:∀b u,(b=a\/H b=some (.own a))->h.get? b=some u->h'.get? b=some u)
  (ho:∀b,H b=some (.own a)->H' b=some (.own a)) (ht:∀b xs,H b=some (.tup xs)->H' b=some (.tup xs)):ObjOk P w H' h' a o:=by
 induction o with
 |lst xs=>obtain⟨z,its,n,r,e⟩:=x;exact⟨z,its,n,r,k _ _ (.inl rfl) e⟩
 |tup xs=>obtain⟨z,its,r,ob,e,c⟩:=x;exact⟨z,its,r,ob,k _ _ (.inl rfl) e,c⟩
 |dK kvs=>obtain⟨z,y,vs,r,ob,es,ep,e,c⟩:=x;exact⟨z,y,vs,r,ob,es,ep,k _ _ (.inl rfl) e,c⟩
 |dT kvs=>
  obtain⟨z,y,xs,r,ob,es,ep,e,c⟩:=x;exact⟨z,y,xs,Paired.mapP r λp q z=>⟨z.1,ht _ _ z.2.1,z.2.2⟩,ob,es,ep,k _ _ (.inl rfl) e,c⟩
 |set S n=>obtain⟨ob,es,ep,t,e,c⟩:=x;exact⟨ob,es,ep,t,k _ _ (.inl rfl) e,c⟩
 |ins C dx fs=>
  obtain⟨d,z,ne,e,mA,⟨od,es,ep,e2,c⟩,r⟩:=x;exact⟨ho _ d,z,ne,k _ _ (.inl rfl) e,mA,⟨od,es,ep,k _ _ (.inr d) e2,c⟩,r⟩
 |own y=>obtain⟨ob,e⟩:=x;exact⟨ob,k _ _ (.inl rfl) e⟩
 |xd fs=>obtain⟨mA,⟨od,es,ep,e,c⟩,r⟩:=x;exact⟨mA,⟨od,es,ep,k _ _ (.inl rfl) e,c⟩,r⟩
 |rng lo hi=>obtain⟨t,u,v,e⟩:=x;exact⟨t,u,v,k _ _ (.inl rfl) e⟩
 |frz ob u ih=>obtain⟨e,q⟩:=x;exact⟨k _ _ (.inl rfl) e,ih q⟩
 |tbl ps=>
  have e:h.get? a=some {cls:=.none,data:=.fields ps}:=x;show h'.get? a=some {cls:=.none,data:=.fields ps};exact k a _ (.inl rfl) e
 |met f y=>
  have e:h.get? a=some (PySem.W.methodObj (.ref f) (.ref y)):=x;show h'.get? a=some (PySem.W.methodObj (.ref f) (.ref y));exact k a _ (.inl rfl) e
 |ext φ=>obtain⟨p,⟨o,e⟩,st⟩:=x;exact⟨st _ _ p λo q=>k _ _ (.inl rfl) q,⟨o,k _ _ (.inl rfl) e⟩,st⟩
def HOk.lt (x:HOk P w H h) (e:H a=some o):a<h.objs.size:=(x a o e).lt
def HOk.fresh (x:HOk P w H h) (e:h.objs.size<=a):H a=none:=by
 cases q:H a with
 |none=>rfl
 |some u=>exact absurd (Y3 (x.lt q) e) (Wh _)
def HOk.kept (x:HOk P w H h) (k:∀b u,h.get? b=some u->h'.get? b=some u):HOk P w H h':=λa o e=>
 (x a o e).stay (λb u _ q=>k b u q) (λ_ q=>q) λ_ _ q=>q
def HOk.laid (x:HOk P w H h) (k:∀b u,h.get? b=some u->h'.get? b=some u) (hp:h.objs.size<=a) (new:ObjOk P w (upd H a o) h' a o):HOk P w (upd H a o) h':=λb u e=>by
 have hn:=x.fresh hp;by_cases hb:b=a
 ·subst hb;rw[Jw]at e;cases e;exact new
 ·rw[Jn hb]at e;exact(x b u e).stay (λc v _ q=>k c v q) (λc q=>by rw[Jn (JO q hn)];exact q) λc xs q=>by rw[Jn (JO q hn)];exact q
end
def Rd(H:Hp)(a:Addr)(u:HO):Prop:=H a=some u\/∃o,H a=some (.frz o u)
def Rd.ok {P:Program}{w:World}{H:Hp}{h:Heap}{a:Addr}{u:HO} (r:Rd H a u) (x:HOk P w H h):ObjOk P w H h a u:=by
 rcases r with r|⟨o,r⟩
 ·exact x a u r
 ·obtain⟨_,q⟩:=x a _ r;exact q
def Mut:Option HO->Prop
 |some (.lst _)=>True
 |some (.dK _)=>True
 |some (.dT _)=>True
 |some (.set _ _)=>True
 |some (.ins _ _ _)=>True
 |some (.ext _)=>True
 |_=>False
section
variable {P:Program}{w:World}{H:Hp}{h h':Heap}{x e:Addr}{o':HO}
def HOk.write (ok:HOk P w H h) (mu:Mut (H x)) (he:e=x\/H e=some (.own x)) (k:∀b u,b≠e->h.get? b=some u->h'.get? b=some u) (heo:∃u,h'.get? e=some u)
  (new:ObjOk P w (upd H x o') h' x o'):HOk P w (upd H x o') h':=λb u q=>by
 have nown:∀c y,H c=some (.own y)->c≠x:=λc y r z=>by subst z;rw[r]at mu;exact mu
 have ntup:∀c xs,H c=some (.tup xs)->c≠x:=λc xs r z=>by subst z;rw[r]at mu;exact mu
 by_cases hb:b=x
 ·subst hb;rw[Jw]at q;cases q;exact new
 ·rw[Jn hb]at q;by_cases hbe:b=e
  ·have q':H b=some (.own x):=by
    rcases he with z|z
    ·exact absurd (hbe.trans z) hb
    ·rw[hbe];exact z
   rw[q]at q';cases q';obtain⟨v,hv⟩:=heo;exact⟨v,by rw[hbe];exact hv⟩
  ·refine(ok b u q).stay (λc v hc r=>k c v ?_ r) (λc r=>by rw[Jn (nown c b r)];exact r) λc xs r=>by rw[Jn (ntup c xs r)];exact r
   rcases hc with rfl|hc
   ·exact hbe
   ·rintro rfl;rcases he with z|z
    ·exact nown c b hc z
    ·rw[hc]at z;cases z;exact hb rfl
end
structure Un (fs ex:List Addr) (H H':Hp) (h h':Heap):Prop where
 keep:∀b o,h.get? b=some o->H b=none->b∉fs->b∉ex->h'.get? b=some o
 slot:∀b o,h.get? b=some o->H b=none->b∈fs->b∉ex->∃sl,h'.get? b=some {o with slots:=sl}
 free:∀b o,h.get? b=some o->H b=none->b∉ex->H' b=none
 there:∀b o,h.get? b=some o->b∉ex->∃o',h'.get? b=some o'
 tups:∀b xs,H b=some (.tup xs)->H' b=some (.tup xs)
 frzs:∀b o u,H b=some (.frz o u)->H' b=some (.frz o u)
 tbls:∀b ps,H b=some (.tbl ps)->∃more,H' b=some (.tbl (ps++more))
section
variable {fs fs' ex ex':List Addr}{H H1 H2:Hp}{h h1 h2 h':Heap}{a x e:Addr}{o:HO}
def Un.any (u:Un fs ex H H1 h h1) {b:Addr}{ob:Obj} (q:h.get? b=some ob) (n:H b=none) (hx:b∉ex):∃sl,h1.get? b=some {ob with slots:=sl}:=by
 by_cases hb:b∈fs
 ·exact u.slot b ob q n hb hx
 ·exact⟨ob.slots,u.keep b ob q n hb hx⟩
def Un.kept (k:∀b u,h.get? b=some u->h'.get? b=some u):Un fs ex H H h h':=
 ⟨λb ob q _ _ _=>k b ob q,λb ob q _ _ _=>⟨ob.slots,k b ob q⟩,λ_ _ _ n _=>n,λb ob q _=>⟨ob,k b ob q⟩,λ_ _ q=>q,λ_ _ _ q=>q,λ_ ps q=>⟨#[],by rw[q];simp⟩⟩
def Un.refl:Un fs ex H H h h:=Un.kept λ_ _ q=>q
def Un.laid (k:∀b u,h.get? b=some u->h'.get? b=some u) (hp:h.objs.size<=a) (hn:H a=none):Un fs ex H (upd H a o) h h' where
 keep:=λb u q _ _ _=>k b u q
 slot:=λb u q _ _ _=>⟨u.slots,k b u q⟩
 free:=λb u q n _=>by rw[Jn (Yy (Y3 (Yd q) hp))];exact n
 there:=λb u q _=>⟨u,k b u q⟩
 tups:=λb xs q=>by rw[Jn (JO q hn)];exact q
 frzs:=λb u xs q=>by rw[Jn (JO q hn)];exact q
 tbls:=λb ps q=>⟨#[],by rw[Jn (JO q hn),q];simp⟩
def Un.write (mu:Mut (H x)) (he:e=x\/H e=some (.own x)) (k:∀b u,b≠e->h.get? b=some u->h'.get? b=some u) (heo:∃u,h'.get? e=some u):Un fs ex H (upd H x o) h h':=by
 have hx:∀b,H b=none->b≠x:=λb n z=>by subst z;rw[n]at mu;exact mu
 have hb:∀b,H b=none->b≠e:=λb n z=>by
  subst z;rcases he with r|r
  ·exact hx b n r
  ·rw[n]at r;cases r
 have hm:∀b u,H b=some u->¬Mut (some u)->b≠x:=λb u q nm z=>by subst z;rw[q]at mu;exact nm mu
 refine⟨λb u q n _ _=>k b u (hb b n) q,λb u q n _ _=>⟨u.slots,k b u (hb b n) q⟩,λb u q n _=>by rw[Jn (hx b n)];exact n,λb u q _=>?_,
  λb xs q=>by rw[Jn (hm b _ q λz=>z)];exact q,λb u xs q=>by rw[Jn (hm b _ q λz=>z)];exact q,λb ps q=>⟨#[],by rw[Jn (hm b _ q λz=>z),q];simp⟩⟩
 by_cases hbe:b=e
 ·subst hbe;exact heo
 ·exact⟨u,k b u hbe q⟩
end
def trk(h:Heap)(H:Hp):List Addr:=(List.range h.objs.size).filter λa=>(H a).isSome
def hidT(h:Heap)(H:Hp):Heap:=PySem.W.hideAll h (trk h H)
def Lr(h:Heap)(H:Hp):(hidT h H).objs.size=h.objs.size:=PySem.W.hideAll_size _ _
def G3{h:Heap}{H:Hp}{b:Addr}{o:Obj}(e:h.get? b=some o)(n:H b=none):(hidT h H).get? b=some o:=
 PySem.W.hideAll_get _ e λhm=>by
  have q:(H b).isSome=true:=(Y2.mp hm).2;rw[n]at q;simp at q
def Ry{h:Heap}{H:Hp}{b:Addr}{o:Obj}(e:(hidT h H).get? b=some o):h.get? b=some o/\H b=none:=by
 have e':h.get? b=some o:=PySem.W.of_hideAll (trk h H) e;refine⟨e',?_⟩;cases q:H b with
 |none=>rfl
 |some x=>
  have hm:b∈trk h H:=Y2.mpr ⟨List.mem_range.mpr (Yd e'),by simp[q]⟩;have z:(hidT h H).get? b=none:=PySem.W.hideAll_none (trk h H) hm;rw[z]at e;cases e
def Iw(g h:Heap)(L:Addr):List (Addr×Obj):=(List.range h.objs.size).filterMap λa=>if a=L\/(g.get? a).isSome=true then none else(h.get? a).map λo=>(a,o)
def rest(g h:Heap)(L d:Addr):List (Addr×Obj):=(Iw g h L).filter λp=>decide (p.1≠d)
structure Mod (K:Za) (mg:Str->Option Value) (base:Heap):Prop where
 kin:K.In base
 glob:base.Ns mainGlobals mg
 blt:∃mb,base.Ns builtinsNs mb/\∀x:Str,x≠"__name__"->mb x=bootBuiltins x
 nolimit:base.NoLimit
structure Cx where
 prog:Program
 w:World
 K:Za
 mg:Str->Option Value
 base:Heap
 A:Around
 N:List Str
 s₀:Shared
 H₀:Hp
 env:Env
 outer:List Env
 stack:List Env
 ex:List Addr
 fn:Str->Bool
 calm:Bool
 pn:List (Addr×Obj)
 xe:Value->Shared->Prop
def frs(l:List Env):List Addr:=l.filterMap (·.frame)
abbrev Cx.fs (X:Cx):List Addr:=frs X.outer
def Vis(sc:Scope)(x:Str):Prop:=sc.names.lookup x=some .local\/sc.names.lookup x=some .cell\/sc.names.lookup x=some .free
def Loc(sc:Scope)(x:Str):Prop:=sc.names.lookup x=some .local\/sc.names.lookup x=some .cell
def Look(env:Env)(h:Heap)(m:Str->Option Value)(x:Str)(u:Value):Prop:=
 (env.kindOf x=some .local/\m x=some u)\/((env.kindOf x=some .cell\/env.kindOf x=some .free)/\∃c,env.cells.lookup x=some c/\h.IsCell c (some u))
structure Cx.Ok (X:Cx):Prop where
 mod:Mod X.K X.mg X.base
 kind:X.env.scope.kind=.function
 glob:X.env.globals=mainGlobals
 blt:X.env.builtins=builtinsNs
 above:X.s₀.heap.objs.size<=X.env.locals
 inj:∀x y c,X.env.cells.lookup x=some c->X.env.cells.lookup y=some c->x=y
 has:∀x,(X.env.kindOf x=some .cell\/X.env.kindOf x=some .free)->∃c,X.env.cells.lookup x=some c
 cab:∀x c,X.fn x=true->X.env.cells.lookup x=some c->X.s₀.heap.objs.size<=c
 hd:X.calm=true->X.A.handled=none
 frames:X.A.frames=some X.stack
 stk:X.stack=X.outer\/(X.stack=X.env::X.outer/\X.env.frame=some X.env.locals)
 exf:∀b∈X.ex,b≠X.env.locals/\∀x c,X.env.cells.lookup x=some c->c≠b
 bs:∀b o,X.base.get? b=some o->X.s₀.heap.get? b=some o/\X.H₀ b=none
 bsz:X.base.objs.size<=X.s₀.heap.objs.size
 noex:∀b o,X.base.get? b=some o->b∉X.ex
 exfs:∀b∈X.ex,b∉X.fs
 funs:X.s₀.heap.FunFrames X.base X.outer
 frf:∀b∈X.fs,X.H₀ b=none
structure Inv (X:Cx) (pins:List (Addr×Obj)) (σ:List (Option V)) (H:Hp) (s:Shared):Prop where
 ok:X.Ok
 os:s.os=X.s₀.os
 bare:AllBare s.gens
 base:Un X.fs X.ex X.H₀ H X.s₀.heap s.heap
 loc:∃m,s.heap.Ns X.env.locals m/\∀(i:Nat) (x:Str) (v:V),X.N[i]?=some x->σ[i]?=some (some v)->Vis X.env.scope x->∃u,RelV v u/\Look X.env s.heap m x u
 cell:∀x c,X.env.cells.lookup x=some c->∃v,s.heap.IsCell c v
 free:H X.env.locals=none
 freeC:∀x c,X.env.cells.lookup x=some c->H c=none
 pin:∀p∈X.pn++pins,s.heap.get? p.1=some p.2/\H p.1=none/\p.1≠X.env.locals/\p.1∉X.fs/\∀v,p.2.data≠.cell v
 hok:HOk X.prog X.w H s.heap
 len:σ.length=X.N.length
section
variable {X:Cx}{pins:List (Addr×Obj)}{σ:List (Option V)}{H H':Hp}{s:Shared}{h':Heap}
def Cx.Ok.nofr (ok:X.Ok) {b:Addr}{o:Obj} (e:X.base.get? b=some o):b∉X.fs:=λhb=>by
 have:=(ok.funs.mem hb).1
 rw[e]at this;cases this
def Inv.bs (I:Inv X pins σ H s):∀b o,X.base.get? b=some o->s.heap.get? b=some o/\H b=none:=λb o e=>
 ⟨I.base.keep b o (I.ok.bs b o e).1 (I.ok.bs b o e).2 (I.ok.nofr e) (I.ok.noex b o e),I.base.free b o (I.ok.bs b o e).1 (I.ok.bs b o e).2 (I.ok.noex b o e)⟩
def Inv.bk (I:Inv X pins σ H s):∀b o,X.base.get? b=some o->s.heap.get? b=some o:=λb o e=>(I.bs b o e).1
def Inv.mod (I:Inv X pins σ H s):Mod X.K X.mg X.base:=I.ok.mod
def Inv.kIn (I:Inv X pins σ H s):X.K.In s.heap:=I.ok.mod.kin.keeps I.bk
def Inv.lt (I:Inv X pins σ H s):X.env.locals<s.heap.objs.size:=let ⟨_,hn,_⟩:=I.loc;hn.lt
def Inv.sz (I:Inv X pins σ H s):X.s₀.heap.objs.size<=s.heap.objs.size:=Yn I.ok.above (Qk I.lt)
def Inv.nofs (I:Inv X pins σ H s) {a:Addr} (h:s.heap.objs.size<=a):a∉X.fs:=λhb=>by
 obtain⟨_,o,ho,_⟩:=I.ok.funs.mem hb;exact absurd (Y3 (Yd ho) (Yn I.sz h)) (Wh _)
def Inv.cne (I:Inv X pins σ H s):∀x c,X.env.cells.lookup x=some c->c≠X.env.locals:=λx c e z=>by
 obtain⟨v,o,ho,hd⟩:=I.cell x c e;obtain⟨m,⟨o',es,ep,ho',hd',_⟩,_⟩:=I.loc;rw[z,ho']at ho;cases ho;rw[hd']at hd;cases hd
def Inv.funs (I:Inv X pins σ H s):s.heap.FunFrames X.base X.outer:=by
 have all:∀(l:List Env),(∀b∈frs l,b∈X.fs)->X.s₀.heap.FunFrames X.base l->s.heap.FunFrames X.base l:=by
  intro l
  induction l with
  |nil=>intro _ _;trivial
  |cons env r ih=>
   intro hs hl;obtain⟨hk,⟨L,o,hf,hn,ho,hd⟩,hr⟩:=hl;have hL:L∈X.fs:=hs L (by unfold frs;rw[Wv,hf];exact Yz);obtain⟨sl,e⟩:=I.base.slot L o ho (I.ok.frf L hL) hL λz=>I.ok.exfs L z hL;exact⟨hk,⟨L,_,hf,hn,e,hd⟩,ih (λb hb=>hs b (by unfold frs;rw[Wv,hf];exact Yq _ hb)) hr⟩
 exact all X.outer (λ_ hb=>hb) I.ok.funs
def Inv.stack (I:Inv X pins σ H s):s.heap.FunFrames X.base X.stack:=by
 rcases I.ok.stk with e|⟨e,hf⟩
 ·rw[e];exact I.funs
 ·rw[e];obtain⟨m,hn,_⟩:=I.loc;refine .cons (by rw[I.ok.kind];decide) hf hn ?_ I.funs;exact WB (Yn I.ok.bsz I.ok.above)
def Inv.stkSub (I:Inv X pins σ H s):∀b∈frs X.stack,b∈X.env.locals::X.fs:=λb hb=>by
 rcases I.ok.stk with e|⟨e,hf⟩
 ·rw[e]at hb;exact Yq _ hb
 ·rw[e]at hb;unfold frs at hb;rw[Wv,hf]at hb;exact hb
def Inv.stkFree (I:Inv X pins σ H s):∀b∈frs X.stack,H b=none:=λb hb=>by
 rcases Yh.mp (I.stkSub b hb)with e|hb
 ·rw[e];exact I.free
 ·obtain⟨_,o,ho,_⟩:=I.ok.funs.mem hb;exact I.base.free b o ho (I.ok.frf b hb) λz=>I.ok.exfs b z hb
def Inv.step {g':Array GenState}{t':Nat}{d':Drawn}{ch:List Addr} (I:Inv X pins σ H s)
  (hch:∀b∈ch,(b∈X.ex\/X.s₀.heap.objs.size<=b)/\b≠X.env.locals/\(∀x c,X.env.cells.lookup x=some c->c≠b)/\∀p∈X.pn++pins,p.1≠b)
  (keep:∀b o,b≠X.env.locals->b∉X.fs->b∉ch->s.heap.get? b=some o->H b=none->h'.get? b=some o)
  (slot:∀b o,b≠X.env.locals->b∈X.fs->b∉ch->s.heap.get? b=some o->H b=none->∃sl,h'.get? b=some {o with slots:=sl}) (free:∀b o,b∉ch->s.heap.get? b=some o->H b=none->H' b=none)
  (there:∀b o,b∉ch->s.heap.get? b=some o->∃o',h'.get? b=some o')
  (tups:∀b xs,H b=some (.tup xs)->H' b=some (.tup xs)) (frzs:∀b o u,H b=some (.frz o u)->H' b=some (.frz o u)) (tbls:∀b ps,H b=some (.tbl ps)->∃more,H' b=some (.tbl (ps++more)))
  (ns:∀m,s.heap.Ns X.env.locals m->h'.Ns X.env.locals m) (hok:HOk X.prog X.w H' h') (hg:AllBare g') :
  Inv X pins σ H' {s with heap:=h',gens:=g',drawn:=d',toks:=t'}:=by
 have neL:∀b o,X.s₀.heap.get? b=some o->b≠X.env.locals:=λb o e=>Yy (Y3 (Yd e) I.ok.above)
 have neC:∀b o,X.s₀.heap.get? b=some o->b∉X.ex->b∉ch:=λb o e hx hb=>by
  rcases(hch b hb).1 with z|z
  ·exact hx z
  ·exact absurd (Y3 (Yd e) z) (Wh _)
 have cellK:∀x c,X.env.cells.lookup x=some c->∀v,s.heap.IsCell c v->h'.IsCell c v:=λx c e v ⟨o,ho,hd⟩=>by
  have nch:c∉ch:=λz=>(hch c z).2.2.1 x c e rfl;by_cases hc:c∈X.fs
  ·obtain⟨sl,q⟩:=slot c o (I.cne x c e) hc nch ho (I.freeC x c e);exact⟨_,q,hd⟩
  ·exact⟨o,keep c o (I.cne x c e) hc nch ho (I.freeC x c e),hd⟩
 refine⟨I.ok,I.os,hg,⟨λb o e n hb hx=>?_,λb o e n hb hx=>?_,λb o e n hx=>?_,λb o e hx=>?_,λb xs e=>tups b xs (I.base.tups b xs e),λb o xs e=>frzs b o xs (I.base.frzs b o xs e),λb ps e=>?_⟩,?_,λx c e=>?_,?_,λx c e=>?_,λp hp=>?_,hok,I.len⟩
 ·exact keep b o (neL b o e) hb (neC b o e hx) (I.base.keep b o e n hb hx) (I.base.free b o e n hx)
 ·obtain⟨sl,e1⟩:=I.base.slot b o e n hb hx;obtain⟨sl',e2⟩:=slot b _ (neL b o e) hb (neC b o e hx) e1 (I.base.free b o e n hx);exact⟨sl',e2⟩
 ·obtain⟨o',e1⟩:=I.base.there b o e hx;exact free b o' (neC b o e hx) e1 (I.base.free b o e n hx)
 ·obtain⟨o',e1⟩:=I.base.there b o e hx;exact there b o' (neC b o e hx) e1
 ·obtain⟨m1,e1⟩:=I.base.tbls b ps e;obtain⟨m2,e2⟩:=tbls b _ e1;exact⟨m1++m2,by rw[e2,Array.append_assoc]⟩
 ·obtain⟨m,hn,hl⟩:=I.loc;refine⟨m,ns m hn,λi x v e1 e2 e3=>?_⟩;obtain⟨u,r,l⟩:=hl i x v e1 e2 e3;refine⟨u,r,?_⟩;rcases l with l|⟨k,c,e,z⟩
  ·exact .inl l
  ·exact .inr ⟨k,c,e,cellK x c e _ z⟩
 ·obtain⟨v,z⟩:=I.cell x c e;exact⟨v,cellK x c e v z⟩
 ·obtain⟨m,⟨o,_,_,ho,_⟩,_⟩:=I.loc;exact free _ o (λz=>(hch _ z).2.1 rfl) ho I.free
 ·obtain⟨v,o,ho,hd⟩:=I.cell x c e;exact free c o (λz=>(hch c z).2.2.1 x c e rfl) ho (I.freeC x c e)
 ·obtain⟨e,n,ne,nf,d⟩:=I.pin p hp;have nch:p.1∉ch:=λz=>(hch p.1 z).2.2.2 p hp rfl;exact⟨keep p.1 p.2 ne nf nch e n,free p.1 p.2 nch e n,ne,nf,d⟩
def Inv.un {t':Nat} (I:Inv X pins σ H s) (u:Un X.fs [] H H' s.heap h') (hok:HOk X.prog X.w H' h'):Inv X pins σ H' {s with heap:=h',toks:=t'}:=by
 obtain⟨m,⟨o,es,ep,ho,r⟩,_⟩:=id I.loc;obtain⟨sl,hL⟩:=u.any ho I.free (by simp)
 exact I.step (g':=s.gens) (d':=s.drawn) (ch:=[]) (λ_ z=>nomatch z) (λb o _ hb _ e n=>u.keep b o e n hb (by simp)) (λb o _ hb _ e n=>u.slot b o e n hb (by simp)) (λb o _ e n=>u.free b o e n (by simp)) (λb o _ e=>u.there b o e (by simp)) u.tups u.frzs u.tbls (λm' hm=>by
  obtain⟨o',es',ep',ho',r'⟩:=hm;rw[ho]at ho';cases ho';exact⟨_,es',ep',hL,r'⟩) hok I.bare
def Inv.call {g':Array GenState}{t':Nat}{d':Drawn}{ch:List Addr} (I:Inv X pins σ H s) (u:Un (frs X.stack) ch H H' s.heap h') (hok:HOk X.prog X.w H' h') (hg:AllBare g')
  (hch:∀b∈ch,(b∈X.ex\/X.s₀.heap.objs.size<=b)/\b≠X.env.locals/\(∀x c,X.env.cells.lookup x=some c->c≠b)/\∀p∈X.pn++pins,p.1≠b) :
  Inv X pins σ H' {s with heap:=h',gens:=g',drawn:=d',toks:=t'}:=by
 obtain⟨m,⟨o,es,ep,ho,r⟩,_⟩:=id I.loc;obtain⟨sl,hL⟩:=u.any ho I.free λz=>(hch _ z).2.1 rfl
 exact I.step (ch:=ch) hch (λb o hL hb hc e n=>u.keep b o e n (λz=>(Yh.mp (I.stkSub b z)).elim hL hb) hc) (λb o _ _ hc e n=>u.any e n hc) (λb o hc e n=>u.free b o e n hc) (λb o hc e=>u.there b o e hc) u.tups u.frzs u.tbls (λm' hm=>by
  obtain⟨o',es',ep',ho',r'⟩:=hm;rw[ho]at ho';cases ho';exact⟨_,es',ep',hL,r'⟩) hok hg
def Inv.turned {t':Nat}{it:Addr} (I:Inv X pins σ H s) (k:∀b o,b≠it->s.heap.get? b=some o->h'.get? b=some o) (hn:H it=none) (hL:it≠X.env.locals)
  (h1:it∈X.ex\/X.s₀.heap.objs.size<=it) (h2:∀x c,X.env.cells.lookup x=some c->c≠it) (h3:∀p∈X.pn++pins,p.1≠it):Inv X pins σ H {s with heap:=h',toks:=t'}:=by
 have nit:∀b u,H b=some u->b≠it:=λb u e z=>by rw[z,hn]at e;cases e
 refine I.step (g':=s.gens) (d':=s.drawn) (ch:=[it]) (λb hb=>?_) (λb o _ _ hc e _=>k b o (λz=>hc (by simp[z])) e) (λb o _ _ hc e _=>⟨o.slots,k b o (λz=>hc (by simp[z])) e⟩) (λ_ _ _ _ n=>n)
  (λb o hc e=>⟨o,k b o (λz=>hc (by simp[z])) e⟩) (λ_ _ e=>e) (λ_ _ _ e=>e) (λb ps e=>⟨#[],by rw[e];simp⟩) (λm hm=>?_) (λb u e=>?_) I.bare
 ·have e:b=it:=by simpa using hb
  subst e;exact⟨h1,hL,h2,h3⟩
 ·obtain⟨o,es,ep,ho,r⟩:=hm;exact⟨o,es,ep,k _ o (Ne.symm hL) ho,r⟩
 ·refine(I.hok b u e).stay (λc v hc q=>k c v ?_ q) (λ_ q=>q) λ_ _ q=>q;rcases hc with z|z
  ·rw[z];exact nit b u e
  ·exact nit c _ z
def Inv.tok (I:Inv X pins σ H s) (t:Nat):Inv X pins σ H {s with toks:=t}:=I.un (h':=s.heap) (t':=t) Un.refl I.hok
def Inv.kept {t':Nat} (I:Inv X pins σ H s) (k:∀b u,s.heap.get? b=some u->h'.get? b=some u):Inv X pins σ H {s with heap:=h',toks:=t'}:=I.un (Un.kept k) (I.hok.kept k)
def Inv.laid {a:Addr}{o:HO}{t':Nat} (I:Inv X pins σ H s) (k:∀b u,s.heap.get? b=some u->h'.get? b=some u) (hp:s.heap.objs.size<=a) (new:ObjOk X.prog X.w (upd H a o) h' a o) :
  Inv X pins σ (upd H a o) {s with heap:=h',toks:=t'}:=I.un (Un.laid k hp (I.hok.fresh hp)) (I.hok.laid k hp new)
def Inv.write {x e:Addr}{o:HO}{t':Nat} (I:Inv X pins σ H s) (mu:Mut (H x)) (he:e=x\/H e=some (.own x)) (k:∀b u,b≠e->s.heap.get? b=some u->h'.get? b=some u) (heo:∃u,h'.get? e=some u)
  (new:ObjOk X.prog X.w (upd H x o) h' x o):Inv X pins σ (upd H x o) {s with heap:=h',toks:=t'}:=I.un (Un.write mu he k heo) (I.hok.write mu he k heo new)
def Inv.weak {σ':List (Option V)} (I:Inv X pins σ H s) (hl:σ'.length=σ.length) (w:∀(i:Nat) v,σ'[i]?=some (some v)->σ[i]?=some (some v)):Inv X pins σ' H s:=
 ⟨I.ok,I.os,I.bare,I.base,let ⟨m,hn,hl'⟩:=I.loc;⟨m,hn,λi x v e1 e2 e3=>hl' i x v e1 (w i v e2) e3⟩,I.cell,I.free,I.freeC,I.pin,I.hok,hl.trans I.len⟩
def Inv.pins_of {pins':List (Addr×Obj)} (I:Inv X pins σ H s) (h:∀p∈pins',s.heap.get? p.1=some p.2/\H p.1=none/\p.1≠X.env.locals/\p.1∉X.fs/\∀v,p.2.data≠.cell v):Inv X pins' σ H s:=
 ⟨I.ok,I.os,I.bare,I.base,I.loc,I.cell,I.free,I.freeC,λp hp=>(Yt.mp hp).elim (λz=>I.pin p (Wm _ z)) (h p),I.hok,I.len⟩
def NC{N:List Str}(hN:N.Nodup){i j:Nat}{x:Str}(a:N[i]?=some x)(b:N[j]?=some x):i=j:=by
 obtain⟨h1,e1⟩:=Yk.mp a;obtain⟨h2,e2⟩:=Yk.mp b;exact(Vg hN).mp (e1.trans e2.symm)
def Oa{M:Model}{A:Around}{E:Value->Shared->Prop}{i:Nat}{x:Str}{v:V}{u:Value}{Q:Unit->Shared->Prop}(I:Inv X pins σ H s)(hN:X.N.Nodup)(hi:X.N[i]?=some x)(hx:Loc X.env.scope x)(r:RelV v u)(h:∀s',Inv X pins (σ.set i (some v)) H s'->(∃a,Heap.SameBut a s.heap s'.heap/\(a=X.env.locals\/X.env.cells.lookup x=some a))->Q () s')(hf:X.fn x=true\/X.env.scope.names.lookup x=some .local:=by first|exact .inl rfl|exact .inr rfl|assumption):wpAny M A (storeName X.env x u) Q E s:=by
 obtain⟨m,hn,hl⟩:=id I.loc;have hcls:(X.env.scope.kind == .class || (X.env.scope.kind == .module&&X.env.locals != X.env.globals))=false:=by rw[I.ok.kind];rfl
 have hiσ:i<σ.length:=by rw[I.len];exact(Yk.mp hi).1
 have cne:=I.cne
 have tracked:∀{a:Addr} {h':Heap},(∃o,s.heap.get? a=some o/\H a=none)->Heap.SameBut a s.heap h'->HOk X.prog X.w H h':=λ{a h'} ha hs b ob e=>by
  obtain⟨_,_,hfree⟩:=ha;refine(I.hok b ob e).stay (λc w' hc q=>(hs.2 c ?_).trans q) (λ_ q=>q) λ_ _ q=>q;rintro rfl;rcases hc with rfl|hc
  ·rw[hfree]at e;cases e
  ·rw[hfree]at hc;cases hc
 rcases hx with hk|hk
 ·refine wpAny_storeName_local hk hn (λh' hn' hs=>?_) hcls;obtain⟨oL,_,_,hoL,_⟩:=id hn;refine h _ ⟨I.ok,I.os,I.bare,⟨λb o e n hb hx=>?_,λb o e n hb hx=>?_,I.base.free,λb o e hx=>?_,I.base.tups,I.base.frzs,I.base.tbls⟩,⟨_,hn',λj y v' e1 e2 e3=>?_⟩,λy c e=>?_,I.free,I.freeC,λp hp=>?_,tracked ⟨oL,hoL,I.free⟩ hs,by simpa using I.len⟩ ⟨_,hs,.inl rfl⟩
  ·exact(hs.2 b (Yy (Y3 (Yd e) I.ok.above))).trans (I.base.keep b o e n hb hx)
  ·obtain⟨sl,e1⟩:=I.base.slot b o e n hb hx;exact⟨sl,(hs.2 b (Yy (Y3 (Yd e) I.ok.above))).trans e1⟩
  ·obtain⟨o',e1⟩:=I.base.there b o e hx;exact⟨o',(hs.2 b (Yy (Y3 (Yd e) I.ok.above))).trans e1⟩
  ·by_cases hj:j=i
   ·subst hj;rw[hi]at e1;cases e1;rw[WR hiσ]at e2;cases e2
    exact⟨u,r,.inl ⟨hk,by simp⟩⟩
   ·rw[Qd (Ne.symm hj)]at e2;obtain⟨u',r',q⟩:=hl j y v' e1 e2 e3;refine⟨u',r',?_⟩;rcases q with⟨k,e⟩|⟨k,c,e,z⟩
    ·refine .inl ⟨k,?_⟩
     have:y≠x:=λe=>hj (NC hN e1 (e▸hi))
     simp[this,e]
    ·exact .inr ⟨k,c,e,z.sameBut hs (cne y c e)⟩
  ·obtain⟨w',z⟩:=I.cell y c e;exact⟨w',z.sameBut hs (cne y c e)⟩
  ·obtain⟨e,n,ne,nf,d⟩:=I.pin p hp;exact⟨(hs.2 p.1 ne).trans e,n,ne,nf,d⟩
 ·have hfn:X.fn x=true:=by
   rcases hf with z|z
   ·exact z
   ·rw[z]at hk;cases hk
  obtain⟨c,hc⟩:=I.ok.has x (.inl hk);obtain⟨w',z⟩:=I.cell x c hc;refine wpAny_storeName_cell I.ok.kind hk hc z (λh' hc' hs=>?_);obtain⟨oc,hoc,hocd⟩:=id z;refine h {s with heap:=h'} ⟨I.ok,I.os,I.bare,⟨λb o e n hb hx=>?_,λb o e n hb hx=>?_,I.base.free,λb o e hx=>?_,I.base.tups,I.base.frzs,I.base.tbls⟩,⟨m,hn.sameBut hs (Ne.symm (cne x c hc)),λj y v' e1 e2 e3=>?_⟩,λy c' e=>?_,I.free,I.freeC,λp hp=>?_,tracked ⟨oc,hoc,I.freeC x c hc⟩ hs,by simpa using I.len⟩ ⟨c,hs,.inr hc⟩
  ·exact(hs.2 b (Yy (Y3 (Yd e) (I.ok.cab x c hfn hc)))).trans (I.base.keep b o e n hb hx)
  ·obtain⟨sl,e1⟩:=I.base.slot b o e n hb hx;exact⟨sl,(hs.2 b (Yy (Y3 (Yd e) (I.ok.cab x c hfn hc)))).trans e1⟩
  ·obtain⟨o',e1⟩:=I.base.there b o e hx;exact⟨o',(hs.2 b (Yy (Y3 (Yd e) (I.ok.cab x c hfn hc)))).trans e1⟩
  ·by_cases hj:j=i
   ·subst hj;rw[hi]at e1;cases e1;rw[WR hiσ]at e2;cases e2
    exact⟨u,r,.inr ⟨.inl hk,c,hc,hc'⟩⟩
   ·rw[Qd (Ne.symm hj)]at e2;obtain⟨u',r',q⟩:=hl j y v' e1 e2 e3;refine⟨u',r',?_⟩;rcases q with q|⟨k,c',e,z'⟩
    ·exact .inl q
    ·refine .inr ⟨k,c',e,z'.sameBut hs ?_⟩;rintro rfl;exact hj (NC hN e1 (I.ok.inj _ _ _ e hc▸hi))
  ·by_cases hcc:c'=c
   ·subst hcc;exact⟨_,hc'⟩
   ·obtain⟨w2,z2⟩:=I.cell y c' e;exact⟨w2,z2.sameBut hs hcc⟩
  ·obtain⟨e,n,ne,nf,d⟩:=I.pin p hp;refine⟨(hs.2 p.1 ?_).trans e,n,ne,nf,d⟩;intro q;rw[q,hoc]at e;have q':oc=p.2:=Yf e;exact d w' (by rw[←q'];exact hocd)
def Ka{M:Model}{A:Around}{E:Value->Shared->Prop}{i:Nat}{x:Str}{v:V}{u:Value}{Q:Unit->Shared->Prop}(I:Inv X pins σ H s)(hN:X.N.Nodup)(hi:X.N[i]?=some x)(hx:Loc X.env.scope x)(r:RelV v u)(h:∀s',Inv X pins (σ.set i (some v)) H s'->Q () s')(hf:X.fn x=true\/X.env.scope.names.lookup x=some .local:=by first|exact .inl rfl|exact .inr rfl|assumption):wpAny M A (storeName X.env x u) Q E s:=
 Oa I hN hi hx r (λs' I' _=>h s' I') hf
def Inv.call' {s':Shared}{ch:List Addr} (I:Inv X pins σ H s) (ho:s'.os=s.os) (u:Un (frs X.stack) ch H H' s.heap s'.heap) (hok:HOk X.prog X.w H' s'.heap) (hg:AllBare s'.gens)
  (hch:∀b∈ch,(b∈X.ex\/X.s₀.heap.objs.size<=b)/\b≠X.env.locals/\(∀x c,X.env.cells.lookup x=some c->c≠b)/\∀p∈X.pn++pins,p.1≠b):Inv X pins σ H' s':=by
 obtain⟨h',g',d',t',o'⟩:=s';have e:o'=s.os:=ho;subst e;exact I.call (g':=g') (t':=t') (d':=d') u hok hg hch
end
abbrev XK:=Value->Option Addr->Hp->Prop
abbrev St:=List (Option V)
abbrev VK:=V->Hp->Prop
abbrev TE:=St->Hp->VK->Prop
abbrev TT:=St->Hp->(Bool->Hp->Prop)->Prop
abbrev TA:=St->Hp->(List V->Hp->Prop)->Prop
structure Ends where
 nx:St->Hp->Prop
 rt:VK
 bk:St->Hp->Prop:=λ_ _=>False
 ct:St->Hp->Prop:=λ_ _=>False
abbrev TS:=Ends->St->Hp->Prop
def EP(X:Cx)(pins:List (Addr×Obj))(σ:St)(Q:VK)(u:Value)(s':Shared):Prop:=∃v H',Inv X pins σ H' s'/\RelV v u/\Q v H'
def TP(X:Cx)(pins:List (Addr×Obj))(σ:St)(Q:Bool->Hp->Prop)(b:Bool)(s':Shared):Prop:=∃H',Inv X pins σ H' s'/\Q b H'
def AP(X:Cx)(pins:List (Addr×Obj))(σ:St)(Q:List V->Hp->Prop)(us:List Value)(s':Shared):Prop:=∃vs H',Inv X pins σ H' s'/\Vals vs us/\Q vs H'
def SP(X:Cx)(pins:List (Addr×Obj))(D:Ends)(f:Flow)(s':Shared):Prop:=
 match f with
 | .next=>∃σ' H',Inv X pins σ' H' s'/\D.nx σ' H'
 | .brk=>∃σ' H',Inv X pins σ' H' s'/\D.bk σ' H'
 | .cont=>∃σ' H',Inv X pins σ' H' s'/\D.ct σ' H'
 | .ret u=>∃v σ' H',Inv X pins σ' H' s'/\RelV v u/\D.rt v H'
def PE(X:Cx)(e:Expr)(t:TE):Prop:=
 ∀(pins:List (Addr×Obj)) (s:Shared) (σ:St) (H:Hp) (Q:VK),Inv X pins σ H s->t σ H Q->wpAny (model X.prog X.w) X.A (eval e X.env) (EP X pins σ Q) X.xe s
def PT(X:Cx)(e:Expr)(t:TT):Prop:=
 ∀(pins:List (Addr×Obj)) (s:Shared) (σ:St) (H:Hp) (Q:Bool->Hp->Prop),Inv X pins σ H s->t σ H Q->wpAny (model X.prog X.w) X.A (isTrue e X.env (eval e X.env)) (TP X pins σ Q) X.xe s
def PW(X:Cx)(e:Expr)(t:TT):Prop:=
 ∀(whole:Sem Value) (pins:List (Addr×Obj)) (s:Shared) (σ:St) (H:Hp) (Q:Bool->Hp->Prop),Inv X pins σ H s->t σ H Q->wpAny (model X.prog X.w) X.A (isTrue e X.env whole) (TP X pins σ Q) X.xe s
def PW.pt {X:Cx}{e:Expr}{t:TT} (h:PW X e t):PT X e t:=h _
def PA(X:Cx)(es:List Expr)(t:TA):Prop:=
 ∀(pos:Pos) (pins:List (Addr×Obj)) (s:Shared) (σ:St) (H:Hp) (Q:List V->Hp->Prop),Inv X pins σ H s->t σ H Q->wpAny (model X.prog X.w) X.A (spliced (backTo pos (starEach es X.env))) (AP X pins σ Q) X.xe s
def PS(X:Cx)(st:Stmt)(t:TS):Prop:=
 ∀(pins:List (Addr×Obj)) (s:Shared) (σ:St) (H:Hp) (D:Ends),Inv X pins σ H s->t D σ H->wpAny (model X.prog X.w) X.A (exec st X.env) (SP X pins D) X.xe s
def PSs(X:Cx)(st:List Stmt)(t:TS):Prop:=
 ∀(pins:List (Addr×Obj)) (s:Shared) (σ:St) (H:Hp) (D:Ends),Inv X pins σ H s->t D σ H->wpAny (model X.prog X.w) X.A (execs st X.env) (SP X pins D) X.xe s
def thn{α:Type}{t:Sem α}{Q Q':α->Shared->Prop}{M:Model}{A:Around}{E:Value->Shared->Prop}{s:Shared}(h:wpAny M A t Q E s)(hQ:∀a s,Q a s->Q' a s):wpAny M A t Q' E s:=YB h hQ λ_ _ x=>x
section
variable {X:Cx}
def bin{a b:Expr}{ta tb:TE}(ha:PE X a ta)(hb:PE X b tb){pins:List (Addr×Obj)}{s:Shared}{σ:St}{H:Hp}{R:V->V->Hp->Prop}(I:Inv X pins σ H s)(h:ta σ H λx H1=>tb σ H1 λy H2=>R x y H2){α:Type}{Q:α->Shared->Prop}{f:Value->Value->Sem α}(hf:∀v u s2 x y H2,Inv X pins σ H2 s2->RelV x v->RelV y u->R x y H2->wpAny (model X.prog X.w) X.A (f v u) Q X.xe s2) :
  wpAny (model X.prog X.w) X.A (eval a X.env) (λv s₁=>wpAny (model X.prog X.w) X.A (eval b X.env) (λu s₂=>wpAny (model X.prog X.w) X.A (f v u) Q X.xe s₂) X.xe s₁) X.xe s:=by
 refine thn (ha pins s σ H _ I h) λv s1 ⟨x,H1,I1,r1,q1⟩=>?_;refine thn (hb pins s1 σ H1 _ I1 q1) λu s2 ⟨y,H2,I2,r2,q2⟩=>?_;exact hf v u s2 x y H2 I2 r1 r2 q2
def tVar(i:Nat):TE:=λσ H Q=>∃v,σ[i]?=some (some v)/\Q v H
def tC(v:V):TE:=λ_ H Q=>Q v H
def Hw{i:Nat}{x:Str}{pos:Pos}(hN:X.N[i]?=some x)(hv:Vis X.env.scope x)(hd:(x==("__debug__" : Str))=false:=by decide)(hcd:(x==("__classdict__" : Str))=false:=by decide):PE X (.Name x pos) (tVar i):=by
 intro pins s σ H Q I h;obtain⟨v,e,h⟩:=h;obtain⟨m,hn,hl⟩:=I.loc;obtain⟨u,r,l⟩:=hl i x v hN e hv;have fin:EP X pins σ Q u s:=⟨v,H,I,r,h⟩;rcases l with⟨hk,hm⟩|⟨hk,c,hc,hcell⟩
 ·exact wpAny_Name (wpAny_loadName_local I.ok.kind hk hn hm fin) hd
 ·rcases hk with hk|hk
  ·exact wpAny_Name (wpAny_loadName_cell I.ok.kind hk hc hcell fin) hd
  ·exact wpAny_Name (wpAny_loadName_free I.ok.kind hk hc hcell fin hcd) hd
def Jf{i j pos}:PE X (.Constant (.int i) j pos) (tC (.int i)):=λ_ _ _ H _ I h=>wpAny_Constant_int ⟨.int i,H,I.tok _,⟨_,rfl⟩,h⟩
def Uk{b j pos}:PE X (.Constant (.bool b) j pos) (tC (.bl b)):=λ_ _ _ H _ I h=>Constant_bool ⟨.bl b,H,I,rfl,h⟩
def Pk{x j pos}:PE X (.Constant (.str x) j pos) (tC (.str x)):=λ_ _ _ H _ I h=>Calls.Constant_str ⟨.str x,H,I.tok _,⟨_,rfl⟩,h⟩
def Gl(X:Cx)(x:Str):Prop:=X.env.kindOf x=some .globalImplicit
def K9{E:Value->Shared->Prop}{pins:List (Addr×Obj)}{s:Shared}{σ:St}{H:Hp}{x:Str}{u:Value}{pos:Pos}{Q:Value->Shared->Prop}(I:Inv X pins σ H s)(hg:Gl X x)(hm:X.mg x=some u)(h:Q u s)(hd:(x==("__debug__" : Str))=false:=by decide):wpAny (model X.prog X.w) X.A (eval (.Name x pos) X.env) Q E s:=
 Calls.Name_function_global I.ok.kind hg (Calls.loadGlobal_global (by rw[I.ok.glob];exact I.mod.glob.keeps I.bk) hm h) hd
def Pi{E:Value->Shared->Prop}{pins:List (Addr×Obj)}{s:Shared}{σ:St}{H:Hp}{x:Str}{u:Value}{pos:Pos}{Q:Value->Shared->Prop}(I:Inv X pins σ H s)(hg:Gl X x)(hm:X.mg x=none)(hv:bootBuiltins x=some u)(h:Q u s)(hn:x≠"__name__":=by decide)(hd:(x==("__debug__" : Str))=false:=by decide):wpAny (model X.prog X.w) X.A (eval (.Name x pos) X.env) Q E s:=by
 obtain⟨mb,h1,h2⟩:=I.mod.blt;exact Calls.Name_function_global I.ok.kind hg (Calls.loadGlobal_builtin (by rw[I.ok.glob];exact I.mod.glob.keeps I.bk) hm (by rw[I.ok.blt];exact h1.keeps I.bk) ((h2 x hn).trans hv) h) hd
def OV{x:Str}{v:V}{u:Value}{pos:Pos}(hg:Gl X x)(hm:X.mg x=some u)(r:RelV v u)(hd:(x==("__debug__" : Str))=false:=by decide):PE X (.Name x pos) (tC v):=
 λ_ _ _ H _ I h=>K9 I hg hm ⟨v,H,I,r,h⟩ hd
def Kc{x:Str}{v:V}{u:Value}{pos:Pos}(hg:Gl X x)(hm:X.mg x=none)(hv:bootBuiltins x=some u)(r:RelV v u)(hn:x≠"__name__":=by decide)(hd:(x==("__debug__" : Str))=false:=by decide):PE X (.Name x pos) (tC v):=
 λ_ _ _ H _ I h=>Pi I hg hm hv ⟨v,H,I,r,h⟩ hn hd
variable {a b:Expr}{ta tb:TE}{pos:Pos}
def PC(X:Cx)(op:CmpOp)(a b:Expr)(t:TE):Prop:=
 ∀(pins:List (Addr×Obj)) (s:Shared) (σ:St) (H:Hp) (Q:VK),Inv X pins σ H s->t σ H Q->
  wpAny (model X.prog X.w) X.A (eval a X.env) (λv s₁=>wpAny (model X.prog X.w) X.A (eval b X.env) (λu s₂=>wpAny (model X.prog X.w) X.A (compareOp op v u) (EP X pins σ Q) X.xe s₂) X.xe s₁) X.xe s
def Zab(b:Expr){op:CmpOp}(h:op≠.In)(h2:op≠.NotIn):behindInMarks op b=false:=by
 have e1:(op==CmpOp.In)=false:=by cases op<;>first|rfl|exact absurd rfl h
 have e2:(op==CmpOp.NotIn)=false:=by cases op<;>first|rfl|exact absurd rfl h2
 cases b<;>simp[behindInMarks,e1,e2]
def tB(t:TE):TT:=λσ H Q=>t σ H λx H1=>∃c,x=.bl c/\Q c H1
def Rh{op:CmpOp}{t:TE}(h:PC X op a b t)(h1:behindInMarks op b=false:=by first|exact Zab _ (by decide) (by decide)|rfl):PT X (.Compare a [op] [b] pos) (tB t):=by
 intro pins s σ H Q I hw;refine wpAny_isTrue_Compare1 (thn (h pins s σ H _ I hw) λv s1 h1=>thn h1 λu s2 h2=>thn h2 λc s3 ⟨x,H1,I1,r1,q1⟩=>?_) h1;obtain⟨d,rfl,q⟩:=q1;cases r1
 exact W8 ⟨H1,I1,q⟩
variable {tA tB':TT}{rest:List Expr}
def tAnd(t u:TT):TT:=λσ H Q=>t σ H λc H1=>if c=true then u σ H1 Q else Q false H1
def tOr(t u:TT):TT:=λσ H Q=>t σ H λc H1=>if c=true then Q true H1 else u σ H1 Q
def tNot(t:TT):TT:=λσ H Q=>t σ H λc H1=>Q (!c) H1
def Ky(ha:PT X a tA):PW X (.BoolOp .And [a] pos) tA:=by
 intro wh pins s σ H Q I h;refine isTrue_and (thn (ha pins s σ H Q I h) λc s1 e=>?_);cases c with
 |true=>exact isTrue_and_nil e
 |false=>exact e
def U9(ha:PT X a tA):PW X (.BoolOp .Or [a] pos) tA:=by
 intro wh pins s σ H Q I h;refine isTrue_or (thn (ha pins s σ H Q I h) λc s1 e=>?_);cases c with
 |false=>exact isTrue_or_nil e
 |true=>exact e
def XT(ha:PT X a tA)(hb:PW X (.BoolOp .And (b::rest) pos) tB'):PW X (.BoolOp .And (a::b::rest) pos) (tAnd tA tB'):=by
 intro wh pins s σ H Q I h;refine isTrue_and (thn (ha pins s σ H _ I h) λc s1 ⟨H1,I1,q1⟩=>?_);cases c with
 |true=>exact hb wh pins s1 σ H1 Q I1 q1
 |false=>exact⟨H1,I1,q1⟩
def U0(ha:PT X a tA)(hb:PW X (.BoolOp .Or (b::rest) pos) tB'):PW X (.BoolOp .Or (a::b::rest) pos) (tOr tA tB'):=by
 intro wh pins s σ H Q I h;refine isTrue_or (thn (ha pins s σ H _ I h) λc s1 ⟨H1,I1,q1⟩=>?_);cases c with
 |true=>exact⟨H1,I1,q1⟩
 |false=>exact hb wh pins s1 σ H1 Q I1 q1
def Um(ha:PT X a tA):PT X (.UnaryOp .Not a pos) (tNot tA):=by
 intro pins s σ H Q I h;exact isTrue_not (ha pins s σ H (λc H1=>Q (!c) H1) I h)
def Af(ta tb:TE):TE:=λσ H Q=>ta σ H λx H1=>∃c,x=.bl c/\if c=true then tb σ H1 Q else Q (.bl false) H1
def AD(ta:TE):TE:=λσ H Q=>ta σ H λx H1=>∃c,x=.bl c/\Q (.bl (!c)) H1
def Sa{op}{t:TE}(h:PE X a t):PE X (.BoolOp op [a] pos) t:=λpins s σ H Q I hw=>BoolOp_one (h pins s σ H Q I hw)
def Nd(ha:PE X a ta)(hb:PE X (.BoolOp .And (b::rest) pos) tb):PE X (.BoolOp .And (a::b::rest) pos) (Af ta tb):=by
 intro pins s σ H Q I h;refine BoolOp_and (thn (ha pins s σ H _ I h) λv s1 ⟨x,H1,I1,r1,q1⟩=>?_);obtain⟨c,rfl,q1⟩:=q1;cases r1
 refine W8 ?_;cases c with
 |true=>exact hb pins s1 σ H1 Q I1 q1
 |false=>exact⟨.bl false,H1,I1,rfl,q1⟩
def Ng(ha:PE X a ta):PE X (.UnaryOp .Not a pos) (AD ta):=by
 intro pins s σ H Q I h;refine UnaryOp_ (thn (ha pins s σ H _ I h) λv s1 ⟨x,H1,I1,r1,q1⟩=>?_);obtain⟨c,rfl,q1⟩:=q1;cases r1
 exact not_of (W8 ⟨.bl (!c),H1,I1,rfl,q1⟩)
end
def SqL(K:Za)(H:Hp)(a:Addr)(xs:List V):Prop:=
 Rd H a (.lst xs)\/
  ∃(o:Obj) (its:Array Value) (n:Nat),K.lookup a=some o/\o.cls=.type "list"/\o.dict=none/\o.data=.seq its n/\its.size<=sizeLine/\Vals xs its.toList
def SqT(K:Za)(H:Hp)(a:Addr)(xs:List V):Prop:=
 Rd H a (.tup xs)\/
  ∃(o:Obj) (its:Array Value) (n:Nat),K.lookup a=some o/\o.cls=.type "tuple"/\o.data=.seq its n/\its.size<=sizeLine/\Vals xs its.toList
def absV:Value->Option V
 | .none=>some .non
 | .bool b=>some (.bl b)
 | .int i _=>some (.int i)
 | .str x _=>some (.str x)
 | .bytes b _=>some (.byt b)
 | .float b _=>some (.flt b)
 | .ref a=>some (.ref a)
 | .type n=>some (.ty n)
 |_=>none
def RelV.abs {x:V}{u:Value} (r:RelV x u):absV u=some x:=by
 cases x with
 |non=>cases r;rfl
 |bl _=>cases r;rfl
 |int _=>obtain⟨t,rfl⟩:=r;rfl
 |str _=>obtain⟨t,rfl⟩:=r;rfl
 |byt _=>obtain⟨t,rfl⟩:=r;rfl
 |flt _=>obtain⟨t,rfl⟩:=r;rfl
 |ref _=>cases r;rfl
 |ty _=>cases r;rfl
def RelV.inj {x y:V}{u:Value} (r:RelV x u) (q:RelV y u):x=y:=Yf (r.abs.symm.trans q.abs)
def Vals.inj:∀{xs ys:List V}{us:List Value},Vals xs us->Vals ys us->xs=ys
 |_,_,_,.nil,.nil=>rfl
 |_,_,_,.cons r t,.cons r' t'=>by rw[r.inj r',Vals.inj t t']
section
variable {X:Cx}{pins:List (Addr×Obj)}{σ:St}{H:Hp}{s:Shared}{a:Addr}{xs ys:List V}
def SqL.of {K:Za} (h:H a=some (.lst xs)):SqL K H a xs:=.inl (.inl h)
def SqT.of {K:Za} (h:H a=some (.tup xs)):SqT K H a xs:=.inl (.inl h)
def Inv.list (I:Inv X pins σ H s) (h:SqL X.K H a xs):∃its:List Value,Vals xs its/\PlainL s.heap a its.toArray/\xs.length<=sizeLine:=by
 rcases h with h|⟨o,its,n,hk,hc,hd,hs,hz,r⟩
 ·obtain⟨z,its,n,r,e⟩:=h.ok I.hok;exact⟨its,r,⟨_,n,e,rfl,rfl,rfl⟩,z⟩
 ·refine⟨its.toList,r,⟨o,n,I.kIn a o hk,hc,hd,by simpa using hs⟩,?_⟩;have e:=r.length;simp only[YE]at e;omega
def Inv.tuple (I:Inv X pins σ H s) (h:SqT X.K H a xs):∃its:List Value,Vals xs its/\IsTup s.heap a its.toArray/\xs.length<=sizeLine:=by
 rcases h with h|⟨o,its,n,hk,hc,hs,hz,r⟩
 ·obtain⟨z,its,r,p⟩:=h.ok I.hok;exact⟨its,r,p,z⟩
 ·refine⟨its.toList,r,⟨o,I.kIn a o hk,hc,n,by simpa using hs⟩,?_⟩;have e:=r.length;simp only[YE]at e;omega
def Inv.list_inj (I:Inv X pins σ H s) (h:SqL X.K H a xs) (h':SqL X.K H a ys):xs=ys:=by
 obtain⟨its,r,⟨o,n,e,_,_,d⟩,_⟩:=I.list h;obtain⟨its',r',⟨o',n',e',_,_,d'⟩,_⟩:=I.list h';rw[e]at e';cases e';rw[d]at d';injection d' with d1 _
 have:its=its':=by simpa using YD Array.toList d1
 subst this;exact r.inj r'
def Inv.tuple_inj (I:Inv X pins σ H s) (h:SqT X.K H a xs) (h':SqT X.K H a ys):xs=ys:=by
 obtain⟨its,r,⟨o,e,_,n,d⟩,_⟩:=I.tuple h;obtain⟨its',r',⟨o',e',_,n',d'⟩,_⟩:=I.tuple h';rw[e]at e';cases e';rw[d]at d';injection d' with d1 _
 have:its=its':=by simpa using YD Array.toList d1
 subst this;exact r.inj r'
end
abbrev Cx.wish (X:Cx) (E:Value->Shared->Prop):Cx:={X with xe:=E}
abbrev Cx.nox (X:Cx):Cx:=X.wish λ_ _=>False
def Cx.Ok.wish {X:Cx} (ok:X.Ok) (E:Value->Shared->Prop):(X.wish E).Ok:=
 ⟨ok.mod,ok.kind,ok.glob,ok.blt,ok.above,ok.inj,ok.has,ok.cab,ok.hd,ok.frames,ok.stk,ok.exf,ok.bs,ok.bsz,ok.noex,ok.exfs,ok.funs,ok.frf⟩
def Cx.Ok.unwish {X:Cx}{E:Value->Shared->Prop} (ok:(X.wish E).Ok):X.Ok:=
 ⟨ok.mod,ok.kind,ok.glob,ok.blt,ok.above,ok.inj,ok.has,ok.cab,ok.hd,ok.frames,ok.stk,ok.exf,ok.bs,ok.bsz,ok.noex,ok.exfs,ok.funs,ok.frf⟩
section
variable {X:Cx}{pins:List (Addr×Obj)}{σ:St}{H:Hp}{s:Shared}{E:Value->Shared->Prop}
def Inv.wish (I:Inv X pins σ H s) (E:Value->Shared->Prop):Inv (X.wish E) pins σ H s:=⟨I.ok.wish E,I.os,I.bare,I.base,I.loc,I.cell,I.free,I.freeC,I.pin,I.hok,I.len⟩
def Inv.unwish (I:Inv (X.wish E) pins σ H s):Inv X pins σ H s:=⟨I.ok.unwish,I.os,I.bare,I.base,I.loc,I.cell,I.free,I.freeC,I.pin,I.hok,I.len⟩
def SP.unwish {D:Ends}{f:Flow}{s':Shared} (h:SP (X.wish E) pins D f s'):SP X pins D f s':=by
 cases f with
 |next=>obtain⟨σ',H',I,q⟩:=h;exact⟨σ',H',I.unwish,q⟩
 |brk=>obtain⟨σ',H',I,q⟩:=h;exact⟨σ',H',I.unwish,q⟩
 |cont=>obtain⟨σ',H',I,q⟩:=h;exact⟨σ',H',I.unwish,q⟩
 |ret u=>obtain⟨v,σ',H',I,r,q⟩:=h;exact⟨v,σ',H',I.unwish,r,q⟩
def PSs.nox {st:List Stmt}{t:TS} (h:PSs X.nox st t):PSs X st t:=λpins s σ H D I hw=>
 YB (h pins s σ H D (I.wish _) hw) (λ_ _ q=>q.unwish) λ_ _ z=>False.elim z
end
section
variable {X:Cx}{st:Stmt}{rest:List Stmt}{t u:TS}{e:Expr}{te:TE}{pos:Pos}
def CW:TS:=λD σ H=>D.nx σ H
def tSeq(t u:TS):TS:=λD σ H=>t {D with nx:=u D} σ H
def JA:PSs X [] CW:=λ_ _ σ H _ I h=>QE ⟨σ,H,I,h⟩
def Jg(h1:PS X st t)(h2:PSs X rest u):PSs X (st::rest) (tSeq t u):=by
 intro pins s σ H D I h;refine wpAny_execs_cons (thn (h1 pins s σ H {D with nx:=u D} I h) λf s1 q=>?_)
 cases f with
 |next=>
  obtain⟨σ',H',I',q⟩:=q;exact h2 pins s1 σ' H' D I' q
 |ret v=>exact q
 |brk=>exact q
 |cont=>exact q
def Jj(h1:PS X st t):PSs X [st] t:=by
 intro pins s σ H D I h;refine wpAny_execs_cons (thn (h1 pins s σ H D I h) λf s1 q=>?_);cases f with
 |next=>exact QE q
 |ret v=>exact q
 |brk=>exact q
 |cont=>exact q
def Inv.quiet {pins:List (Addr×Obj)}{σ:St}{H:Hp}{s:Shared} (I:Inv X pins σ H s):interactive X.env=false:=by simp[interactive,I.ok.kind]
def T3(te:TE):TS:=λD σ H=>te σ H λ_ H1=>D.nx σ H1
def Ub(he:PE X e te)(hs:swapsWith e none pos.line X.env=pure false:=by rfl):PS X (.Expr e pos) (T3 te):=by
 intro pins s σ H D I h;exact wpAny_Expr_any (thn (he pins s σ H _ I h) λv s1 ⟨x,H1,I1,r1,q1⟩=>⟨σ,H1,I1,q1⟩) I.quiet hs
def tRet(te:TE):TS:=λD σ H=>te σ H D.rt
def Jp(he:PE X e te):PS X (.Return (some e) pos) (tRet te):=by
 intro pins s σ H D I h;exact wpAny_Return_some (thn (he pins s σ H _ I h) λv s1 ⟨x,H1,I1,r1,q1⟩=>⟨x,σ,H1,I1,r1,q1⟩)
def tIfS(c:TT)(t u:TS):TS:=λD σ H=>c σ H λb H1=>if b=true then t D σ H1 else u D σ H1
def J4{c:Expr}{a b:List Stmt}{tc:TT}(hc:PT X c tc)(ha:PSs X a t)(hb:PSs X b u):PS X (.If c a b pos) (tIfS tc t u):=by
 intro pins s σ H D I h;refine wpAny_If (thn (hc pins s σ H _ I h) λd s1 ⟨H1,I1,q1⟩=>?_);cases d with
 |true=>exact ha pins s1 σ H1 D I1 q1
 |false=>exact hb pins s1 σ H1 D I1 q1
end
abbrev TG:=V->St->Hp->(St->Hp->Prop)->Prop
abbrev TGs:=List V->St->Hp->(St->Hp->Prop)->Prop
def PG(X:Cx)(target:Expr)(t:TG):Prop:=
 ∀(pins:List (Addr×Obj)) (s:Shared) (σ:St) (H:Hp) (v:V) (u:Value) (Q:St->Hp->Prop),Inv X pins σ H s->RelV v u->t v σ H Q->
  wpAny (model X.prog X.w) X.A (assign target X.env u) (λ_ s'=>∃σ' H',Inv X pins σ' H' s'/\Q σ' H') X.xe s
def PGs(X:Cx)(ts:List Expr)(t:TGs):Prop:=
 ∀(pins:List (Addr×Obj)) (s:Shared) (σ:St) (H:Hp) (vs:List V) (us:List Value) (Q:St->Hp->Prop),Inv X pins σ H s->Vals vs us->t vs σ H Q->
  wpAny (model X.prog X.w) X.A (assignInOrder ((assignEach ts X.env).map (·.2)) us) (λ_ s'=>∃σ' H',Inv X pins σ' H' s'/\Q σ' H') X.xe s
abbrev TIp:=V->V->Hp->VK->Prop
def PIp(X:Cx)(op:Operator)(t:TIp):Prop:=
 ∀(pins:List (Addr×Obj)) (s:Shared) (σ:St) (H:Hp) (x y:V) (v u:Value) (Q:VK),Inv X pins σ H s->RelV x v->RelV y u->t x y H Q->
  wpAny (model X.prog X.w) X.A (inplaceOp op v u) (EP X pins σ Q) X.xe s
section
variable {X:Cx}{pos:Pos}
def Kr(i:Nat):TG:=λv σ H Q=>Q (σ.set i (some v)) H
def N7{i:Nat}{x:Str}(hN:X.N.Nodup)(hi:X.N[i]?=some x)(hx:Loc X.env.scope x)(hf:X.fn x=true\/X.env.scope.names.lookup x=some .local:=by first|exact .inl rfl|exact .inr rfl|assumption):PG X (.Name x pos) (Kr i):=by
 intro pins s σ H v u Q I r h;exact wpAny_assign_Name (Ka I hN hi hx r (λs' I'=>⟨_,H,I',h⟩) hf)
def gNil:TGs:=λvs σ H Q=>vs=[]/\Q σ H
def DB(t:TG)(u:TGs):TGs:=λvs σ H Q=>∃v r,vs=v::r/\t v σ H λσ' H'=>u r σ' H' Q
def XB:PGs X [] gNil:=by
 intro pins s σ H vs us Q I r h;obtain⟨e,h⟩:=h;subst e;cases r
 exact assignInOrder_nil ⟨σ,H,I,h⟩
def U5{e:Expr}{es:List Expr}{t:TG}{u:TGs}(h1:PG X e t)(h2:PGs X es u)(hs:(assignEach (e::es) X.env).map (·.2)=assign e X.env::(assignEach es X.env).map (·.2):=by rfl):PGs X (e::es) (DB t u):=by
 intro pins s σ H vs us Q I r h;obtain⟨v,vr,e1,h⟩:=h;subst e1;cases r with
 |cons r rr=>
  rw[hs];refine assignInOrder_cons (thn (h1 pins s σ H _ _ _ I r h) λ_ s1 ⟨σ1,H1,I1,q1⟩=>?_);exact h2 pins s1 σ1 H1 _ _ Q I1 rr q1
def gTup(K:Za)(n:Nat)(t:TGs):TG:=λv σ H Q=>∃a xs,v=.ref a/\SqT K H a xs/\xs.length=n/\t xs σ H Q
def HU{es:List Expr}{k:Nat}{t:TGs}{n:Nat}(hc:X.calm=true)(h:PGs X es t)(hn:(assignEach es X.env).length=n:=by rfl)(hst:(assignEach es X.env).findIdx? (·.1)=none:=by rfl):PG X (.Tuple es k pos) (gTup X.K n t):=by
 intro pins s σ H v u Q I r hw;obtain⟨a,xs,e1,hq,hl,hw⟩:=hw;subst e1;cases r
 obtain⟨its,rv,ht,hz⟩:=I.tuple hq;refine assign_Tuple_tuple (I.ok.hd hc) ht (by simp[hn,←hl,rv.length]) hst λh' hx=>?_;have I1:Inv X pins σ H {s with heap:=h'}:=I.kept (t':=s.toks) λb o e=>hx b o (Yy (Yd e)) e
 exact h pins _ σ H xs _ Q I1 (by simpa using rv) hw
def tAsg(te:TE)(g:TG):TS:=λD σ H=>te σ H λx H1=>g x σ H1 D.nx
def GG{i:Nat}{x:Str}{e:Expr}{te:TE}{pos':Pos}(hN:X.N.Nodup)(hi:X.N[i]?=some x)(hx:Loc X.env.scope x)(he:PE X e te)(hs:swapsWith e (some (.Name x pos')) pos.line X.env=pure false:=by rfl)(hf:X.fn x=true\/X.env.scope.names.lookup x=some .local:=by first|exact .inl rfl|exact .inr rfl|assumption) :
  PS X (.Assign [.Name x pos'] e pos) (tAsg te (Kr i)):=by
 intro pins s σ H D I h;refine wpAny_Assign_Name (thn (he pins s σ H _ I h) λv s1 ⟨y,H1,I1,r1,q1⟩=>?_) hs;exact Ka I1 hN hi hx r1 (λs2 I2=>⟨_,H1,I2,q1⟩) hf
def tPar(i j:Nat)(ta:TA):TS:=λD σ H=>ta σ H λvs H1=>∃v w,vs=[v,w]/\D.nx ((σ.set i (some v)).set j (some w)) H1
def RS{i j:Nat}{x y:Str}{a b:Expr}{ta:TA}{px py pt:Pos}{kt k2 pt2}(hc:X.calm=true)(hN:X.N.Nodup)(hi:X.N[i]?=some x)(hj:X.N[j]?=some y)(hij:i≠j)(hx:X.env.scope.names.lookup x=some .local)(hy:X.env.scope.names.lookup y=some .local)(ha:PA X [a,b] ta)(hw:swappedStores [.Tuple [.Name x px,.Name y py] kt pt] (.Tuple [a,b] k2 pt2) X.env=pure (some [x,y]))(hs:swapsWithSole [.Tuple [.Name x px,.Name y py] kt pt] (.Tuple [a,b] k2 pt2) pos.line X.env=pure false:=by rfl) :
  PS X (.Assign [.Tuple [.Name x px,.Name y py] kt pt] (.Tuple [a,b] k2 pt2) pos) (tPar i j ta):=by
 intro pins s σ H D I h;rw[exec_Assign_arm];refine ZT (Qf ?_);rw[hs];refine ZT (ZW ?_);rw[ZZ (by decide)];refine ZT (Tuple_ (thn (ha _ pins s σ H _ I h) λus s1 ⟨vs,H1,I1,r1,q1⟩=>?_));obtain⟨v,w,e1,q1⟩:=q1;subst e1
 obtain⟨u1,u2,rfl,rv,rw'⟩:∃u1 u2,us=[u1,u2]/\RelV v u1/\RelV w u2:=by
  cases r1 with
  |cons p q=>
   cases q with
   |cons p' q'=>
    cases q'
    exact⟨_,_,rfl,p,p'⟩
 refine YH ?_ (by show 2<=sizeLine;decide);have I2:Inv X pins σ H1 {s1 with heap:=s1.heap.push {cls:=.type "tuple",data:=.seq [u1,u2].toArray}}:=I1.kept (t':=s1.toks) λb o e=>ZY _ e
 rw[hw];refine ZT (ZW ?_);show wpAny (model X.prog X.w) X.A (do rule "assign.swapped-stores";let items ←unpackItems (.ref s1.heap.objs.size) 2 none;assignInOrder [λv=>bindName X.env y v,λv=>bindName X.env x v] items.reverse;pure Flow.next) _ _ _
 refine ZT (wpAny_rule (ZT (unpackItems_tuple (items:=#[u1,u2]) (I.ok.hd hc) (IsTup.new s1.heap _) λh' hx'=>?_)));have I3:=I2.kept (h':=h') (t':=s1.toks) λb o e=>hx' b o (Yy (Yd e)) e;show wpAny _ _ (assignInOrder [λv=>bindName X.env y v,λv=>bindName X.env x v] [u2,u1] >>= λ_=>pure Flow.next) _ _ _;refine ZT (assignInOrder_cons (wpAny_bindName (Ka I3 hN hj (.inl hy) rw' (λs2 I4=>?_) (.inr hy))));refine assignInOrder_cons (wpAny_bindName (Ka I4 hN hi (.inl hx) rv (λs3 I5=>assignInOrder_nil (ZW ?_)) (.inr hx)));rw[List.set_comm _ _ (Ne.symm hij)]at I5;exact⟨_,H1,I5,q1⟩
def tAug(i:Nat)(te:TE)(ti:TIp):TS:=λD σ H=>∃x,σ[i]?=some (some x)/\te σ H λy H1=>ti x y H1 λz H2=>D.nx (σ.set i (some z)) H2
def F4{i:Nat}{x:Str}{e:Expr}{te:TE}{op:Operator}{ti:TIp}{pos':Pos}(hN:X.N.Nodup)(hi:X.N[i]?=some x)(hx:Loc X.env.scope x)(he:PE X e te)(ho:PIp X op ti)(hf:X.fn x=true\/X.env.scope.names.lookup x=some .local:=by first|exact .inl rfl|exact .inr rfl|assumption) :
  PS X (.AugAssign (.Name x pos') op e pos) (tAug i te ti):=by
 intro pins s σ H D I h;obtain⟨v,e1,h⟩:=h;obtain⟨m,hn,hl⟩:=I.loc;have vis:Vis X.env.scope x:=by rcases hx with k|k;exact .inl k;exact .inr (.inl k)
 obtain⟨u,r,l⟩:=hl i x v hi e1 vis;refine wpAny_AugAssign_Name ?_
 have go:wpAny (model X.prog X.w) X.A (eval e X.env) (λw s₂=>wpAny (model X.prog X.w) X.A (inplaceOp op u w) (λr s₃=>wpAny (model X.prog X.w) X.A (storeName X.env x r) (λ_=>SP X pins D .next) X.xe s₃) X.xe s₂) X.xe s:=by
  refine thn (he pins s σ H _ I h) λw s1 ⟨y,H1,I1,r1,q1⟩=>?_;refine thn (ho pins s1 σ H1 v y u w _ I1 r r1 q1) λz s2 ⟨zv,H2,I2,r2,q2⟩=>?_;exact Ka I2 hN hi hx r2 (λs3 I3=>⟨_,H2,I3,q2⟩) hf
 rcases l with⟨hk,hm⟩|⟨hk,c,hc,hcell⟩
 ·exact wpAny_loadName_local I.ok.kind hk hn hm go
 ·rcases hk with hk|hk
  ·exact wpAny_loadName_cell I.ok.kind hk hc hcell go
  ·rcases hx with k|k
   ·have:X.env.scope.names.lookup x=some .free:=hk
    rw[k]at this;cases this
   ·have:X.env.scope.names.lookup x=some .free:=hk
    rw[k]at this;cases this
def ipI(f:Int->Int->Int):TIp:=λx y H Q=>∃i j,x=.int i/\y=.int j/\Q (.int (f i j)) H
def DL:PIp X .Add (ipI λi j=>i+j):=by
 intro pins s σ H x y v u Q I r1 r2 h;obtain⟨i,j,e1,e2,q⟩:=h;subst e1;subst e2;obtain⟨t,rfl⟩:=r1;obtain⟨t',rfl⟩:=r2;exact iadd_int ⟨.int _,H,I.tok _,⟨_,rfl⟩,q⟩
end
section
variable {X:Cx}{pos:Pos}
def DQ(c:TT)(tb:TS):TS:=λD σ H=>∃W:Nat->St->Hp->Prop,(∃m,W m σ H)/\∀m σ H,W m σ H->
 c σ H λb H1=>if b=true then ∃N:St->Hp->Prop,(∀σ' H',N σ' H'->∃m',m'<m/\W m' σ' H')/\tb {D with nx:=N,ct:=N,bk:=D.nx} σ H1 else D.nx σ H1
def PP{c:Expr}{body:List Stmt}{tc:TT}{tb:TS}(hp:PassesOwn (model X.prog X.w) X.A X.env X.xe)(hc:PT X c tc)(hb:PSs X body tb):PS X (.While c body [] pos) (DQ tc tb):=by
 intro pins s σ H D I h;obtain⟨W,⟨m0,w0⟩,turn⟩:=h;refine wpAny_While (codeAny_whileLoop (λn s'=>∃σ' H',Inv X pins σ' H' s'/\W n σ' H') ?_ m0 ⟨σ,H,I,w0⟩);rintro n s1 ⟨σ1,H1,I1,w1⟩;refine W4 hp (thn (hc pins s1 σ1 H1 _ I1 (turn n σ1 H1 w1)) λb s2 ⟨H2,I2,q2⟩=>?_);cases b with
 |true=>
  obtain⟨N,hN,q2⟩:=q2;rw[Ya rfl];refine W4 hp (thn (hb pins s2 σ1 H2 _ I2 q2) λf s3 q3=>?_);cases f with
  |next=>
   obtain⟨σ3,H3,I3,n3⟩:=q3;obtain⟨m',hm,w3⟩:=hN σ3 H3 n3;exact⟨m',hm,σ3,H3,I3,w3⟩
  |cont=>
   obtain⟨σ3,H3,I3,n3⟩:=q3;obtain⟨m',hm,w3⟩:=hN σ3 H3 n3;exact⟨m',hm,σ3,H3,I3,w3⟩
  |brk=>exact q3
  |ret v=>exact q3
 |false=>
  rw[ZZ Yj];exact QE ⟨σ1,H2,I2,q2⟩
end
structure It where
 go:Nat->Hp->Prop
 yld:Nat->Hp->V->Hp->Prop
 stop:Nat->Hp->Prop
def FpOk(X:Cx)(pins:List (Addr×Obj))(H:Hp)(b:Addr):Prop:=
 H b=none/\b≠X.env.locals/\b∉X.fs/\(b∈X.ex\/X.s₀.heap.objs.size<=b)/\(∀x c,X.env.cells.lookup x=some c->c≠b)/\∀p∈X.pn++pins,p.1≠b
def Inv.fpOk {X:Cx}{pins:List (Addr×Obj)}{σ:St}{H H':Hp}{s:Shared}{b:Addr} (I:Inv X pins σ H s) (hb:s.heap.objs.size<=b) (hn:H' b=none):FpOk X pins H' b:=by
 refine⟨hn,Vh (Y3 I.lt hb),I.nofs hb,.inr (Yn I.sz hb),λx c e z=>?_,λp hp z=>?_⟩
 ·obtain⟨v,q⟩:=I.cell x c e;exact absurd (Y3 q.lt (by rw[z];exact hb)) (Wh _)
 ·exact absurd (Y3 (Yd (I.pin p hp).1) (by rw[z];exact hb)) (Wh _)
structure Turn (P:Program) (w:World) (K:Za) (tg:Expr) (J:It) (fp:List Addr) (it:Addr) (tn:Nat->Heap->Prop):Prop where
 mem:it∈fp
 obj:∀i h,tn i h->∀b∈fp,∃o,h.get? b=some o/\∀v,o.data≠.cell v
 keep:∀i h h',tn i h->(∀b∈fp,∀o,h.get? b=some o->h'.get? b=some o)->tn i h'
 item:∀(X:Cx),X.prog=P->X.w=w->X.K=K->X.calm=true->∀(i:Nat) (pins:List (Addr×Obj)) (s:Shared) (σ:St) (H:Hp) (E:Value->Shared->Prop),Inv X pins σ H s->(∀b∈fp,FpOk X pins H b)->tn i s.heap->J.go i H->
  wpAny (model P w) X.A (pyNext (.ref it)) (λr s1=>∃u,r=some u/\
   wpAny (model P w) X.A (letOwnedTupleGo tg (.ref it) u) (λ_ s2=>∃x H',Inv X pins σ H' s2/\RelV x u/\J.yld i H x H'/\tn (i+1) s2.heap/\∀b∈fp,H' b=none) E s1) E s
 done:∀(X:Cx),X.prog=P->X.w=w->X.K=K->X.calm=true->∀(i:Nat) (pins:List (Addr×Obj)) (s:Shared) (σ:St) (H:Hp) (E:Value->Shared->Prop),Inv X pins σ H s->(∀b∈fp,FpOk X pins H b)->tn i s.heap->J.stop i H->
  wpAny (model P w) X.A (pyNext (.ref it)) (λr s1=>r=none/\Inv X pins σ H s1) E s
 self:∀(A:Around) (i:Nat) (s:Shared) (Q:Value->Shared->Prop) (E:Value->Shared->Prop),tn i s.heap->Q (.ref it) s->wpAny (model P w) A (pyIter (.ref it)) Q E s
abbrev TI:=St->Hp->(It->Hp->Prop)->Prop
def PIE(X:Cx)(pins:List (Addr×Obj))(σ:St)(tg:Expr)(R:It->Hp->Prop)(itv:Value)(s2:Shared):Prop:=
 ∃(it:Addr) (fp:List Addr) (tn:Nat->Heap->Prop) (J:It) (H':Hp),itv=.ref it/\Inv X pins σ H' s2/\Turn X.prog X.w X.K tg J fp it tn/\tn 0 s2.heap/\(∀b∈fp,FpOk X pins H' b)/\R J H'
def PI(X:Cx)(tg iter:Expr)(wi:TI):Prop:=
 ∀(pins:List (Addr×Obj)) (s:Shared) (σ:St) (H:Hp) (R:It->Hp->Prop),Inv X pins σ H s->wi σ H R->
  wpAny (model X.prog X.w) X.A (eval iter X.env) (λv s1=>wpAny (model X.prog X.w) X.A (pyIter v) (PIE X pins σ tg R) X.xe s1) X.xe s
def B5 {M : Model} {A : Around} {E : Value → Shared → Prop} {s : Shared} {tg : Expr} {it : Addr} {u : Value} {o : Obj} {n : String} {vs : Array Value} {Q : Unit → Shared → Prop} (ho : s.heap.get? it = some o) (hc : o.cls = .type n) (hd : o.data = .fields vs)
    (hn : ["enumerate", "zip", "dict_itemiterator", "dict_reverseitemiterator", "odict_iterator", "itertools.zip_longest", "itertools.pairwise"].contains n = false) (hQ : Q () s) : wpAny M A (letOwnedTupleGo tg (.ref it) u) Q E s := by
  unfold letOwnedTupleGo
  cases tg <;> first
    | exact ZW hQ
    | (cases u <;> first
        | exact ZW hQ
        | (refine ZT (wpAny_load ho ?_)
           rw [hc, hd]
           show wpAny M A (if (["enumerate", "zip", "dict_itemiterator", "dict_reverseitemiterator", "odict_iterator", "itertools.zip_longest", "itertools.pairwise"].contains n && vs[0]? == some (rawInt _)) = true then _ else _) Q E s
           rw [ZZ (by intro h; rw [hn, WE] at h; cases h)]
           exact ZW hQ))
def Itl(K:Za)(a:Addr):It:=
 ⟨λi H=>∃xs x,SqL K H a xs/\xs[i]?=some x,λi H x H'=>H'=H/\∀xs,SqL K H a xs->xs[i]?=some x,λi H=>∃xs,SqL K H a xs/\xs.length<=i⟩
def Itt(K:Za)(a:Addr):It:=
 ⟨λi H=>∃xs x,SqT K H a xs/\xs[i]?=some x,λi H x H'=>H'=H/\∀xs,SqT K H a xs->xs[i]?=some x,λi H=>∃xs,SqT K H a xs/\xs.length<=i⟩
def Itr(lo:Int)(n:Nat):It:=⟨λi _=>i<n,λi H x H'=>H'=H/\x=.int (lo+i),λi _=>n<=i⟩
def Ig{P:Program}{w:World}{K:Za}{tg:Expr}(a it:Addr):Turn P w K tg (Itl K a) [it] it (λi h=>h.IsListIter it a i) where
 mem:=by simp
 obj:=λi h st b hb=>by
  have e:b=it:=by simpa using hb
  subst e;obtain⟨o,e,c,d⟩:=st;exact⟨o,e,λv z=>by rw[d]at z;cases z⟩
 keep:=λi h h' st k=>st.at λo e=>k it (by simp) o e
 item:=by
  intro X hP hw hK hc i pins s σ H E I hf st hg;subst hP hw hK;obtain⟨xs,x,hq,hx⟩:=hg;obtain⟨its,rv,p,hz⟩:=I.list hq;obtain⟨u,hu,ru⟩:=rv.get hx;obtain⟨f0,f1,f2,f3,f4,f5⟩:=hf it (by simp);refine wpAny_pyNext_list_item st p.isList (x:=u) (by simpa using hu) λh' st' sb=>?_;have I1:Inv X pins σ H {s with heap:=h'}:=I.turned (t':=s.toks) (λb o hb e=>(sb.2 b hb).trans e) f0 f1 f3 f4 f5
  obtain⟨o,e,c,d⟩:=id st';exact⟨u,rfl,B5 (s:={s with heap:=h'}) e c d (by decide) ⟨x,H,I1,ru,⟨rfl,λys hy=>by rw[I.list_inj hy hq];exact hx⟩,st',λb hb=>(hf b hb).1⟩⟩
 done:=by
  intro X hP hw hK hc i pins s σ H E I hf st hg;subst hP hw hK;obtain⟨xs,hq,hx⟩:=hg;obtain⟨its,rv,p,hz⟩:=I.list hq;obtain⟨f0,f1,f2,f3,f4,f5⟩:=hf it (by simp);have hl:=rv.length;exact wpAny_pyNext_list_end (I.ok.hd hc) st p.isList (by simp;omega) λh' eb=>⟨rfl,I.turned (t':=s.toks) (λb o hb e=>eb b o hb e) f0 f1 f3 f4 f5⟩
 self:=λ_ _ _ _ _ st h=>wpAny_pyIter_listiter st h
def O8{P:Program}{w:World}{K:Za}{tg:Expr}(a it:Addr):Turn P w K tg (Itt K a) [it] it (λi h=>h.IsTupleIter it a i) where
 mem:=by simp
 obj:=λi h st b hb=>by
  have e:b=it:=by simpa using hb
  subst e;obtain⟨o,e,c,d⟩:=st;exact⟨o,e,λv z=>by rw[d]at z;cases z⟩
 keep:=λi h h' st k=>st.at λo e=>k it (by simp) o e
 item:=by
  intro X hP hw hK hc i pins s σ H E I hf st hg;subst hP hw hK;obtain⟨xs,x,hq,hx⟩:=hg;obtain⟨its,rv,p,hz⟩:=I.tuple hq;obtain⟨u,hu,ru⟩:=rv.get hx;obtain⟨f0,f1,f2,f3,f4,f5⟩:=hf it (by simp);refine wpAny_pyNext_tuple_item st (show s.heap.IsTuple a its.toArray from p) (x:=u) (by simpa using hu) λh' st' sb=>?_
  have I1:Inv X pins σ H {s with heap:=h'}:=I.turned (t':=s.toks) (λb o hb e=>(sb.2 b hb).trans e) f0 f1 f3 f4 f5
  obtain⟨o,e,c,d⟩:=id st';exact⟨u,rfl,B5 (s:={s with heap:=h'}) e c d (by decide) ⟨x,H,I1,ru,⟨rfl,λys hy=>by rw[I.tuple_inj hy hq];exact hx⟩,st',λb hb=>(hf b hb).1⟩⟩
 done:=by
  intro X hP hw hK hc i pins s σ H E I hf st hg;subst hP hw hK;obtain⟨xs,hq,hx⟩:=hg;obtain⟨its,rv,p,hz⟩:=I.tuple hq;obtain⟨f0,f1,f2,f3,f4,f5⟩:=hf it (by simp);have hl:=rv.length;exact wpAny_pyNext_tuple_end (I.ok.hd hc) st (show s.heap.IsTuple a its.toArray from p) (by simp;omega) λh' eb=>⟨rfl,I.turned (t':=s.toks) (λb o hb e=>eb b o hb e) f0 f1 f3 f4 f5⟩
 self:=λ_ _ _ _ _ st h=>wpAny_pyIter_tupleiter st h
def Lq{P:Program}{w:World}{K:Za}{tg:Expr}(it:Addr)(lo:Int)(n:Nat):Turn P w K tg (Itr lo n) [it] it (λi h=>IsRangeIter h it (lo+(i:Nat)*1) ((n:Int)-(i:Nat)) 1) where
 mem:=by simp
 obj:=λi h st b hb=>by
  have e:b=it:=by simpa using hb
  subst e
  exact⟨_,st,λv z=>by
   have z':Data.fields _=Data.cell v:=z;cases z'⟩
 keep:=λi h h' st k=>k it (by simp) _ st
 item:=by
  intro X hP hw hK hc i pins s σ H E I hf st hg;subst hP hw hK;obtain⟨f0,f1,f2,f3,f4,f5⟩:=hf it (by simp);have W:=Walks.range (prog:=X.prog) (w:=X.w) (I.ok.hd hc) it lo 1 n;refine W.item i s _ _ hg st λv h' tk hv st' kk=>?_;obtain⟨t,rfl⟩:=hv;have I1:Inv X pins σ H {s with heap:=h',toks:=tk}:=I.turned (λb o hb e=>kk b o (by simpa using hb) e) f0 f1 f3 f4 f5
  refine⟨_,rfl,B5 (s:={s with heap:=h',toks:=tk}) (n:="range_iterator") st' rfl rfl (by decide) ⟨.int (lo+i),H,I1,⟨t,?_⟩,⟨rfl,rfl⟩,st',λb hb=>(hf b hb).1⟩⟩
  rw[Int.mul_one]
 done:=by
  intro X hP hw hK hc i pins s σ H E I hf st hg;subst hP hw hK;obtain⟨f0,f1,f2,f3,f4,f5⟩:=hf it (by simp);exact wpAny_pyNext_range_end (I.ok.hd hc) st (by have:n<=i:=hg;omega) λh' eb=>⟨rfl,I.turned (t':=s.toks) (λb o hb e=>eb b o hb e) f0 f1 f3 f4 f5⟩
 self:=λ_ _ _ _ _ st h=>wpAny_pyIter_rangeiter st h
section
variable {X:Cx}{tg:Expr}
def TM(K:Za)(tl:TE):TI:=λσ H R=>tl σ H λx H1=>∃a,x=.ref a/\(∃xs,SqL K H1 a xs)/\R (Itl K a) H1
def iTup(K:Za)(tl:TE):TI:=λσ H R=>tl σ H λx H1=>∃a,x=.ref a/\(∃xs,SqT K H1 a xs)/\R (Itt K a) H1
def Ai{l:Expr}{tl:TE}(hl:PE X l tl):PI X tg l (TM X.K tl):=by
 intro pins s σ H R I h;refine thn (hl pins s σ H _ I h) λv s1 ⟨x,H1,I1,r1,q1⟩=>?_;obtain⟨a,e,⟨xs,hq⟩,q⟩:=q1;subst e;cases r1
 obtain⟨its,rv,p,hz⟩:=I1.list hq;refine wpAny_pyIter_list p.isList ?_;refine⟨s1.heap.objs.size,[s1.heap.objs.size],_,_,H1,rfl,I1.kept (t':=s1.toks) λb o e=>ZY _ e,Ig a _,⟨_,Yi _ rfl,rfl,rfl⟩,λb hb=>?_,q⟩;have e:b=s1.heap.objs.size:=by simpa using hb
 subst e;exact I1.fpOk (Yc _) (I1.hok.fresh (Yc _))
def O3{l:Expr}{tl:TE}(hl:PE X l tl):PI X tg l (iTup X.K tl):=by
 intro pins s σ H R I h;refine thn (hl pins s σ H _ I h) λv s1 ⟨x,H1,I1,r1,q1⟩=>?_;obtain⟨a,e,⟨xs,hq⟩,q⟩:=q1;subst e;cases r1
 obtain⟨its,rv,p,hz⟩:=I1.tuple hq;refine wpAny_pyIter_tuple (show s1.heap.IsTuple a its.toArray from p) ?_
 refine⟨s1.heap.objs.size,[s1.heap.objs.size],_,_,H1,rfl,I1.kept (t':=s1.toks) λb o e=>ZY _ e,O8 a _,⟨_,Yi _ rfl,rfl,rfl⟩,λb hb=>?_,q⟩;have e:b=s1.heap.objs.size:=by simpa using hb
 subst e;exact I1.fpOk (Yc _) (I1.hok.fresh (Yc _))
def AB{pins:List (Addr×Obj)}{σ:St}{H:Hp}{s:Shared}{R:It->Hp->Prop}{E:Value->Shared->Prop}{lo hi:Int}{t u v:Tok}{tk:Nat}(I:Inv X pins σ H s)(h1:-(2 ^ 62)<=lo)(h2:lo<2 ^ 62)(h3:-(2 ^ 62)<=hi)(h4:hi<2 ^ 62)(q:R (Itr lo (hi-lo).toNat) H):wpAny (model X.prog X.w) X.A (pyIter (.ref s.heap.objs.size)) (PIE X pins σ tg R) E {s with heap:=s.heap.push {cls:=.type "range",data:=.fields #[.int lo t,.int hi u,.int 1 v]},toks:=tk}:=by
 refine wpAny_pyIter_range (IsRange.new ..) (small_one h1 h2 h3 h4) ?_;have I1:Inv X pins σ H {s with heap:=s.heap.push {cls:=.type "range",data:=.fields #[.int lo t,.int hi u,.int 1 v]},toks:=tk}:=I.kept λb o e=>ZY _ e
 refine⟨(s.heap.push {cls:=.type "range",data:=.fields #[.int lo t,.int hi u,.int 1 v]}).objs.size,[(s.heap.push {cls:=.type "range",data:=.fields #[.int lo t,.int hi u,.int 1 v]}).objs.size],_,_,H,rfl,
  I1.kept (t':=tk) λb o e=>ZY _ e,Lq _ lo (hi-lo).toNat,?_,λb hb=>?_,q⟩
 ·have e1:lo+((0:Nat):Int)*1=lo:=by simp
  have e2:(((hi-lo).toNat:Nat):Int)-((0:Nat):Int)=Builtin.Range.rangeSize lo hi 1:=by rw[rangeSize_one];split<;>omega
  show IsRangeIter _ _ (lo+((0:Nat):Int)*1) ((((hi-lo).toNat:Nat):Int)-((0:Nat):Int)) 1;rw[e1,e2];exact Yi _ rfl
 ·have e:b=(s.heap.push {cls:=.type "range",data:=.fields #[.int lo t,.int hi u,.int 1 v]}).objs.size:=by simpa using hb
  subst e;exact I1.fpOk (Yc _) (I1.hok.fresh (Yc _))
def Dh(ta:TA):TI:=λσ H R=>ta σ H λvs H1=>∃j:Int,vs=[.int j]/\-(2 ^ 62)<=j/\j<2 ^ 62/\R (Itr 0 j.toNat) H1
def Ef(ta:TA):TI:=λσ H R=>ta σ H λvs H1=>∃i j:Int,vs=[.int i,.int j]/\(-(2 ^ 62)<=i/\i<2 ^ 62/\-(2 ^ 62)<=j/\j<2 ^ 62)/\R (Itr i (j-i).toNat) H1
def Xq{a:Expr}{ta:TA}{p pos:Pos}(hg:Gl X "range")(hm:X.mg "range"=none)(ha:PA X [a] ta)(hs:starEach [a] X.env=[(false,eval a X.env)]:=by rfl):PI X tg (.Call (.Name "range" p) [a] [] pos) (Dh ta):=by
 intro pins s σ H R I h;refine Call_ (Pi I hg hm boot_range (Qc (thn (ha pos pins s σ H _ I h) λus s1 ⟨vs,H1,I1,r1,q1⟩=>?_) hs rfl));obtain⟨j,e,q1,q2,q⟩:=q1;subst e;cases r1 with
 |cons r rr=>
  cases rr
  obtain⟨t,rfl⟩:=r;exact call_range_1 (AB I1 (by omega) (by omega) q1 q2 (by simpa using q))
def ID{a b:Expr}{ta:TA}{p pos:Pos}(hg:Gl X "range")(hm:X.mg "range"=none)(ha:PA X [a,b] ta)(hs:starEach [a,b] X.env=[(false,eval a X.env),(false,eval b X.env)]:=by rfl)(hs2:starEach [b] X.env=[(false,eval b X.env)]:=by rfl) :
  PI X tg (.Call (.Name "range" p) [a,b] [] pos) (Ef ta):=by
 intro pins s σ H R I h;refine Call_ (Pi I hg hm boot_range (Qc (thn (ha pos pins s σ H _ I h) λus s1 ⟨vs,H1,I1,r1,q1⟩=>?_) (by rw[hs,hs2]) (by rw[hs2];rfl)));obtain⟨i,j,e,⟨q1,q2,q3,q4⟩,q⟩:=q1;subst e;cases r1 with
 |cons r rr=>
  cases rr with
  |cons r' rr=>
   cases rr
   obtain⟨t,rfl⟩:=r;obtain⟨t',rfl⟩:=r';exact call_range_2 (AB I1 q1 q2 q3 q4 q)
def tFor(wi:TI)(g:TG)(tb:TS):TS:=λD σ H=>wi σ H λJ H1=>∃W:Nat->Nat->St->Hp->Prop,(∃m,W 0 m σ H1)/\∀i m σ H,W i m σ H->
 (J.stop i H/\D.nx σ H)\/(J.go i H/\∃N:St->Hp->Prop,(∀σ' H',N σ' H'->∃m',m'<m/\W (i+1) m' σ' H')/\∀x H',J.yld i H x H'->g x σ H' λσ2 H2=>tb {D with nx:=N,ct:=N,bk:=D.nx} σ2 H2)
def P3(fp:List Addr)(h:Heap):List (Addr×Obj):=fp.filterMap λb=>(h.get? b).map λo=>(b,o)
def TL{fp:List Addr}{h:Heap}{b:Addr}{o:Obj}(hb:b∈fp)(e:h.get? b=some o):(b,o)∈P3 fp h:=QX.mpr ⟨b,hb,by rw[e];rfl⟩
def Hv{fp:List Addr}{h:Heap}{p:Addr×Obj}(hp:p∈P3 fp h):p.1∈fp/\h.get? p.1=some p.2:=by
 obtain⟨b,hb,e⟩:=QX.mp hp;cases q:h.get? b with
 |none=>rw[q]at e;cases e
 |some o=>
  rw[q]at e;have e':(b,o)=p:=Yf e;subst e';exact⟨hb,q⟩
def Inv.pinned {pins:List (Addr×Obj)}{σ:St}{H:Hp}{s:Shared}{fp:List Addr} (I:Inv X pins σ H s) (hf:∀b∈fp,FpOk X pins H b) (ho:∀b∈fp,∃o,s.heap.get? b=some o/\∀v,o.data≠.cell v):Inv X (pins++P3 fp s.heap) σ H s:=
 I.pins_of λp hp=>(Yt.mp hp).elim (λz=>I.pin p (Y0 _ z)) λz=>by
  obtain⟨hb,e⟩:=Hv z;obtain⟨f0,f1,f2,_⟩:=hf p.1 hb;obtain⟨o,e',d⟩:=ho p.1 hb;rw[e]at e';cases e';exact⟨e,f0,f1,f2,d⟩
def Inv.unpinned {pins pl:List (Addr×Obj)}{σ:St}{H:Hp}{s:Shared} (I:Inv X (pins++pl) σ H s):Inv X pins σ H s:=I.pins_of λp hp=>I.pin p (Y0 _ (Wm _ hp))
def JZ{iter:Expr}{body:List Stmt}{wi:TI}{g:TG}{tb:TS}{pos:Pos}(hp:PassesOwn (model X.prog X.w) X.A X.env X.xe)(hc:X.calm=true)(hi:PI X tg iter wi)(hg:PG X tg g)(hb:PSs X body tb)(hs:∀x,foldedSetIterable iter X.env x=pure x:=by intro _;rfl):PS X (.For tg iter body [] pos) (tFor wi g tb):=by
 intro pins s σ H D I h;refine wpAny_For (thn (hi pins s σ H _ I h) λv s1 h1=>thn h1 λitv s2 h2=>?_) hs;obtain⟨it,fp,tn,J,H2,e,I2,T,st2,f2,W,⟨m0,w0⟩,turn⟩:=h2;subst e;have stat:∀{H':Hp},(∀b∈fp,H' b=none)->∀b∈fp,FpOk X pins H' b:=λhn b hb=>⟨hn b hb,(f2 b hb).2⟩;refine codeAny_forLoop_any (λn s'=>∃i σ' H',Inv X pins σ' H' s'/\tn i s'.heap/\(∀b∈fp,H' b=none)/\W i n σ' H') ?_ m0 ⟨0,σ,H2,I2,st2,λb hb=>(f2 b hb).1,w0⟩;rintro n s3 ⟨i,σ3,H3,I3,st3,fr3,w3⟩;rcases turn i n σ3 H3 w3 with⟨stop,qn⟩|⟨go,N,hN,step⟩
 ·refine W4 hp (thn (T.done X rfl rfl rfl hc i pins s3 σ3 H3 X.xe I3 (stat fr3) st3 stop) λr s4 ⟨hr,I4⟩=>?_);subst hr;exact QE ⟨σ3,H3,I4,qn⟩
 ·refine W4 hp (thn (T.item X rfl rfl rfl hc i pins s3 σ3 H3 X.xe I3 (stat fr3) st3 go) λr s4 ⟨u,hr,h4⟩=>?_);subst hr;refine W4 hp (thn h4 λ_ s5 ⟨x,H5,I5,r5,y5,st5,fr5⟩=>?_);have I5':=I5.pinned (stat fr5) (T.obj _ _ st5);refine W4 hp (thn (hg _ s5 σ3 H5 x u _ I5' r5 (step x H5 y5)) λ_ s6 ⟨σ6,H6,I6,q6⟩=>?_);refine W4 hp (thn (hb _ s6 σ6 H6 _ I6 q6) λf s7 q7=>?_)
  have again:∀{σ7:St} {H7:Hp},Inv X (pins++P3 fp s5.heap) σ7 H7 s7->N σ7 H7->∃m,m<n/\∃i σ' H',Inv X pins σ' H' s7/\tn i s7.heap/\(∀b∈fp,H' b=none)/\W i m σ' H':=λ{σ7 H7} I7 n7=>by
   obtain⟨m',hm,w7⟩:=hN σ7 H7 n7;refine⟨m',hm,i+1,σ7,H7,I7.unpinned,T.keep _ _ _ st5 λb hb o e=>(I7.pin (b,o) (Y0 _ (Y0 _ (TL hb e)))).1,λb hb=>?_,w7⟩;obtain⟨o,e,d⟩:=T.obj _ _ st5 b hb;exact(I7.pin (b,o) (Y0 _ (Y0 _ (TL hb e)))).2.1
  cases f with
  |next=>obtain⟨σ7,H7,I7,n7⟩:=q7;exact again I7 n7
  |cont=>obtain⟨σ7,H7,I7,n7⟩:=q7;exact again I7 n7
  |brk=>obtain⟨σ7,H7,I7,q7⟩:=q7;exact⟨σ7,H7,I7.unpinned,q7⟩
  |ret v=>obtain⟨x7,σ7,H7,I7,r7,q7⟩:=q7;exact⟨x7,σ7,H7,I7.unpinned,r7,q7⟩
end
abbrev R2:=V->V->Hp->VK->Prop
def OpR(X:Cx)(f:Value->Value->Sem Value)(r:R2):Prop:=
 ∀(pins:List (Addr×Obj)) (s:Shared) (σ:St) (H:Hp) (x y:V) (v u:Value) (Q:VK),Inv X pins σ H s->RelV x v->RelV y u->r x y H Q->
  wpAny (model X.prog X.w) X.A (f v u) (EP X pins σ Q) X.xe s
def UnR(X:Cx)(f:Value->Sem Value)(r:V->Hp->VK->Prop):Prop:=
 ∀(pins:List (Addr×Obj)) (s:Shared) (σ:St) (H:Hp) (x:V) (v:Value) (Q:VK),Inv X pins σ H s->RelV x v->r x H Q->
  wpAny (model X.prog X.w) X.A (f v) (EP X pins σ Q) X.xe s
def Uh(X:Cx)(f:Value)(r:List V->Hp->VK->Prop):Prop:=
 ∀(pins:List (Addr×Obj)) (s:Shared) (σ:St) (H:Hp) (xs:List V) (us:List Value) (Q:VK),Inv X pins σ H s->Vals xs us->r xs H Q->
  wpAny (model X.prog X.w) X.A (call f us) (EP X pins σ Q) X.xe s
def TruR(X:Cx)(r:V->Hp->(Bool->Hp->Prop)->Prop):Prop:=
 ∀(pins:List (Addr×Obj)) (s:Shared) (σ:St) (H:Hp) (x:V) (v:Value) (Q:Bool->Hp->Prop),Inv X pins σ H s->RelV x v->r x H Q->
  wpAny (model X.prog X.w) X.A (truthy v) (TP X pins σ Q) X.xe s
def tOp(r:R2)(ta tb:TE):TE:=λσ H Q=>ta σ H λx H1=>tb σ H1 λy H2=>r x y H2 Q
def tUn(r:V->Hp->VK->Prop)(ta:TE):TE:=λσ H Q=>ta σ H λx H1=>r x H1 Q
def rI(C:Int->Int->Prop)(g:Int->Int->V):R2:=λx y H Q=>∃i j,x=.int i/\y=.int j/\C i j/\Q (g i j) H
def rI0(g:Int->Int->V):R2:=λx y H Q=>∃i j,x=.int i/\y=.int j/\Q (g i j) H
def rU(g:Int->V):V->Hp->VK->Prop:=λx H Q=>∃i,x=.int i/\Q (g i) H
section
variable {X:Cx}{a b c:Expr}{ta tb tc:TE}{pos:Pos}
def binT(ha:PE X a ta)(hb:PE X b tb){pins:List (Addr×Obj)}{s:Shared}{σ:St}{H:Hp}{R:V->V->Hp->Prop}(I:Inv X pins σ H s)(h:ta σ H λx H1=>tb σ H1 λy H2=>R x y H2){Q:Value->Shared->Prop}{f:Value->Value->Sem Value}(hf:∀v u s2 x y H2,Inv X pins σ H2 s2->RelV x v->RelV y u->R x y H2->wpAny (model X.prog X.w) X.A (f v u) Q X.xe s2) :
  wpAny (model X.prog X.w) X.A (eval a X.env) (λv s₁=>wpAny (model X.prog X.w) X.A (eval b X.env) (λu s₂=>wpAny (model X.prog X.w) X.A (f v u) Q X.xe s₂) X.xe s₁) X.xe s:=by
 refine thn (ha pins s σ H _ I h) λv s1 ⟨x,H1,I1,r1,q1⟩=>?_;refine thn (hb pins s1 σ H1 _ I1 q1) λu s2 ⟨y,H2,I2,r2,q2⟩=>?_;exact hf v u s2 x y H2 I2 r1 r2 q2
def Jl{op:Operator}{r:R2}(ho:OpR X (binaryOp op) r)(ha:PE X a ta)(hb:PE X b tb):PE X (.BinOp a op b pos) (tOp r ta tb):=by
 intro pins s σ H Q I h;exact wpAny_BinOp (binT ha hb I h λv u s2 x y H2 I2 rx ry q=>ho pins s2 σ H2 x y v u Q I2 rx ry q)
def Xz{op:UnaryOp}{r:V->Hp->VK->Prop}(ho:UnR X (unaryOp op) r)(ha:PE X a ta):PE X (.UnaryOp op a pos) (tUn r ta):=by
 intro pins s σ H Q I h;exact UnaryOp_ (thn (ha pins s σ H _ I h) λv s1 ⟨x,H1,I1,r1,q1⟩=>ho pins s1 σ H1 x v Q I1 r1 q1)
def opI{f:Value->Value->Sem Value}{C:Int->Int->Prop}{g:Int->Int->Int}(rule:∀(i j:Int) (t u:Tok) (s:Shared) (Q:Value->Shared->Prop) (E:Value->Shared->Prop),C i j->Q (.int (g i j) s.toks) {s with toks:=s.toks+1}->wpAny (model X.prog X.w) X.A (f (.int i t) (.int j u)) Q E s) :
  OpR X f (rI C λi j=>.int (g i j)):=by
 intro pins s σ H x y v u Q I rx ry h;obtain⟨i,j,rfl,rfl,hc,q⟩:=h;obtain⟨t,rfl⟩:=rx;obtain⟨t',rfl⟩:=ry;exact rule i j t t' s _ _ hc ⟨.int (g i j),H,I.tok _,⟨_,rfl⟩,q⟩
def opI0{f:Value->Value->Sem Value}{g:Int->Int->Int}(rule:∀(i j:Int) (t u:Tok) (s:Shared) (Q:Value->Shared->Prop) (E:Value->Shared->Prop),Q (.int (g i j) s.toks) {s with toks:=s.toks+1}->wpAny (model X.prog X.w) X.A (f (.int i t) (.int j u)) Q E s) :
  OpR X f (rI0 λi j=>.int (g i j)):=by
 intro pins s σ H x y v u Q I rx ry h;obtain⟨i,j,rfl,rfl,q⟩:=h;obtain⟨t,rfl⟩:=rx;obtain⟨t',rfl⟩:=ry;exact rule i j t t' s _ _ ⟨.int (g i j),H,I.tok _,⟨_,rfl⟩,q⟩
def opB0{f:Value->Value->Sem Value}{g:Int->Int->Bool}(rule:∀(i j:Int) (t u:Tok) (s:Shared) (Q:Value->Shared->Prop) (E:Value->Shared->Prop),Q (.bool (g i j)) s->wpAny (model X.prog X.w) X.A (f (.int i t) (.int j u)) Q E s) :
  OpR X f (rI0 λi j=>.bl (g i j)):=by
 intro pins s σ H x y v u Q I rx ry h;obtain⟨i,j,rfl,rfl,q⟩:=h;obtain⟨t,rfl⟩:=rx;obtain⟨t',rfl⟩:=ry;exact rule i j t t' s _ _ ⟨.bl (g i j),H,I,rfl,q⟩
def CDiv(i j:Int):Prop:=0<j/\j<1073741824
def CMul(i j:Int):Prop:=(-(2 ^ 64)<i/\i<2 ^ 64)\/(-(2 ^ 64)<j/\j<2 ^ 64)
def CMul.ok {i j:Int} (h:CMul i j):IntMulOk i j:=by
 rcases h with⟨h1,h2⟩|⟨h1,h2⟩
 ·exact .of_left (intBits_le_64 h1 h2)
 ·exact .of_right (intBits_le_64 h1 h2)
def JU:OpR X (binaryOp .Add) (rI0 λi j=>.int (i+j)):=opI0 λ_ _ _ _ _ _ _ q=>add_int q
def Tw:OpR X (binaryOp .Sub) (rI0 λi j=>.int (i-j)):=opI0 λ_ _ _ _ _ _ _ q=>sub_int q
def XC:OpR X (binaryOp .Mult) (rI CMul λi j=>.int (i*j)):=opI λ_ _ _ _ _ _ _ hc q=>mul_int q hc.ok
def Ul:OpR X (binaryOp .FloorDiv) (rI CDiv λi j=>.int (i / j)):=opI λi j _ _ _ _ _ hc q=>by
 have h1:(0:Int)<j:=hc.1;have h2:j<1073741824:=hc.2;exact floordiv_int (by omega) (by rw[Int.fdiv_eq_ediv_of_nonneg i (by omega)];exact q) (.inl (PyProof.noPylong_small (by omega)))
def JJ:OpR X (binaryOp .Mod) (rI (λ_ j=>0<j) λi j=>.int (i % j)):=opI λi j _ _ _ _ _ hc q=>by
 have h1:(0:Int)<j:=hc;exact mod_int' (by omega) (by rw[Int.fmod_eq_emod_of_nonneg i (by omega)];exact q)
def unI{f:Value->Sem Value}{g:Int->Int}(rule:∀(i:Int) (t:Tok) (s:Shared) (Q:Value->Shared->Prop) (E:Value->Shared->Prop),Q (.int (g i) s.toks) {s with toks:=s.toks+1}->wpAny (model X.prog X.w) X.A (f (.int i t)) Q E s) :
  UnR X f (rU λi=>.int (g i)):=by
 intro pins s σ H x v Q I rx h;obtain⟨i,rfl,q⟩:=h;obtain⟨t,rfl⟩:=rx;exact rule i t s _ _ ⟨.int (g i),H,I.tok _,⟨_,rfl⟩,q⟩
def X3:UnR X (unaryOp .USub) (rU λi=>.int (-i)):=unI λ_ _ _ _ _ q=>neg_int q
end
def scal:V->V->Bool
 | .non,.non=>true | .non,.int _=>true | .int _,.non=>true | .non,.bl _=>true | .bl _,.non=>true | .non,.str _=>true | .str _,.non=>true
 | .int _,.int _=>true | .bl _,.bl _=>true | .str _,.str _=>true | .byt _,.byt _=>true
 | .int _,.str _=>true | .str _,.int _=>true | .bl _,.str _=>true | .str _,.bl _=>true
 |_,_=>false
def rEq:R2:=λx y H Q=>scal x y=true/\Q (.bl (decide (x=y))) H
def rNe:R2:=λx y H Q=>scal x y=true/\Q (.bl (!decide (x=y))) H
def Fj{i j:Int}:decide (V.int i=V.int j)=(i==j):=by
 rw[QF];simp
def Fv{i j:Bool}:decide (V.bl i=V.bl j)=(i==j):=by
 rw[QF];simp
def FE{i j:Str}:decide (V.str i=V.str j)=(i==j):=by
 rw[QF];simp
def As{i j:Array UInt8}:decide (V.byt i=V.byt j)=(i.toList==j.toList):=by
 rw[QF];cases i
 cases j
 simp
section
variable {X:Cx}{a b c:Expr}{ta tb tc:TE}{pos:Pos}
def JF{pins:List (Addr×Obj)}{σ:St}{H:Hp}{s:Shared}{Q:VK}{k k':Bool}(I:Inv X pins σ H s)(q:Q (.bl k) H)(e:k=k'):EP X pins σ Q (.bool k') s:=by
 subst e;exact⟨.bl k,H,I,rfl,q⟩
def op_eq:OpR X (compareOp .Eq) rEq:=by
 intro pins s σ H x y v u Q I rx ry h;obtain⟨hs,q⟩:=h;cases x with
 |non=>
  cases rx
  cases y with
  |non=>cases ry;exact PySem.EqNone.eq_none_none (JF I q (by simp))
  |bl j=>cases ry;exact PySem.EqNone.eq_none_bool (JF I q (by simp))
  |int j=>obtain⟨t',rfl⟩:=ry;exact PySem.EqNone.eq_none_int (JF I q (by simp))
  |str j=>obtain⟨t',rfl⟩:=ry;exact PySem.EqNone.eq_none_str (JF I q (by simp))
  |_=>exact absurd (show false=true from hs) Yj
 |bl i=>
  cases rx
  cases y with
  |non=>cases ry;exact PySem.EqNone.eq_bool_none (JF I q (by simp))
  |bl j=>cases ry;exact eq_bool (JF I q Fv)
  |str j=>obtain⟨t',rfl⟩:=ry;exact PySem.EqMixed.eq_bool_str (JF I q (by simp))
  |_=>exact absurd (show false=true from hs) Yj
 |int i=>
  obtain⟨t,rfl⟩:=rx;cases y with
  |non=>cases ry;exact PySem.EqNone.eq_int_none (JF I q (by simp))
  |int j=>obtain⟨t',rfl⟩:=ry;exact eq_int (JF I q Fj)
  |str j=>obtain⟨t',rfl⟩:=ry;exact PySem.EqMixed.eq_int_str (JF I q (by simp))
  |_=>exact absurd (show false=true from hs) Yj
 |str i=>
  obtain⟨t,rfl⟩:=rx;cases y with
  |non=>cases ry;exact PySem.EqNone.eq_str_none (JF I q (by simp))
  |bl j=>cases ry;exact PySem.EqMixed.eq_str_bool (JF I q (by simp))
  |int j=>obtain⟨t',rfl⟩:=ry;exact PySem.EqMixed.eq_str_int (JF I q (by simp))
  |str j=>obtain⟨t',rfl⟩:=ry;exact eq_str (JF I q FE)
  |_=>exact absurd (show false=true from hs) Yj
 |byt i=>
  obtain⟨t,rfl⟩:=rx;cases y with
  |byt j=>obtain⟨t',rfl⟩:=ry;exact PySem.W.eq_bytes (JF I q As)
  |_=>exact absurd (show false=true from hs) Yj
 |_=>cases y<;>exact absurd (show false=true from hs) Yj
def op_ne:OpR X (compareOp .NotEq) rNe:=by
 intro pins s σ H x y v u Q I rx ry h;obtain⟨hs,q⟩:=h;cases x with
 |non=>
  cases rx
  cases y with
  |non=>cases ry;exact PySem.EqNone.ne_none_none (JF I q (by simp))
  |bl j=>cases ry;exact PySem.EqNone.ne_none_bool (JF I q (by simp))
  |int j=>obtain⟨t',rfl⟩:=ry;exact PySem.EqNone.ne_none_int (JF I q (by simp))
  |str j=>obtain⟨t',rfl⟩:=ry;exact PySem.EqNone.ne_none_str (JF I q (by simp))
  |_=>exact absurd (show false=true from hs) Yj
 |bl i=>
  cases rx
  cases y with
  |non=>cases ry;exact PySem.EqNone.ne_bool_none (JF I q (by simp))
  |bl j=>cases ry;exact ne_bool (JF I q (YD not Fv))
  |str j=>obtain⟨t',rfl⟩:=ry;exact PySem.EqMixed.ne_bool_str (JF I q (by simp))
  |_=>exact absurd (show false=true from hs) Yj
 |int i=>
  obtain⟨t,rfl⟩:=rx;cases y with
  |non=>cases ry;exact PySem.EqNone.ne_int_none (JF I q (by simp))
  |int j=>obtain⟨t',rfl⟩:=ry;exact ne_int (JF I q (YD not Fj))
  |str j=>obtain⟨t',rfl⟩:=ry;exact PySem.EqMixed.ne_int_str (JF I q (by simp))
  |_=>exact absurd (show false=true from hs) Yj
 |str i=>
  obtain⟨t,rfl⟩:=rx;cases y with
  |non=>cases ry;exact PySem.EqNone.ne_str_none (JF I q (by simp))
  |bl j=>cases ry;exact PySem.EqMixed.ne_str_bool (JF I q (by simp))
  |int j=>obtain⟨t',rfl⟩:=ry;exact PySem.EqMixed.ne_str_int (JF I q (by simp))
  |str j=>obtain⟨t',rfl⟩:=ry;exact ne_str (JF I q (YD not FE))
  |_=>exact absurd (show false=true from hs) Yj
 |byt i=>
  obtain⟨t,rfl⟩:=rx;cases y with
  |byt j=>obtain⟨t',rfl⟩:=ry;exact PySem.W.ne_bytes (JF I q (YD not As))
  |_=>exact absurd (show false=true from hs) Yj
 |_=>cases y<;>exact absurd (show false=true from hs) Yj
def Kn:OpR X (compareOp .Lt) (rI0 λi j=>.bl (decide (i<j))):=opB0 λ_ _ _ _ _ _ _ q=>lt_int q
def Xj:OpR X (compareOp .Gt) (rI0 λi j=>.bl (decide (j<i))):=opB0 λ_ _ _ _ _ _ _ q=>gt_int q
def FX:OpR X (compareOp .GtE) (rI0 λi j=>.bl (decide (j<=i))):=opB0 λ_ _ _ _ _ _ _ q=>ge_int q
def OpR.or {f:Value->Value->Sem Value}{r r':R2} (h:OpR X f r) (h':OpR X f r'):OpR X f (λx y H Q=>r x y H Q\/r' x y H Q):=by
 intro pins s σ H x y v u Q I rx ry q;rcases q with q|q
 ·exact h pins s σ H x y v u Q I rx ry q
 ·exact h' pins s σ H x y v u Q I rx ry q
def JN(b:Expr){op:CmpOp}(h:op≠.In:=by decide)(h2:op≠.NotIn:=by decide):behindInMarks op b=false:=by
 have e1:(op==CmpOp.In)=false:=by cases op<;>first|rfl|exact absurd rfl h
 have e2:(op==CmpOp.NotIn)=false:=by cases op<;>first|rfl|exact absurd rfl h2
 cases b<;>simp[behindInMarks,e1,e2]
def K0{op:CmpOp}{r:R2}(ho:OpR X (compareOp op) r)(ha:PE X a ta)(hb:PE X b tb)(hm:behindInMarks op b=false):PE X (.Compare a [op] [b] pos) (tOp r ta tb):=by
 intro pins s σ H Q I h;exact wpAny_Compare1 (binT ha hb I h λv u s2 x y H2 I2 rx ry q=>ho pins s2 σ H2 x y v u Q I2 rx ry q) hm
def Ts(t:TE):TT:=λσ H Q=>t σ H λx H'=>∃k,x=.bl k/\Q k H'
def J2{op:CmpOp}{r:R2}(ho:OpR X (compareOp op) r)(ha:PE X a ta)(hb:PE X b tb)(hm:behindInMarks op b=false):PT X (.Compare a [op] [b] pos) (Ts (tOp r ta tb)):=by
 intro pins s σ H Q I h
 refine wpAny_isTrue_Compare1 (thn (ha pins s σ H _ I h) λv s1 ⟨x,H1,I1,r1,q1⟩=>thn (hb pins s1 σ H1 _ I1 q1) λu s2 ⟨y,H2,I2,r2,q2⟩=>
  thn (ho pins s2 σ H2 x y v u _ I2 r1 r2 q2) λc s3 ⟨z,H3,I3,r3,k,e,q3⟩=>?_) hm
 subst e;cases r3
 exact W8 ⟨H3,I3,q3⟩
def TruV(K:Za)(x:V)(H:Hp)(k:Bool):Prop:=
 match x with
 | .non=>k=false
 | .bl b=>k=b
 | .int i=>k=(i != 0)
 | .str y=>y.length<=sizeLine/\k=((y.length:Int) != 0)
 | .byt y=>y.size<=sizeLine/\k=((y.size:Int) != 0)
 | .ref p=>(∃xs,SqL K H p xs/\k=!xs.isEmpty)\/(∃xs,SqT K H p xs/\k=!xs.isEmpty)\/∃kvs,H p=some (.dK kvs)/\k=!kvs.isEmpty
 |_=>False
def OT{κ:Type}{kvs:List (κ×V)}{vs:List (κ×Value)}(r:KV kvs vs):(!vs.isEmpty)=!kvs.isEmpty:=by
 cases r<;>rfl
def Fb{xs:List V}{its:List Value}(r:Vals xs its):(!its.toArray.isEmpty)=!xs.isEmpty:=by
 cases r<;>simp
def PV:(sizeLine:Nat)<2 ^ 63:=by rw[Q1];decide
def MM:TruR X (λx H Q=>∃k,TruV X.K x H k/\Q k H):=by
 intro pins s σ H x v Q I rx h;obtain⟨k,e,q⟩:=h;have hl:=PV;have hs:sizeLine=16777216:=Q1;cases x with
 |non=>
  cases rx
  have e':k=false:=e;subst e';exact truthy_none ⟨H,I,q⟩
 |bl b=>
  cases rx
  have e':k=b:=e;subst e';exact W8 ⟨H,I,q⟩
 |int i=>
  obtain⟨t,rfl⟩:=rx;have e':k=(i != 0):=e;subst e';exact PySem.P.truthy_int ⟨H,I,q⟩
 |str y=>
  obtain⟨t,rfl⟩:=rx;obtain⟨hy,e'⟩:y.length<=sizeLine/\k=((y.length:Int) != 0):=e;subst e';exact PySem.P.truthy_str (by omega) ⟨H,I.tok _,q⟩
 |byt y=>
  obtain⟨t,rfl⟩:=rx;obtain⟨hy,e'⟩:y.size<=sizeLine/\k=((y.size:Int) != 0):=e;subst e';exact PySem.W.truthy_bytes (by omega) ⟨H,I.tok _,q⟩
 |ref p=>
  cases rx
  have e':(∃xs,SqL X.K H p xs/\k=!xs.isEmpty)\/(∃xs,SqT X.K H p xs/\k=!xs.isEmpty)\/∃kvs,H p=some (.dK kvs)/\k=!kvs.isEmpty:=e;rcases e' with⟨xs,hx,e'⟩|⟨xs,hx,e'⟩|⟨kvs,hx,e'⟩
  ·subst e';obtain⟨its,r,pl,hz⟩:=I.list hx;have hlen:=r.length;exact wpAny_truthy_list pl.isList (by simp only[Yo];omega) ⟨H,I.tok _,by rw[Fb r];exact q⟩
  ·subst e';obtain⟨its,r,pl,hz⟩:=I.tuple hx;have hlen:=r.length;exact truthy_tuple pl (by simp only[Yo];omega) ⟨H,I.tok _,by rw[Fb r];exact q⟩
  ·subst e';obtain⟨hz,hS,vs,r,m⟩:kvs.length<=sizeLine/\(p==sysModules)=false/\∃vs,KV kvs vs/\s.heap.DictOf (U6 X.prog X.w) p vs:=I.hok p _ hx;have hlen:kvs.length=vs.length:=Paired.length r;exact wpAny_truthy_dict hS m (by omega) ⟨H,I.tok _,by rw[OT r];exact q⟩
 |_=>exact(show False from e).elim
def ME(ha:PE X a ta)(he:∀whole,isTrue a X.env whole=(do let v ←whole;standAt a.pos;holding [v] (truthy v))) :
  PT X a (λσ H Q=>ta σ H λx H'=>∃k,TruV X.K x H' k/\Q k H'):=by
 intro pins s σ H Q I h;exact isTrue_plain (thn (ha pins s σ H _ I h) λv s1 ⟨x,H1,I1,r1,q1⟩=>MM pins s1 σ H1 x v Q I1 r1 q1) (he _)
def vals1{x:V}{us:List Value}(r:Vals [x] us):∃u,us=[u]/\RelV x u:=by
 cases r with
 |cons r1 r2=>cases r2;exact⟨_,rfl,r1⟩
def vals2{x y:V}{us:List Value}(r:Vals [x,y] us):∃u w',us=[u,w']/\RelV x u/\RelV y w':=by
 cases r with
 |cons r1 r2=>
  cases r2 with
  |cons r3 r4=>cases r4;exact⟨_,_,rfl,r1,r3⟩
def MA(hc:X.calm=true):Uh X (.builtin "max") (λxs H Q=>∃i j,xs=[.int i,.int j]/\Q (.int (if j>i then j else i)) H):=by
 intro pins s σ H xs us Q I r h;obtain⟨i,j,rfl,q⟩:=h;obtain⟨u,w',rfl,⟨t,rfl⟩,⟨t',rfl⟩⟩:=vals2 r;refine max_two_ints (I.ok.hd hc) λh' tk k=>⟨_,H,I.kept k,?_,q⟩;by_cases hj:j>i
 ·rw[Ya hj,Ya hj];exact⟨_,rfl⟩
 ·rw[ZZ hj,ZZ hj];exact⟨_,rfl⟩
def Ob(hc:X.calm=true):Uh X (.builtin "min") (λxs H Q=>∃i j,xs=[.int i,.int j]/\Q (.int (if j<i then j else i)) H):=by
 intro pins s σ H xs us Q I r h;obtain⟨i,j,rfl,q⟩:=h;obtain⟨u,w',rfl,⟨t,rfl⟩,⟨t',rfl⟩⟩:=vals2 r;refine min_two_ints (I.ok.hd hc) λh' tk k=>⟨_,H,I.kept k,?_,q⟩;by_cases hj:j<i
 ·rw[Ya hj,Ya hj];exact⟨_,rfl⟩
 ·rw[ZZ hj,ZZ hj];exact⟨_,rfl⟩
def LenV(K:Za)(x:V)(H:Hp)(n:Nat):Prop:=
 match x with
 | .str y=>y.length<=sizeLine/\n=y.length
 | .byt y=>y.size<=sizeLine/\n=y.size
 | .ref p=>(∃xs,SqL K H p xs/\n=xs.length)\/∃xs,SqT K H p xs/\n=xs.length
 |_=>False
def NW:Uh X (.builtin "len") (λxs H Q=>∃x n,xs=[x]/\LenV X.K x H n/\Q (.int n) H):=by
 intro pins s σ H xs us Q I r h;obtain⟨x,n,rfl,e,q⟩:=h;obtain⟨u,rfl,rx⟩:=vals1 r;have hl:=PV;have hs:sizeLine=16777216:=Q1;cases x with
 |str y=>
  obtain⟨t,rfl⟩:=rx;obtain⟨hy,e'⟩:y.length<=sizeLine/\n=y.length:=e;subst e';exact len_str (by omega) ⟨.int _,H,I.tok _,⟨_,rfl⟩,q⟩
 |byt y=>
  obtain⟨t,rfl⟩:=rx;obtain⟨hy,e'⟩:y.size<=sizeLine/\n=y.size:=e;subst e';exact PySem.W.len_bytes (by omega) ⟨.int _,H,I.tok _,⟨_,rfl⟩,q⟩
 |ref p=>
  cases rx
  have e':(∃xs,SqL X.K H p xs/\n=xs.length)\/∃xs,SqT X.K H p xs/\n=xs.length:=e;rcases e' with⟨xs,hx,e'⟩|⟨xs,hx,e'⟩
  ·subst e';obtain⟨its,r',pl,hz⟩:=I.list hx;have hlen:=r'.length;exact Calls.call_len_list pl.isList (by simp only[Yo];omega) ⟨.int xs.length,H,I.tok _,⟨_,by simp only[Yo];rw[hlen]⟩,q⟩
  ·subst e';obtain⟨its,r',pl,hz⟩:=I.tuple hx;have hlen:=r'.length;exact len_tuple pl (by simp only[Yo];omega) ⟨.int xs.length,H,I.tok _,⟨_,by simp only[Yo];rw[hlen]⟩,q⟩
 |_=>exact(show False from e).elim
end
structure ObjM (h:Heap) (x dx C:Addr) (mA:Str->Option Value):Prop where
 obj:h.get? x=some (PySem.W.instObj C dx)
 ns:h.Ns1 dx mA
 ne:dx≠x
def F2{h:Heap}{dx:Addr}{mA:Str->Option Value}(n:h.Ns1 dx mA):∃od,h.get? dx=some od/\∀name,PySem.W.lookIn name od=some (mA name):=by
 obtain⟨o,es,ep,ho,hd,hk,_,hm⟩:=n;refine⟨o,ho,λname=>?_⟩;have e:=hm name;unfold nsFind findBy at e;rw[←Array.find?_toList]at e;unfold PySem.W.lookIn;rw[hd]
 dsimp only
 split
 ·rename_i y q;rw[q]at e;exact YD some e
 ·rename_i q;rw[q]at e
  have a:es.toList.any (·.refKey)=false:=by
   rw[Vd];intro y hy;obtain⟨z,t,hkey⟩:=hk y (Array.mem_toList_iff.mp hy);simp[DictEntry.refKey,hkey]
  have a':¬es.toList.any (·.refKey)=true:=by rw[a];exact Yj
  rw[ZZ a'];exact YD some e
def ObjM.look {h:Heap}{x dx C:Addr}{mA:Str->Option Value} (I:ObjM h x dx C mA):∃od,PySem.W.InstAt h x (PySem.W.instObj C dx) C (some od)/\∀name,PySem.W.lookIn name od=some (mA name):=
 let ⟨od,ho,hl⟩:=F2 I.ns
 ⟨od,⟨I.obj,rfl,rfl,ho⟩,hl⟩
section
variable {prog:Program}{w:World}{A:Around}{E:Value->Shared->Prop}{s:Shared}{K:Za}{x dx C f:Addr}{mA:Str->Option Value}{name:Str}{v:Value}
def Ox{expr:Bool}{Q:Value->Shared->Prop}(X:K.In s.heap)(I:ObjM s.heap x dx C mA)(hg:PySem.W.plainGet K C name=true)(hh:PySem.W.hasDictIn K C=true)(ha:PySem.W.findIn K (.ref C) name=some none)(hv:mA name=some v)(hv':PySem.W.handedIn v=true)(h:Q v {s with toks:=s.toks+1}) :
  wpAny (model prog w) A (getAttr (.ref x) name expr) Q E s:=by
 obtain⟨od,J,hl⟩:=I.look;exact PySem.W.get_value X J (QM hg).1 (PySem.W.findObj_own hh ha rfl (by rw[hl,hv])) hv' h
def LX{pl:Sem Bool}{Q:Value×List Value->Shared->Prop}(X:K.In s.heap)(I:ObjM s.heap x dx C mA)(hg:PySem.W.plainGet K C name=true)(hf:PySem.W.findIn K (.ref C) name=some (some (.ref f)))(ht:PySem.W.isFn K (.ref f)=true)(hv:mA name=none)(h:Q (.ref f,[.ref x]) s) :
  wpAny (model prog w) A (getMethod (.ref x) name pl) Q E s:=by
 obtain⟨od,J,hl⟩:=I.look;exact PySem.W.method_fn X J (QM hg).1 (QM hg).2 hf (beq_iff_eq.mp ht) (by show(PySem.W.lookIn name od).map (·.isSome)=some false;rw[hl,hv];rfl) h
def Ms{ns:List Str}{Q:Unit->Shared->Prop}(X:K.In s.heap)(I:ObjM s.heap x dx C mA)(hs:PySem.W.findIn K (.ref C) "__setattr__"=some (some (.builtin "object.__setattr__")))(hp:PySem.W.plainOver K C=true)(ht:PySem.W.takerIn K C name=some none)(hh:PySem.W.hasDictIn K C=true)(hw:PySem.Within mA ns)(hsz:ns.length<=sizeLine)(h:∀h',ObjM h' x dx C (λy=>if y=name then some v else mA y)->Heap.SameBut dx s.heap h'->Q () {s with heap:=h',toks:=s.toks+2}) :
  wpAny (model prog w) A (setAttr (.ref x) name v) Q E s:=by
 obtain⟨od,J,hl⟩:=I.look;refine PySem.W.set_plain X J hs (PySem.W.osa_open (s:={s with toks:=s.toks+1}) (r:=none) X J hp ht λb=>?_)
 obtain⟨cd,hc,hd'⟩:=Q7 hh;have hx:s.heap.get? x=some ⟨.ref C,some dx,.plain,#[]⟩:=I.obj;refine ZT (ZW (ZT (ZT (wpAny_loadPart hx (ZT (QY (s:={s with toks:=s.toks+1}) (QN X hc) ?_))))))
 rw[hd'];refine ZW (a:=some dx) (ZT (ZW (ZT ?_)));refine wpAny_nsSet1 (s:={s with toks:=s.toks+1}) I.ns λh' hn2 hs2=>?_
 obtain⟨oD,esD,epD,hoD,hdD,hcD⟩:=hn2.count (PySem.Within.cons name v hw);refine ZT (wpAny_lookBehind hoD (by rw[hdD];exact pastItsLine_dict (Yn hcD (by rw[Y1];omega))) ?_);exact ZW (h _ ⟨(hs2.2 _ (Ne.symm I.ne)).trans I.obj,hn2,I.ne⟩ hs2)
def Hl{R:Result->Shared->Prop}{vs:List Value}{kw:List (Str×Value)}(X:K.In s.heap)(hm:PySem.W.makesIn K C=true)(hi:PySem.W.findIn K (.ref C) "__init__"=some (some (.ref f)))(hf:PySem.W.typeIn K (.ref f)=some (.type "function"))
  (h:codeAny (model prog w) (A.under (.builtin "type.__call__" ⟨.ref C::vs,kw⟩)) (.call (.ref f) ⟨.ref (s.heap.objs.size+1)::vs,kw⟩) (PySem.W.InitBack (s.heap.objs.size+1) R)
   {s with heap:=(s.heap.push PySem.W.emptyDict).push (PySem.W.instObj C s.heap.objs.size)}) :
  codeAny (model prog w) A (.call (.ref C) ⟨vs,kw⟩) R s:=by
 obtain⟨hh,g,d,t,os⟩:=s;exact PySem.W.make_core (PySem.W.makes_of X hm) (WC X hi) (λself=>PySem.W.bind_fn X self hf) (.inl rfl) h
end
def putF(f:Str)(v:V):List (Str×V)->List (Str×V)
 |[]=>[(f,v)]
 |(g,x)::r=>if g=f then(g,v)::r else(g,x)::putF f v r
def FZ(f g:Str)(v:V):∀fs:List (Str×V),(putF f v fs).lookup g=if g=f then some v else fs.lookup g
 |[]=>by
  show List.lookup g [(f,v)]=_;by_cases h:g=f
  ·have hb:(g==f)=true:=beq_iff_eq.mpr h;simp only[List.lookup,hb,Ya h]
  ·have hb:(g==f)=false:=YZ.mpr h;simp only[List.lookup,hb,ZZ h]
 |(k,x)::r=>by
  have ih:=FZ f g v r;rw[show putF f v ((k,x)::r)=(if k=f then(k,v)::r else(k,x)::putF f v r)from rfl]
  by_cases hk:k=f
  ·rw[Ya hk];by_cases h:g=k
   ·have hb:(g==k)=true:=beq_iff_eq.mpr h;simp only[List.lookup,hb,Ya (h.trans hk)]
   ·have hb:(g==k)=false:=YZ.mpr h;simp only[List.lookup,hb,ZZ (λe:g=f=>h (e.trans hk.symm))]
  ·rw[ZZ hk];by_cases h:g=k
   ·have hb:(g==k)=true:=beq_iff_eq.mpr h;simp only[List.lookup,hb,ZZ (λe:g=f=>hk (h.symm.trans e))]
   ·have hb:(g==k)=false:=YZ.mpr h;simp only[List.lookup,hb];exact ih
def Nh(f:Str)(v:V):∀fs:List (Str×V),f∈(putF f v fs).map (·.1)/\∀g,g∈fs.map (·.1)->g∈(putF f v fs).map (·.1)
 |[]=>⟨by simp[putF],λg h=>by simp at h⟩
 |(k,x)::r=>by
  obtain⟨i1,i2⟩:=Nh f v r;rw[show putF f v ((k,x)::r)=(if k=f then(k,v)::r else(k,x)::putF f v r)from rfl]
  by_cases hk:k=f
  ·rw[Ya hk];subst hk;exact⟨by simp,λg h=>by simpa using h⟩
  ·rw[ZZ hk];refine⟨?_,λg h=>?_⟩
   ·rw[Ys];exact Yq _ i1
   ·rw[Ys]at h ⊢;rcases Yh.mp h with e|e
    ·exact Yh.mpr (.inl e)
    ·exact Yq _ (i2 g e)
def CK(f:Str)(v:V):∀fs:List (Str×V),(putF f v fs).length<=fs.length+1
 |[]=>by simp[putF]
 |(k,x)::r=>by
  have ih:=CK f v r;rw[show putF f v ((k,x)::r)=(if k=f then(k,v)::r else(k,x)::putF f v r)from rfl]
  by_cases hk:k=f
  ·rw[Ya hk,Y1,Y1];omega
  ·rw[ZZ hk,Y1,Y1];omega
def RelO.some_of {v:V}{o:Option Value} (r:RelO (some v) o):∃u,o=some u/\RelV v u:=by
 cases o with
 |none=>exact(show False from r).elim
 |some u=>exact⟨u,rfl,r⟩
def RelO.none_of {o:Option Value} (r:RelO none o):o=none:=by
 cases o with
 |none=>rfl
 |some u=>exact(show False from r).elim
def Fp{v:V}{u:Value}(r:RelV v u):PySem.W.handedIn u=true:=by
 cases v with
 |non=>cases (show u=Value.none from r);rfl
 |bl b=>cases (show u=Value.bool b from r);rfl
 |int i=>obtain⟨t,e⟩:=(show ∃t,u=Value.int i t from r);cases e;rfl
 |str x=>obtain⟨t,e⟩:=(show ∃t,u=Value.str x t from r);cases e;rfl
 |byt b=>obtain⟨t,e⟩:=(show ∃t,u=Value.bytes b t from r);cases e;rfl
 |flt b=>obtain⟨t,e⟩:=(show ∃t,u=Value.float b t from r);cases e;rfl
 |ref a=>cases (show u=Value.ref a from r);rfl
 |ty n=>cases (show u=Value.type n from r);rfl
section
variable {P:Program}{w:World}{H H':Hp}{h h':Heap}{a C dx:Addr}{fs fs':List (Str×V)}
def Tg(hok:HOk P w H h)(e:H a=some (.ins C dx fs)):∃mA,ObjM h a dx C mA/\(∀f,RelO (fs.lookup f) (mA f))/\PySem.Within mA (fs.map (·.1))/\fs.length<=1000/\H dx=some (.own a):=by
 obtain⟨d,z,ne,ob,mA,n,r,q⟩:=(show ObjOk P w H h a (.ins C dx fs)from hok a _ e)
 exact⟨mA,⟨ob,n,ne⟩,r,q,z,d⟩
end
structure Cls (K:Za) (C:Addr):Prop where
 pg:PySem.W.plainGet K C Str.empty=true
 hd:PySem.W.hasDictIn K C=true
 po:PySem.W.plainOver K C=true
 sa:PySem.W.findIn K (.ref C) "__setattr__"=some (some (.builtin "object.__setattr__"))
def Cls.get {K:Za}{C:Addr} (c:Cls K C) (f:Str):PySem.W.plainGet K C f=true:=c.pg
def NoAttr(K:Za)(C:Addr)(f:Str):Prop:=PySem.W.findIn K (.ref C) f=some none
def NoAttr.taker {K:Za}{C:Addr}{f:Str} (n:NoAttr K C f):PySem.W.takerIn K C f=some none:=by
 unfold PySem.W.takerIn;rw[show PySem.W.findIn K (.ref C) f=some none from n]
 rfl
structure Meth (K:Za) (C:Addr) (m:Str) (f:Addr):Prop where
 at_:PySem.W.findIn K (.ref C) m=some (some (.ref f))
 fn:PySem.W.isFn K (.ref f)=true
 kp:PySem.W.keepIn K (.ref f)=true
section
variable {X:Cx}{pins:List (Addr×Obj)}{σ:St}{H:Hp}{s:Shared}{a C dx:Addr}{fs:List (Str×V)}{f:Str}{v:V}{A:Around}{E:Value->Shared->Prop}
def LS{b:Bool}{Q:Value->Shared->Prop}(I:Inv X pins σ H s)(e:H a=some (.ins C dx fs))(c:Cls X.K C)(n:NoAttr X.K C f)(l:fs.lookup f=some v)(h:∀u s',Inv X pins σ H s'->RelV v u->Q u s'):wpAny (model X.prog X.w) A (getAttr (.ref a) f b) Q E s:=by
 obtain⟨mA,O,r,_,_,_⟩:=Tg I.hok e;obtain⟨u,hu,ru⟩:=RelO.some_of (v:=v) (o:=mA f) (by rw[←l];exact r f);exact Ox I.kIn O (c.get f) c.hd n hu (Fp ru) (h u _ (I.tok _) ru)
def Th{m:Str}{g:Addr}{pl:Sem Bool}{Q:Value×List Value->Shared->Prop}(I:Inv X pins σ H s)(e:H a=some (.ins C dx fs))(c:Cls X.K C)(k:Meth X.K C m g)(l:fs.lookup m=none)(h:Q (.ref g,[.ref a]) s):wpAny (model X.prog X.w) A (getMethod (.ref a) m pl) Q E s:=by
 obtain⟨mA,O,r,_,_,_⟩:=Tg I.hok e;have hn:mA m=none:=RelO.none_of (by rw[←l];exact r m);exact LX I.kIn O (c.get m) k.at_ k.fn hn h
def E3{y:V}{u:Value}{Q:Unit->Shared->Prop}(I:Inv X pins σ H s)(e:H a=some (.ins C dx fs))(c:Cls X.K C)(n:NoAttr X.K C f)(hl:fs.length<1000)(ry:RelV y u)(h:∀s',Inv X pins σ (upd H a (.ins C dx (putF f y fs))) s'->Q () s'):wpAny (model X.prog X.w) A (setAttr (.ref a) f u) Q E s:=by
 obtain⟨mA,O,r,wi,_,ho⟩:=Tg I.hok e;have hz:(fs.map (·.1)).length<=sizeLine:=by rw[ZV,Q1];omega
 refine Ms I.kIn O c.sa c.po n.taker c.hd wi hz λh' O' sb=>h _ ?_;have hd:∃o,h'.get? dx=some o:=let ⟨o,_,_,e',_⟩:=O'.ns;⟨o,e'⟩;refine I.write (x:=a) (e:=dx) (by rw[e];exact True.intro) (.inr ho) (λb q hb z=>(sb.2 b hb).trans z) hd ?_;refine⟨by rw[Jn O.ne];exact ho,?_,O.ne,O'.obj,_,O'.ns,λg=>?_,λg hg=>?_⟩
 ·have:=CK f y fs;omega
 ·show RelO ((putF f y fs).lookup g) (if g=f then some u else mA g);rw[FZ];by_cases q:g=f
  ·rw[Ya q,Ya q];exact ry
  ·rw[ZZ q,ZZ q];exact r g
 ·by_cases q:g=f
  ·rw[q];exact(Nh f y fs).1
  ·refine(Nh f y fs).2 g (wi g λz=>hg ?_);show(if g=f then some u else mA g)=none;rw[ZZ q];exact z
def Inv.made (I:Inv X pins σ H s):Inv X pins σ (upd (upd H s.heap.objs.size (.own (s.heap.objs.size+1))) (s.heap.objs.size+1) (.ins C s.heap.objs.size []))
  {s with heap:=(s.heap.push PySem.W.emptyDict).push (PySem.W.instObj C s.heap.objs.size)}:=by
 have e1:(s.heap.push PySem.W.emptyDict).get? s.heap.objs.size=some PySem.W.emptyDict:=Yi s.heap rfl
 have e2:((s.heap.push PySem.W.emptyDict).push (PySem.W.instObj C s.heap.objs.size)).get? (s.heap.objs.size+1)=some (PySem.W.instObj C s.heap.objs.size):=by
  have:=Yi (s.heap.push PySem.W.emptyDict) (o:=PySem.W.instObj C s.heap.objs.size) rfl
  rwa[WW]at this
 have e3:(s.heap.push PySem.W.emptyDict).Ns s.heap.objs.size (λ_=>none):=⟨PySem.W.emptyDict,#[],_,e1,rfl,(λe he=>absurd he (by simp)),λ_=>rfl⟩;have I1:=I.laid (a:=s.heap.objs.size) (o:=.own (s.heap.objs.size+1)) (h':=s.heap.push PySem.W.emptyDict) (t':=s.toks) (λb u q=>ZY _ q) (Yc _) ⟨_,e1⟩;refine I1.laid (a:=s.heap.objs.size+1) (o:=.ins C s.heap.objs.size []) (t':=s.toks) (λb u q=>ZY _ q) (Wz (WW _ _)) ?_;have ne:s.heap.objs.size≠s.heap.objs.size+1:=Yy (Q8 _);refine⟨by rw[Jn ne,Jw],We _,ne,e2,λ_=>none,(Heap.Ns1.of_empty e3).at λo q=>ZY _ q,λ_=>True.intro,λy hy=>absurd rfl hy⟩
def Dn{prog:Program}{w:World}{env:Env}{e:Expr}{f:Str}{pos:Pos}{s:Shared}{Q:Value->Shared->Prop}(hb:attributeBase e f env (eval e env)=eval e env)(h:wpAny (model prog w) A (eval e env) (λo s₁=>wpAny (model prog w) A (getAttr o f true) Q E s₁) E s):wpAny (model prog w) A (eval (.Attribute e f pos) env) Q E s:=
 Attribute_any_ h (by rw[arm_eval_Attribute,hb])
end
def tFld(K:Za)(ta:TE)(f:Str):TE:=λσ H Q=>ta σ H λx H1=>∃a C dx fs v,x=.ref a/\H1 a=some (.ins C dx fs)/\Cls K C/\NoAttr K C f/\fs.lookup f=some v/\Q v H1
def sFld(K:Za)(ta tv:TE)(f:Str):TS:=λD σ H=>tv σ H λy H1=>ta σ H1 λx H2=>∃a C dx fs,x=.ref a/\H2 a=some (.ins C dx fs)/\Cls K C/\NoAttr K C f/\fs.length<1000/\
 D.nx σ (upd H2 a (.ins C dx (putF f y fs)))
section
variable {X:Cx}{o e value:Expr}{f:Str}{pos pos' tpos:Pos}{ta tv:TE}
def XW(he:PE X e ta)(hb:attributeBase e f X.env (eval e X.env)=eval e X.env):PE X (.Attribute e f pos) (tFld X.K ta f):=by
 intro pins s σ H Q I h;refine Dn hb (thn (he pins s σ H _ I h) λu s1 ⟨x,H1,I1,rx,a,C,dx,fs,v,ex,ea,c,n,l,q⟩=>?_);subst ex;obtain rfl:u=Value.ref a:=rx;exact LS I1 ea c n l λu' s2 I2 ru=>⟨v,H1,I2,ru,q⟩
def SD(ha:PE X o ta)(hv:PE X value tv)(hs:swapsWith value (some (.Attribute o f pos')) pos.line X.env=pure false):PS X (.Assign [.Attribute o f pos'] value pos) (sFld X.K ta tv f):=by
 intro pins s σ H D I h;refine plainObj_wpAny_Assign_Attribute (thn (hv pins s σ H _ I h) λu s1 ⟨y,H1,I1,ry,q⟩=>thn (ha pins s1 σ H1 _ I1 q) λov s2 ⟨x,H2,I2,rx,a,C,dx,fs,ex,ea,c,n,l,q2⟩=>?_) hs;subst ex;obtain rfl:ov=Value.ref a:=rx;exact E3 I2 ea c n l ry λs3 I3=>⟨σ,_,I3,q2⟩
def Zag{pl:Sem Bool}{m:Str}{apos:Pos}{args:List Expr}{pins:List (Addr×Obj)}{s:Shared}{σ:St}{H:Hp}{Q:Value->Shared->Prop}{te:TE}(he:PE X e te)(I:Inv X pins σ H s)
  (h:te σ H λx H1=>∃a C dx fs g,x=.ref a/\H1 a=some (.ins C dx fs)/\Cls X.K C/\Meth X.K C m g/\fs.lookup m=none/\
   ∀s1,Inv X pins σ H1 s1->wpAny (model X.prog X.w) X.A (callWith pos (.ref g) [.ref a] (backTo pos (starEach args X.env)) (backToKw pos (keywordEach [] X.env))) Q X.xe s1)
  (ht:eval (.Call (.Attribute e m apos) args [] pos) X.env=(do
   let ov ←eval e X.env
   standAt apos.atName
   let (f,first) ←holding [ov] (getMethod ov m pl)
   callWith pos f first (backTo pos (starEach args X.env)) (backToKw pos (keywordEach [] X.env)))) :
  wpAny (model X.prog X.w) X.A (eval (.Call (.Attribute e m apos) args [] pos) X.env) Q X.xe s:=by
 refine WX (pl:=pl) (thn (he pins s σ H _ I h) λu s1 ⟨x,H1,I1,rx,a,C,dx,fs,g,ex,ea,c,k,l,q⟩=>?_) ht;subst ex;obtain rfl:u=Value.ref a:=rx;exact Th I1 ea c k l (q s1 I1)
end
section
variable {X:Cx}{pins:List (Addr×Obj)}{σ:St}{H:Hp}{s:Shared}{A:Around}{E:Value->Shared->Prop}{Q:Value->Shared->Prop}{c:Value}{b:Bool}
inductive TyOf (K:Za) (H:Hp):V->Value->Prop where
 |non:TyOf K H .non (.type "NoneType")
 |bl (x:Bool):TyOf K H (.bl x) (.type "bool")
 |int (i:Int):TyOf K H (.int i) (.type "int")
 |str (x:Str):TyOf K H (.str x) (.type "str")
 |flt (x:UInt64):TyOf K H (.flt x) (.type "float")
 |lst {a:Addr} {xs:List V} (e:H a=some (.lst xs)):TyOf K H (.ref a) (.type "list")
 |frz {a:Addr} {o:Obj} {xs:List V} (e:H a=some (.frz o (.lst xs))):TyOf K H (.ref a) (.type "list")
 |tup {a:Addr} {xs:List V} (e:H a=some (.tup xs)):TyOf K H (.ref a) (.type "tuple")
 |dK {a:Addr} {kvs:List (Key×V)} (e:H a=some (.dK kvs)):TyOf K H (.ref a) (.type "dict")
 |dT {a:Addr} {kvs:List (List Key×V)} (e:H a=some (.dT kvs)):TyOf K H (.ref a) (.type "dict")
 |ins {a C dx:Addr} {fs:List (Str×V)} (e:H a=some (.ins C dx fs)) (cl:Cls K C) (ha:PySem.W.findIn K (.ref C) "__class__"=some (some (.builtin "object.__class__")))
   (hn:PySem.W.specialIn K (.builtin "object.__class__") "__get__"=some (some (.builtin "getset_descriptor.__get__"))) (htk:PySem.W.takesIn K (.builtin "object.__class__")=some true)
   (hm:PySem.W.mroIn K C (.type "object")=some true):TyOf K H (.ref a) (.ref C)
def MK{x:V}{u t:Value}(I:Inv X pins σ H s)(rx:RelV x u)(ty:TyOf X.K H x t)(e:PySem.W.kitOne X.K t c=some b)(h:∀tk,Q (.bool b) {s with toks:=tk}) :
  wpAny (model X.prog X.w) A (call (.builtin "isinstance") [u,c]) Q E s:=by
 cases ty with
 |non=>cases (show u=Value.none from rx);exact YW PySem.W.kitx_none I.kIn True.intro e (λz=>nomatch z) h
 |bl y=>cases (show u=Value.bool y from rx);exact YW PySem.W.kitx_bool I.kIn True.intro e (λz=>nomatch z) h
 |int i=>obtain⟨t,q⟩:=(show ∃t,u=Value.int i t from rx);cases q;exact YW PySem.W.kitx_int I.kIn True.intro e (λz=>nomatch z) h
 |str y=>obtain⟨t,q⟩:=(show ∃t,u=Value.str y t from rx);cases q;exact YW PySem.W.kitx_str I.kIn True.intro e (λz=>nomatch z) h
 |flt y=>obtain⟨t,q⟩:=(show ∃t,u=Value.float y t from rx);cases q;exact YW PySem.W.kitx_float I.kIn True.intro e (λz=>nomatch z) h
 | @lst a xs ea=>
  cases (show u=Value.ref a from rx)
  obtain⟨_,_,n,_,h1⟩:=(show ObjOk X.prog X.w H s.heap a (.lst xs)from I.hok a _ ea)
  exact YW PySem.W.kitx_list I.kIn ⟨_,h1,rfl⟩ e (λz=>nomatch z) h
 | @frz a ob xs ea=>
  cases (show u=Value.ref a from rx)
  obtain⟨_,_,_,n,_,h1⟩:=(show ObjOk X.prog X.w H s.heap a (.frz ob (.lst xs))from I.hok a _ ea)
  exact YW PySem.W.kitx_list I.kIn ⟨_,h1,rfl⟩ e (λz=>nomatch z) h
 | @tup a xs ea=>
  cases (show u=Value.ref a from rx)
  obtain⟨_,_,_,p⟩:=(show ObjOk X.prog X.w H s.heap a (.tup xs)from I.hok a _ ea)
  obtain⟨o,h1,h2,_⟩:=p;exact YW PySem.W.kitx_tuple I.kIn ⟨o,h1,h2⟩ e (λz=>nomatch z) h
 | @dK a kvs ea=>
  cases (show u=Value.ref a from rx)
  obtain⟨_,_,vs,_,p⟩:=(show ObjOk X.prog X.w H s.heap a (.dK kvs)from I.hok a _ ea)
  obtain⟨o,es,ep,h1,h2,_⟩:=p;exact YW PySem.W.kitx_dict I.kIn ⟨o,h1,h2.1⟩ e (λz=>nomatch z) h
 | @dT a kvs ea=>
  cases (show u=Value.ref a from rx)
  obtain⟨_,_,xs,_,o,es,ep,h1,h2,_⟩:=(show ObjOk X.prog X.w H s.heap a (.dT kvs)from I.hok a _ ea)
  exact YW PySem.W.kitx_dict I.kIn ⟨o,h1,h2.1⟩ e (λz=>nomatch z) h
 | @ins a C dx fs ea cl ha hn htk hm=>
  cases (show u=Value.ref a from rx)
  obtain⟨mA,O,_⟩:=Tg I.hok ea;obtain⟨od,J,_⟩:=O.look;exact YW (PySem.W.kitx_own (cl.get _) cl.hd ha hn htk hm) I.kIn J e (λz=>nomatch z) h
end
structure Room (k:Nat) (A:Around):Prop where
 hd:A.handled=none
 dp:A.depth+3*k+5<recursionLimit
 un:A.units+16*k+200<cLine
def Room.mono {j k:Nat}{A:Around} (r:Room k A) (h:j<=k):Room j A:=⟨r.hd,by have:=r.dp;omega,by have:=r.un;omega⟩
def Room.deeper {k:Nat}{A:Around} (r:Room (k+1) A) (env:Env):Room k (A.deeper env):=
 ⟨r.hd,by have:=r.dp;show A.depth+1+3*k+5<_;omega,by have:=r.un;show A.units+3+16*k+200<_;omega⟩
def Lo{A:Around}{C:Addr}{us:List Value}{kw:List (Str×Value)}:(A.under (.builtin "type.__call__" ⟨.ref C::us,kw⟩)).depth=A.depth+1:=by
 first|rfl|simp[Around.under,Code.weight,Code.isCreation,Code.isGuard,Code.isCaller,Code.frames,Code.isFrame,guardIds]
def EE{A:Around}{C:Addr}{us:List Value}{kw:List (Str×Value)}:(A.under (.builtin "type.__call__" ⟨.ref C::us,kw⟩)).units=A.units+1:=by
 first|rfl|simp[Around.under,Code.cUnits,Code.frames,Code.isFrame]
def Room.make {k:Nat}{A:Around} (r:Room (k+1) A) (C:Addr) (us:List Value) (kw:List (Str×Value)):Room k (A.under (.builtin "type.__call__" ⟨.ref C::us,kw⟩)):=
 ⟨r.hd,by have:=r.dp;rw[Lo];omega,by have:=r.un;rw[EE];omega⟩
def Room.depth {k:Nat}{A:Around} (r:Room k A):A.depth<recursionLimit:=by have:=r.dp;omega
def Room.units {k:Nat}{A:Around} (r:Room k A):A.units+64<cLine:=by have:=r.un;omega
def Room.units0 {k:Nat}{A:Around} (r:Room k A):A.units<cLine:=by have:=r.un;omega
def tNil:TA:=λ_ H Q=>Q [] H
def Ua(ta:TE)(tr:TA):TA:=λσ H Q=>ta σ H λx H1=>tr σ H1 λxs H2=>Q (x::xs) H2
section
variable {X:Cx}{e:Expr}{es:List Expr}{te:TE}{t:TA}{pos:Pos}
def J8:PA X [] tNil:=λ_ _ _ _ H Q I h=>Calls.spliced_nil ⟨[],H,I,.nil,h⟩
def J0(ha:PE X e te)(hr:PA X es t)(hs:starEach (e::es) X.env=(false,eval e X.env)::starEach es X.env:=by rfl):PA X (e::es) (Ua te t):=by
 intro pos pins s σ H Q I h;rw[hs];show wpAny _ _ (spliced ((false,eval e X.env)::backTo pos (starEach es X.env))) _ _ s;refine Calls.spliced_cons (thn (ha pins s σ H _ I h) λu s1 ⟨x,H1,I1,r1,q1⟩=>?_);exact thn (hr pos pins s1 σ H1 _ I1 q1) λus s2 ⟨xs,H2,I2,r2,q2⟩=>⟨x::xs,H2,I2,.cons r1 r2,q2⟩
def tTup(t:TA):TE:=λσ H Q=>t σ H λxs H1=>xs.length<=sizeLine/\∀p,H1 p=none->Q (.ref p) (upd H1 p (.tup xs))
def tLst(t:TA):TE:=λσ H Q=>t σ H λxs H1=>xs.length<=sizeLine/\∀p,H1 p=none->Q (.ref p) (upd H1 p (.lst xs))
def Ug{x1}(h:PA X es t):PE X (.Tuple es x1 pos) (tTup t):=by
 intro pins s σ H Q I hq;refine wpAny_Tuple_spliced (thn (h pos pins s σ H _ I hq) λus s1 ⟨xs,H1,I1,r,z,q⟩=>⟨by rw[←r.length];exact z,?_⟩);have hf:H1 s1.heap.objs.size=none:=I1.hok.fresh (Yc _);refine⟨.ref s1.heap.objs.size,upd H1 s1.heap.objs.size (.tup xs),I1.laid (t':=s1.toks) (λb u e=>ZY _ e) (Yc _) ?_,rfl,q _ hf⟩;exact⟨z,us,r,⟨_,Yi _ rfl,rfl,_,rfl⟩⟩
def JD(h:PA X es t):PE X (.List es pos) (tLst t):=by
 intro pins s σ H Q I hq;refine wpAny_List_spliced (thn (h pos pins s σ H _ I hq) λus s1 ⟨xs,H1,I1,r,z,q⟩=>⟨by rw[←r.length];exact z,?_⟩);have hf:H1 s1.heap.objs.size=none:=I1.hok.fresh (Yc _);refine⟨.ref s1.heap.objs.size,upd H1 s1.heap.objs.size (.lst xs),I1.laid (t':=s1.toks) (λb u e=>ZY _ e) (Yc _) ?_,rfl,q _ hf⟩;exact⟨z,us,0,r,Yi _ rfl⟩
end
abbrev Sp:=List V->Hp->VK->XK->Prop
abbrev CXT:=List Env->Hp->Shared->XK->Value->Shared->Prop
structure Env0 (P:Program) (w:World) (K:Za) (mg:Str->Option Value) (base:Heap) (A:Around) (outer:List Env) (s:Shared) (H:Hp):Prop where
 frames:A.frames=some outer
 mod:Mod K mg base
 bs:∀b o,base.get? b=some o->s.heap.get? b=some o/\H b=none
 bsz:base.objs.size<=s.heap.objs.size
 funs:s.heap.FunFrames base outer
 frf:∀b∈frs outer,H b=none
 hok:HOk P w H s.heap
 bare:AllBare s.gens
def CE(outer:List Env)(P:Program)(w:World)(H:Hp)(s:Shared)(Q:VK)(u:Value)(s':Shared):Prop:=
 ∃v H',s'.os=s.os/\AllBare s'.gens/\Un (frs outer) [] H H' s.heap s'.heap/\HOk P w H' s'.heap/\RelV v u/\Q v H'
def CR(CX:CXT)(outer:List Env)(P:Program)(w:World)(H:Hp)(s:Shared)(Q:VK)(E:XK)(r:Result)(s':Shared):Prop:=
 match r with
 | .ok (.ret u)=>CE outer P w H s Q u s'
 | .ok _=>False
 | .error e=>CX outer H s E e s'
structure FnOk (P:Program) (w:World) (K:Za) (mg:Str->Option Value) (base:Heap) (CX:CXT) (k:Nat) (f:Addr) (fd:FuncData) (ps:List Str) (sp:Sp):Prop where
 len:∀vs H Q E,sp vs H Q E->vs.length=ps.length
 run:∀(A:Around) (outer:List Env) (s:Shared) (H:Hp) (args:Args) (us:List Value) (vs:List V) (Q:VK) (E:XK),Room k A->Env0 P w K mg base A outer s H->BindsTo s fd args (ps.zip us)->Vals vs us->sp vs H Q E->
  codeAny (model P w) A (.call (.ref f) args) (CR CX outer P w H s Q E) s
def FnOk.imp {P:Program}{w:World}{K:Za}{mg:Str->Option Value}{base:Heap}{CX:CXT}{k:Nat}{f:Addr}{fd:FuncData}{ps:List Str}{sp sp':Sp} (F:FnOk P w K mg base CX k f fd ps sp)
  (h:∀vs H Q E,sp' vs H Q E->sp vs H Q E):FnOk P w K mg base CX k f fd ps sp':=
 ⟨λvs H Q E q=>F.len vs H Q E (h _ _ _ _ q),λA outer s H args us vs Q E hr he hb hv hs=>F.run A outer s H args us vs Q E hr he hb hv (h _ _ _ _ hs)⟩
def Env0.make {P:Program}{w:World}{K:Za}{mg:Str->Option Value}{base:Heap}{A:Around}{outer:List Env}{s:Shared}{H:Hp} (e:Env0 P w K mg base A outer s H) (C:Addr) (us:List Value) (kw:List (Str×Value)) :
  Env0 P w K mg base (A.under (.builtin "type.__call__" ⟨.ref C::us,kw⟩)) outer s H:=⟨by first|exact e.frames|(simpa [Around.under,Code.envs,Code.isFrame,pushEnvs]using e.frames),e.mod,e.bs,e.bsz,e.funs,e.frf,e.hok,e.bare⟩
section
variable {X:Cx}{pins:List (Addr×Obj)}{σ:St}{H:Hp}{s s':Shared}
def Inv.env0 (I:Inv X pins σ H s):Env0 X.prog X.w X.K X.mg X.base X.A X.stack s H:=
 ⟨I.ok.frames,I.ok.mod,I.bs,Yn I.ok.bsz I.sz,I.stack,I.stkFree,I.hok,I.bare⟩
def Inv.after {Q:VK}{u:Value} (I:Inv X pins σ H s) (h:CE X.stack X.prog X.w H s Q u s'):EP X pins σ Q u s':=by
 obtain⟨v,H',os,bare,un,hok,r,q⟩:=h;obtain⟨hh,g,d,t,os'⟩:=s';obtain rfl:os'=s.os:=os;exact⟨v,H',I.call (h':=hh) (g':=g) (d':=d) (t':=t) (ch:=[]) un hok bare (λb z=>absurd z (by simp)),r,q⟩
end
def XH(sp:Sp)(dvs:List V)(E:XK)(t:TA):TE:=λσ H Q=>t σ H λvs H1=>sp (vs++dvs) H1 Q E
def Kg(C:Addr)(m:Str)(sp:Sp)(dvs:List V)(E:XK)(ta:TE)(t:TA):TE:=λσ H Q=>ta σ H λx H1=>∃a dx fs,x=.ref a/\H1 a=some (.ins C dx fs)/\fs.lookup m=none/\
 t σ H1 λvs H2=>sp (x::(vs++dvs)) H2 Q E
def SU(C:Addr)(sp:Sp)(dvs:List V)(E:XK)(t:TA):TE:=λσ H Q=>t σ H λvs H1=>∀x dx,H1 x=none->H1 dx=none->dx≠x->
 sp (.ref x::(vs++dvs)) (upd (upd H1 dx (.own x)) x (.ins C dx [])) (λv H2=>v=.non/\Q (.ref x) H2) E
def Binds(K:Za)(fd:FuncData)(ps:List Str)(ds:List Value):Prop:=
 ∀(s:Shared) (us:List Value),K.In s.heap->(us++ds).length=ps.length->BindsTo s fd ⟨us,[]⟩ (ps.zip (us++ds))
def Binds.all {K:Za}{fd:FuncData}{ps:List Str} (h:∀us:List Value,us.length=ps.length->bindArgs fd ⟨us,[]⟩=pure (ps.zip us)):Binds K fd ps []:=λs us _ hl=>by
 rw[YO]at hl ⊢;exact .of_eq (h us hl)
def UE(CX:CXT)(X:Cx)(E:XK):Prop:=∀(pins:List (Addr×Obj)) (σ:St) (H:Hp) (s:Shared) (e:Value) (s':Shared),Inv X pins σ H s->CX X.stack H s E e s'->X.xe e s'
section
variable {X:Cx}{CX:CXT}{k:Nat}{f C:Addr}{fd:FuncData}{ps:List Str}{sp:Sp}{dvs:List V}{ds:List Value}{E:XK}{x m:Str}{p pos apos:Pos}{e o:Expr}{es:List Expr}{ta:TE}{t:TA}
def Bu{pins:List (Addr×Obj)}{σ:St}{H:Hp}{s:Shared}{Q:VK}{us:List Value}{vs:List V}(F:FnOk X.prog X.w X.K X.mg X.base CX k f fd ps sp)(hr:Room k X.A)(hb:Binds X.K fd ps ds)(hd:Vals dvs ds)(hx:UE CX X E)(I:Inv X pins σ H s)(r:Vals vs us)(h:sp (vs++dvs) H Q E):wpAny (model X.prog X.w) X.A (call (.ref f) us) (EP X pins σ Q) X.xe s:=by
 have r2:Vals (vs++dvs) (us++ds):=r.append hd;have hl:(us++ds).length=ps.length:=by rw[←r2.length];exact F.len _ _ _ _ h
 refine QG (W1 (F.run X.A X.stack s H ⟨us,[]⟩ (us++ds) (vs++dvs) Q E hr I.env0 (hb s us I.kIn hl) r2 h) λr s' hq=>?_);cases r with
 |error e=>exact hx pins σ H s e s' I hq
 |ok fl=>
  cases fl with
  |ret u=>exact I.after hq
  |next=>exact False.elim hq
  |brk=>exact False.elim hq
  |cont=>exact False.elim hq
def RA(F:FnOk X.prog X.w X.K X.mg X.base CX k f fd ps sp)(hr:Room k X.A)(hg:Gl X x)(hm:X.mg x=some (.ref f))(hk:PySem.W.keepIn X.K (.ref f)=true)(hb:Binds X.K fd ps ds)(hd:Vals dvs ds)(hx:UE CX X E)(ha:PA X (e::es) t)(hdb:(x==("__debug__" : Str))=false:=by decide)(he:starEach (e::es) X.env=(false,eval e X.env)::starEach es X.env:=by rfl)(hpl:(backTo pos (starEach es X.env)).any (·.1)=false:=by rfl) :
  PE X (.Call (.Name x p) (e::es) [] pos) (XH sp dvs E t):=by
 intro pins s σ H Q I h;refine Ql (K9 I hg hm ?_ hdb);refine QZ (h₀:=X.base) I.ok.mod.kin hk (thn (ha pos pins s σ H _ I h) λus s1 ⟨vs,H1,I1,r,q⟩=>⟨I1.kIn,?_⟩) he hpl;exact Bu F hr hb hd hx I1 r q
def IZ{pl:Sem Bool}(he:PE X o ta)(c:Cls X.K C)(hm:Meth X.K C m f)(F:FnOk X.prog X.w X.K X.mg X.base CX k f fd ps sp)(hr:Room k X.A)(hb:Binds X.K fd ps ds)(hd:Vals dvs ds)(hx:UE CX X E)(ha:PA X (e::es) t)(hst:starEach (e::es) X.env=(false,eval e X.env)::starEach es X.env:=by rfl)(hpl:(backTo pos (starEach es X.env)).any (·.1)=false:=by rfl)
  (ht:eval (.Call (.Attribute o m apos) (e::es) [] pos) X.env=(do
   let ov ←eval o X.env
   standAt apos.atName
   let (f,first) ←holding [ov] (getMethod ov m pl)
   callWith pos f first (backTo pos (starEach (e::es) X.env)) (backToKw pos (keywordEach [] X.env))):=by rfl) :
  PE X (.Call (.Attribute o m apos) (e::es) [] pos) (Kg C m sp dvs E ta t):=by
 intro pins s σ H Q I h;refine WX (pl:=pl) (thn (he pins s σ H _ I h) λu s1 ⟨x,H1,I1,rx,a,dx,fs,ex,ea,l,q⟩=>?_) ht;subst ex;obtain rfl:u=Value.ref a:=rx;refine Th I1 ea c hm l ?_;refine QZ (first:=[.ref a]) (h₀:=X.base) I.ok.mod.kin hm.kp (thn (ha pos pins s1 σ H1 _ I1 q) λus s2 ⟨vs,H2,I2,r,q2⟩=>⟨I2.kIn,?_⟩) hst hpl
 exact Bu (us:=.ref a::us) (vs:=.ref a::vs) F hr hb hd hx I2 (.cons rfl r) q2
def Oj{pl:Sem Bool}(he:PE X o ta)(c:Cls X.K C)(hm:Meth X.K C m f)(F:FnOk X.prog X.w X.K X.mg X.base CX k f fd ps sp)(hr:Room k X.A)(hb:Binds X.K fd ps ds)(hd:Vals dvs ds)(hx:UE CX X E)
  (ht:eval (.Call (.Attribute o m apos) [] [] pos) X.env=(do
   let ov ←eval o X.env
   standAt apos.atName
   let (f,first) ←holding [ov] (getMethod ov m pl)
   callWith pos f first (backTo pos (starEach [] X.env)) (backToKw pos (keywordEach [] X.env))):=by rfl) :
  PE X (.Call (.Attribute o m apos) [] [] pos) (Kg C m sp dvs E ta tNil):=by
 intro pins s σ H Q I h;refine WX (pl:=pl) (thn (he pins s σ H _ I h) λu s1 ⟨x,H1,I1,rx,a,dx,fs,ex,ea,l,q⟩=>?_) ht;subst ex;obtain rfl:u=Value.ref a:=rx;refine Th I1 ea c hm l ?_;exact PySem.W.callWith_K0 (first:=[.ref a]) I1.kIn hm.kp (Bu (us:=[.ref a]) (vs:=[.ref a]) F hr hb hd hx I1 (.cons rfl .nil) q)
structure Mk (K:Za) (C f:Addr):Prop where
 makes:PySem.W.makesIn K C=true
 init:PySem.W.findIn K (.ref C) "__init__"=some (some (.ref f))
 fn:PySem.W.isFn K (.ref f)=true
 kp:PySem.W.keepIn K (.ref C)=true
def GF{pins:List (Addr×Obj)}{σ:St}{H:Hp}{s:Shared}{Q:VK}{us:List Value}{vs:List V}(M:Mk X.K C f)(F:FnOk X.prog X.w X.K X.mg X.base CX k f fd ps sp)(hr:Room (k+1) X.A)(hb:Binds X.K fd ps ds)(hd:Vals dvs ds)(hx:UE CX X E)(I:Inv X pins σ H s)(r:Vals vs us)(h:∀x dx,H x=none->H dx=none->dx≠x->sp (.ref x::(vs++dvs)) (upd (upd H dx (.own x)) x (.ins C dx [])) (λv H2=>v=.non/\Q (.ref x) H2) E) :
  wpAny (model X.prog X.w) X.A (call (.ref C) us) (EP X pins σ Q) X.xe s:=by
 have hq:=h (s.heap.objs.size+1) s.heap.objs.size (I.hok.fresh (WS _)) (I.hok.fresh (Yc _)) (Yy (Q8 _));have I2:=Inv.made (C:=C) I;have r2:Vals (V.ref (s.heap.objs.size+1)::(vs++dvs)) (Value.ref (s.heap.objs.size+1)::(us++ds)):=.cons rfl (r.append hd)
 have hl:(Value.ref (s.heap.objs.size+1)::us++ds).length=ps.length:=by
  have e:=r2.length;rw[F.len _ _ _ _ hq]at e;exact e.symm
 refine QG (Hl (f:=f) I.kIn M.makes M.init (beq_iff_eq.mp M.fn) (W1 (F.run _ X.stack _ _ ⟨Value.ref (s.heap.objs.size+1)::us,[]⟩ (Value.ref (s.heap.objs.size+1)::(us++ds)) _ _ E (hr.make C us [])
  (I2.env0.make C us []) (hb _ (Value.ref (s.heap.objs.size+1)::us) I2.kIn hl) r2 hq) λr s' hq'=>?_))
 cases r with
 |error e=>exact hx pins σ _ _ e s' I2 hq'
 |ok fl=>
  cases fl with
  |ret u=>
   obtain⟨v,H',I3,rv,ev,q3⟩:=I2.after hq';subst ev;exact⟨rv,⟨V.ref (s.heap.objs.size+1),H',I3,rfl,q3⟩⟩
  |next=>exact False.elim hq'
  |brk=>exact False.elim hq'
  |cont=>exact False.elim hq'
def Ml(M:Mk X.K C f)(F:FnOk X.prog X.w X.K X.mg X.base CX k f fd ps sp)(hr:Room (k+1) X.A)(hg:Gl X x)(hm:X.mg x=some (.ref C))(hb:Binds X.K fd ps ds)(hd:Vals dvs ds)(hx:UE CX X E)(ha:PA X (e::es) t)(hdb:(x==("__debug__" : Str))=false:=by decide)(he:starEach (e::es) X.env=(false,eval e X.env)::starEach es X.env:=by rfl)(hpl:(backTo pos (starEach es X.env)).any (·.1)=false:=by rfl) :
  PE X (.Call (.Name x p) (e::es) [] pos) (SU C sp dvs E t):=by
 intro pins s σ H Q I h;refine Ql (K9 I hg hm ?_ hdb);refine QZ (h₀:=X.base) I.ok.mod.kin M.kp (thn (ha pos pins s σ H _ I h) λus s1 ⟨vs,H1,I1,r,q⟩=>⟨I1.kIn,?_⟩) he hpl;exact GF M F hr hb hd hx I1 r q
end
structure FnScope (N P:List Str) (sc:Scope):Prop where
 kind:sc.kind=.function
 co:sc.isCoroutine=false
 gen:sc.isGenerator=false
 nd:N.Nodup
 pre:N.take P.length=P
 par:∀x∈P,sc.names.lookup x=some .local\/sc.names.lookup x=some .cell
 nofree:∀y∈sc.names,y.2≠.free
def Cf{kindOf:Str->Option NameKind}{x:Str}:∀{binds:List (Str×Value)}{m:Str->Option Value},(∀v,(x,v)∉binds)->bindL kindOf binds m x=m x
 |[],_,_=>rfl
 |(n,v)::r,m,h=>by
  unfold bindL;rw[Cf λw hw=>h w (Yq _ hw)];split
  ·have:x≠n:=by rintro rfl;exact h v Yz
   simp[this]
  ·rfl
def Cn{kindOf:Str->Option NameKind}{x:Str}:∀{binds:List (Str×Value)}{m:Str->Option Value},(∀v,(x,v)∉binds)->bindC kindOf binds m x=m x
 |[],_,_=>rfl
 |(n,v)::r,m,h=>by
  unfold bindC;rw[Cn λw hw=>h w (Yq _ hw)];split
  ·rfl
  ·have:x≠n:=by rintro rfl;exact h v Yz
   simp[this]
def FB{kindOf:Str->Option NameKind}{x:Str}{v:Value}:∀{P:List Str}{vs:List Value}{i:Nat}{m:Str->Option Value},P.Nodup->P[i]?=some x->vs[i]?=some v->kindOf x=some .local->
  bindL kindOf (P.zip vs) m x=some v
 |[],_,_,_,_,h,_,_=>by simp at h
 |_::_,[],_,_,_,_,h,_=>by simp at h
 |p::P,w::vs,0,m,nd,h1,h2,hk=>by
  simp at h1 h2;subst h1;subst h2;show bindL kindOf ((p,w)::P.zip vs) m p=_;unfold bindL;rw[Cf λv hv=>(Y8.mp nd).1 (List.of_mem_zip hv).1,Ya hk];simp
 |p::P,w::vs,i+1,m,nd,h1,h2,hk=>by
  show bindL kindOf ((p,w)::P.zip vs) m x=_;unfold bindL;exact FB (i:=i) (Y8.mp nd).2 (by simpa using h1) (by simpa using h2) hk
def Am{kindOf:Str->Option NameKind}{x:Str}{v:Value}:∀{P:List Str}{vs:List Value}{i:Nat}{m:Str->Option Value},P.Nodup->P[i]?=some x->vs[i]?=some v->kindOf x≠some .local->
  bindC kindOf (P.zip vs) m x=some v
 |[],_,_,_,_,h,_,_=>by simp at h
 |_::_,[],_,_,_,_,h,_=>by simp at h
 |p::P,w::vs,0,m,nd,h1,h2,hk=>by
  simp at h1 h2;subst h1;subst h2;show bindC kindOf ((p,w)::P.zip vs) m p=_;unfold bindC;rw[Cn λv hv=>(Y8.mp nd).1 (List.of_mem_zip hv).1,ZZ hk];simp
 |p::P,w::vs,i+1,m,nd,h1,h2,hk=>by
  show bindC kindOf ((p,w)::P.zip vs) m x=_;unfold bindC;exact Am (i:=i) (Y8.mp nd).2 (by simpa using h1) (by simpa using h2) hk
def start(N:List Str)(vs:List V):St:=vs.map some++List.replicate (N.length-vs.length) none
def cxOf(CX:CXT)(P:Program)(w:World)(K:Za)(mg:Str->Option Value)(base:Heap)(N:List Str)(qual:Str)(scope:Scope)(f:Addr)(cd:Value)(A:Around)(outer:List Env)(s:Shared)(H:Hp)(E:XK):Cx where
 prog:=P
 w:=w
 K:=K
 mg:=mg
 base:=base
 A:=A.deeper (envOfC qual scope s.heap.objs.size f cd)
 N:=N
 s₀:=s
 H₀:=H
 env:=envOfC qual scope s.heap.objs.size f cd
 outer:=outer
 stack:=envOfC qual scope s.heap.objs.size f cd::outer
 ex:=[]
 calm:=true
 fn:=λ_=>true
 pn:=[]
 xe:=λe s'=>wpAny (model P w) (A.deeper (envOfC qual scope s.heap.objs.size f cd)) (leaving (envOfC qual scope s.heap.objs.size f cd) e) (λ_ s''=>CX outer H s E e s'') (λe' s''=>CX outer H s E e' s'') s'
def BR{sc:Scope}{n:Nat}{x:Str}(h:sc.names.lookup x=some .cell):∃c,(cellsFrom n sc.names []).lookup x=some c:=by
 have q:=PySem.W.cellsFrom_some sc.names n [] (.inl h);exact Option.isSome_iff_exists.mp q
def Ri{CX:CXT}{P:Program}{w:World}{K:Za}{mg:Str->Option Value}{base:Heap}{N ps:List Str}{qual:Str}{scope:Scope}{f:Addr}{cd:Value}{A:Around}{outer:List Env}{s s1:Shared}{H:Hp}{E:XK}{us:List Value}{vs:List V}(S:FnScope N ps scope)(hd:A.handled=none)(e0:Env0 P w K mg base A outer s H)(hl:vs.length=ps.length)(r:Vals vs us)(x:InCallC s s.heap.objs.size (bindL (envOfC qual scope s.heap.objs.size f cd).kindOf (ps.zip us) λ_=>none) (cellsFrom (s.heap.objs.size+1) scope.names []) (bindC (envOfC qual scope s.heap.objs.size f cd).kindOf (ps.zip us) λ_=>none) s1) :
  Inv (cxOf CX P w K mg base N qual scope f cd A outer s H E) [] (start N vs) H s1:=by
 have hpl:ps.length<=N.length:=by have:=YD List.length S.pre;rw[Y7]at this;omega
 obtain⟨h1,tk,rfl,hk⟩:=x.done;have noA:∀b:Addr,b∉(cxOf CX P w K mg base N qual scope f cd A outer s H E).ex:=λb z=>absurd (show b∈([]:List Addr)from z) (by simp)
 refine⟨⟨e0.mod,S.kind,rfl,rfl,Yc _,λy z c h1 h2=>?_,λy hy=>?_,λy c _ h=>?_,λ_=>hd,Around.frames_deeper e0.frames,.inr ⟨rfl,rfl⟩,λb z=>absurd z (noA b),e0.bs,e0.bsz,λb _ _=>noA b,λb z=>absurd z (noA b),e0.funs,e0.frf⟩,
  rfl,e0.bare,Un.kept hk,⟨_,x.toInCall.ns,λi y v h1 h2 h3=>?_⟩,λy c h=>⟨_,x.cell y c h⟩,e0.hok.fresh (Yc _),λy c h=>?_,λp hp=>absurd (show p∈([]:List (Addr×Obj))from hp) (by simp),e0.hok.kept hk,?_⟩
 ·exact name_of_addr x.apart (Ww h1) (Ww h2)
 ·have hy:scope.names.lookup y=some .cell\/scope.names.lookup y=some .free:=hy;rcases hy with hy|hy
  ·exact BR hy
  ·exact absurd rfl (S.nofree _ (Ww hy))
 ·exact Qk (x.above y c (Ww h))
 ·have hi:i<vs.length:=by
   unfold start at h2;by_cases hi:i<vs.length
   ·exact hi
   ·rw[YY (by simpa using hi)]at h2;rw[Qt]at h2;split at h2<;>cases h2
  have ha:vs[i]?=some v:=by
   unfold start at h2;rw[YM (by simpa using hi),Ye]at h2;cases e:vs[i]? with
   |none=>rw[e]at h2;cases h2
   |some a=>rw[e]at h2;cases h2;rfl
  obtain⟨u,hu,rv⟩:=r.get ha
  have hp:ps[i]?=some y:=by
   rw[←S.pre,Wc (by omega)];exact h1
  have ndP:ps.Nodup:=by rw[←S.pre];exact S.nd.sublist (WU _ _)
  refine⟨u,rv,?_⟩;rcases S.par y (Yv hp)with k|k
  ·exact .inl ⟨k,FB ndP hp hu k⟩
  ·obtain⟨c,e⟩:=BR (n:=s.heap.objs.size+1) k;refine .inr ⟨.inl k,c,e,?_⟩;have q:=x.cell y c e;rw[Am ndP hp hu (by show scope.names.lookup y≠_;rw[k];decide)]at q;exact q
 ·exact e0.hok.fresh (Qk (x.above y c (Ww h)))
 ·unfold start;show _=N.length;rw[Yl,ZV,List.length_replicate];omega
def NO{CX:CXT}{P:Program}{w:World}{K:Za}{mg:Str->Option Value}{base:Heap}{k:Nat}{f:Addr}{name qual:Str}{params:Arguments}{body:List Stmt}{scope:Scope}{dV kV doc pm cdv ct oc:Value}{an od:Option Addr}{osl:Array (Option Value)}{N ps:List Str}{sp:Sp}(lk:K.lookup f=some ⟨oc,od,.func (PySem.W.fnOf name qual params body scope dV kV doc pm an cdv ct),osl⟩)(hcd:PySem.W.codeIn K cdv qual=true)(S:FnScope N ps scope)(len:∀vs H Q E,sp vs H Q E->vs.length=ps.length)
  (hbody:∀(A:Around) (outer:List Env) (s:Shared) (H:Hp) (vs:List V) (Q:VK) (E:XK),Room k (A.deeper (envOfC qual scope s.heap.objs.size f cdv))->sp vs H Q E->
   ∃t,PSs (cxOf CX P w K mg base N qual scope f cdv A outer s H E) body t/\t {nx:=λ_ H'=>Q .non H',rt:=Q} (start N vs) H) :
  FnOk P w K mg base CX (k+1) f (PySem.W.fnOf name qual params body scope dV kV doc pm an cdv ct) ps sp:=by
 refine⟨len,λA outer s H args us vs Q E hr e0 hb r hsp=>?_⟩;have hl:=len _ _ _ _ hsp;have KX:K.In s.heap:=e0.mod.kin.keeps λb o e=>(e0.bs b o e).1;have lim:s.heap.NoLimit:=e0.mod.nolimit.keeps λb o e=>(e0.bs b o e).1
 have hkind:∀y∈ps.zip us,scope.names.lookup y.1=some .local\/(scope.names.lookup y.1=some .cell/\((cellsFrom (s.heap.objs.size+1) scope.names []).lookup y.1).isSome=true):=λ⟨n,v⟩ hy=>by
  rcases S.par n (List.of_mem_zip hy).1 with q|q
  ·exact .inl q
  ·exact .inr ⟨q,PySem.W.cellsFrom_some _ _ _ (.inl q)⟩
 refine codeAny_call_function hr.depth (KX _ _ lk) rfl S.co S.gen rfl (PySem.W.codeRec_of KX hcd) (hb _ _ _ _ ?_);refine wpAny_newFunctionEnv_cells S.kind hkind λenv he s1 x=>?_;subst he;refine⟨lim.keeps x.toInCall.keep,codeAny_func ?_⟩;obtain⟨t,ht,hq⟩:=hbody A outer s H vs Q E (hr.deeper _) hsp;have I:Inv (cxOf CX P w K mg base N qual scope f cdv A outer s H E) [] (start N vs) H s1:=Ri S hr.hd e0 hl r x;refine YB (ht [] s1 (start N vs) H _ I hq) (λfl s' hs=>?_) λe s' hs=>hs
 have fin:∀{σ':St} {H':Hp} {v:V} {u:Value},Inv (cxOf CX P w K mg base N qual scope f cdv A outer s H E) [] σ' H' s'->RelV v u->Q v H'->CE outer P w H s Q u s':=
  λ{σ' H' v u} J rv q=>⟨v,H',J.os,J.bare,J.base,J.hok,rv,q⟩
 cases fl with
 |ret u=>
  obtain⟨v,σ',H',J,rv,q⟩:=hs;exact fin J rv q
 |next=>
  obtain⟨σ',H',J,q⟩:=hs;exact fin (v:=V.non) (u:=Value.none) J rfl q
 |brk=>
  obtain⟨_,_,_,q⟩:=hs;exact False.elim q
 |cont=>
  obtain⟨_,_,_,q⟩:=hs;exact False.elim q
section
variable {X:Cx}{x:Str}{p pos:Pos}{e:Expr}{es:List Expr}{t:TA}{id T:String}{r:List V->Hp->VK->Prop}
def tCB(r:List V->Hp->VK->Prop)(t:TA):TE:=λσ H Q=>t σ H λvs H1=>r vs H1 Q
def Uc(hc:Uh X (.builtin id) r)(hg:Gl X x)(hm:X.mg x=none)(hv:bootBuiltins x=some (.builtin id))(ha:PA X (e::es) t)(hn:x≠"__name__":=by decide)(hdb:(x==("__debug__" : Str))=false:=by decide)(he:starEach (e::es) X.env=(false,eval e X.env)::starEach es X.env:=by rfl)(hpl:(backTo pos (starEach es X.env)).any (·.1)=false:=by rfl):PE X (.Call (.Name x p) (e::es) [] pos) (tCB r t):=by
 intro pins s σ H Q I h;refine Ql (Pi I hg hm hv ?_ hn hdb);exact PyProof.Rows.callWith_builtin1 (thn (ha pos pins s σ H _ I h) λus s1 ⟨vs,H1,I1,r1,q1⟩=>hc pins s1 σ H1 vs us Q I1 r1 q1) he hpl
def UT(hc:Uh X (.type T) r)(hg:Gl X x)(hm:X.mg x=none)(hv:bootBuiltins x=some (.type T))(ha:PA X (e::es) t)(hn:x≠"__name__":=by decide)(hdb:(x==("__debug__" : Str))=false:=by decide)(he:starEach (e::es) X.env=(false,eval e X.env)::starEach es X.env:=by rfl)(hpl:(backTo pos (starEach es X.env)).any (·.1)=false:=by rfl):PE X (.Call (.Name x p) (e::es) [] pos) (tCB r t):=by
 intro pins s σ H Q I h;refine Ql (Pi I hg hm hv ?_ hn hdb);exact Qc (thn (ha pos pins s σ H _ I h) λus s1 ⟨vs,H1,I1,r1,q1⟩=>hc pins s1 σ H1 vs us Q I1 r1 q1) he hpl
end
end L2
namespace HT
open PySem PyProof.Rows
section
variable {prog:Program}{w:World}{A:Around}{E:Value->Shared->Prop}{s:Shared}
def HA{t b:Addr}{vs ws:List Value}{Q:Value->Shared->Prop}(ht:IsTup s.heap t vs.toArray)(hb:IsTup s.heap b ws.toArray)(hv:vs≠[])(h1:ws=[]->Q (.ref t) s)(h2:ws≠[]->Q (.ref s.heap.objs.size) {s with heap:=s.heap.push {cls:=.type "tuple",data:=.seq (vs++ws).toArray}})(hsz:vs.length+ws.length<=sizeLine):wpAny (model prog w) A (binaryOp .Add (.ref t) (.ref b)) Q E s:=by
 obtain⟨⟨cls,dd,data,sl⟩,ho,hc,n,hd⟩:=id ht;obtain⟨⟨cls2,dd2,data2,sl2⟩,ho2,hc2,n2,hd2⟩:=id hb;simp only at hc hd hc2 hd2;subst hc hd hc2 hd2;have e:vs.toArray++ws.toArray=(vs++ws).toArray:=by simp
 by_cases hw:ws=[]
 ·exact concat_meets ⟨_,ho,rfl⟩ ⟨_,ho2,rfl⟩ noFill_tuple_add seq_tuple_add Q2 Qu (Qm _ _)
   (tuple_addW1 t b vs.toArray ws.toArray n n2 dd dd2 sl sl2 (by simpa using hv) (by simp[hw])) ⟨ho,ho2,h1 hw⟩
 ·refine concat_meets ⟨_,ho,rfl⟩ ⟨_,ho2,rfl⟩ noFill_tuple_add seq_tuple_add Q2 Qu (Qm _ _)
   (tuple_addW2 t b vs.toArray ws.toArray n n2 dd dd2 sl sl2 (by simpa using hv) (by simpa using hw) (by rw[Yo,Yo];exact hsz)) ⟨ho,ho2,?_⟩
  rw[e];exact h2 hw
def sIx(n d:Nat):Option Int->Nat
 |none=>d
 |some v=>if v<0 then(v+(n:Int)).toNat else min v.toNat n
def D4(n d:Nat):sIx n d none=d:=rfl
def CN(n d k:Nat):sIx n d (some (k:Int))=min k n:=by
 show(if (k:Int)<0 then((k:Int)+(n:Int)).toNat else min (k:Int).toNat n)=min k n;rw[ZZ (by omega),YA]
end
end HT
namespace L2
open PySem PySem.Spec PyProof.Rows
abbrev TO:=St->Hp->(Option Int->Hp->Prop)->Prop
def PO(X:Cx)(e:Option Expr)(t:TO):Prop:=
 ∀(pins:List (Addr×Obj)) (s:Shared) (σ:St) (H:Hp) (Q:Option Int->Hp->Prop),Inv X pins σ H s->t σ H Q->
  wpAny (model X.prog X.w) X.A (evalPart e X.env) (λu s'=>∃o H',Inv X pins σ H' s'/\IsPart u o/\Q o H') X.xe s
def BS:TO:=λ_ H Q=>Q none H
def BG(t:TE):TO:=λσ H Q=>t σ H λx H1=>∃i,x=.int i/\Q (some i) H1
def TB{ns:List Int}:∀{us:List Value},Vals (ns.map V.int) us->IntsAre us ns:=by
 induction ns with
 |nil=>intro us r;rw[Vi]at r;cases r;exact .nil
 |cons n ns ih=>
  intro us r;rw[Ys]at r;cases r with
  |cons r1 r2=>
   obtain⟨t,e⟩:=r1;subst e;exact .cons n t (ih r2)
section
variable {X:Cx}{e:Expr}{te:TE}{lo hi:Option Expr}{tl th:TO}{pos p2:Pos}
def Kb:PO X none BS:=by
 intro pins s σ H Q I h;rw[evalPart_none];exact ZW ⟨none,H,I,.none,h⟩
def XN(h:PE X e te):PO X (some e) (BG te):=by
 intro pins s σ H Q I hw;rw[evalPart_some];refine thn (h pins s σ H _ I hw) λu s1 ⟨x,H1,I1,r1,q1⟩=>?_;obtain⟨i,rfl,q⟩:=q1;obtain⟨t,rfl⟩:=r1;exact⟨some i,H1,I1,.int i t,q⟩
def SlR(X:Cx)(r:V->Option Int->Option Int->Hp->VK->Prop):Prop:=
 ∀(pins:List (Addr×Obj)) (s:Shared) (σ:St) (H:Hp) (x:V) (v vl vu:Value) (lo hi:Option Int) (sl:Addr) (Q:VK),Inv X pins σ H s->RelV x v->s.heap.IsSliceOf sl vl vu .none->IsPart vl lo->IsPart vu hi->r x lo hi H Q->
  ∃T id,typeLookup (.type T) "__getitem__"=pure (some (.builtin id))/\s.TypeIs v T/\wpAny (model X.prog X.w) X.A (getItem v (.ref sl)) (EP X pins σ Q) X.xe s
def tSl(r:V->Option Int->Option Int->Hp->VK->Prop)(te:TE)(tl th:TO):TE:=λσ H Q=>te σ H λx H1=>tl σ H1 λl H2=>th σ H2 λu H3=>r x l u H3 Q
def Ke{r:V->Option Int->Option Int->Hp->VK->Prop}(hr:SlR X r)(he:PE X e te)(hl:PO X lo tl)(hu:PO X hi th):PE X (.Subscript e (.Slice lo hi none p2) pos) (tSl r te tl th):=by
 intro pins s σ H Q I h;refine Subscript_ (thn (he pins s σ H _ I h) λv s1 ⟨x,H1,I1,r1,q1⟩=>?_);refine wpAny_Slice (thn (hl pins s1 σ H1 _ I1 q1) λvl s2 ⟨l,H2,I2,pl,q2⟩=>thn (hu pins s2 σ H2 _ I2 q2) λvu s3 ⟨u,H3,I3,pu,q3⟩=>?_);rw[evalPart_none];refine ZW ?_;have I4:Inv X pins σ H3 {s3 with heap:=s3.heap.push {cls:=.type "slice",data:=.fields #[vl,vu,.none]}}:=I3.kept (t':=s3.toks) λb ob q=>ZY _ q
 obtain⟨T,id,hT,ht,hg⟩:=hr pins {s3 with heap:=s3.heap.push {cls:=.type "slice",data:=.fields #[vl,vu,.none]}} σ H3 x v vl vu l u s3.heap.objs.size Q I4 r1 (Heap.IsSliceOf.new ..) pl pu q3
 show wpAny (model X.prog X.w) X.A (subscriptTail e (.Slice lo hi none p2) v (.ref s3.heap.objs.size)) (EP X pins σ Q) X.xe {s3 with heap:=s3.heap.push {cls:=.type "slice",data:=.fields #[vl,vu,.none]}}
 exact tail_any (ops:=[.ref s3.heap.objs.size,v]) ht hT hg (by with_unfolding_all rfl)
def cutV(xs:List V)(lo hi:Option Int):List V:=(xs.drop (HT.sIx xs.length 0 lo)).take (HT.sIx xs.length xs.length hi-HT.sIx xs.length 0 lo)
def Mc(xs:List V)(lo hi:Option Int):(cutV xs lo hi).length<=xs.length:=by
 unfold cutV;rw[Y7,Q9];omega
def GZ(K:Za):R2:=λx y H Q=>∃a b xs ys,x=.ref a/\y=.ref b/\SqT K H a xs/\SqT K H b ys/\xs≠[]/\xs.length+ys.length<=sizeLine/\
 (ys=[]->Q (.ref a) H)/\(ys≠[]->∀p,H p=none->Q (.ref p) (upd H p (.tup (xs++ys))))
def Vals.nil_iff {xs:List V}{us:List Value} (r:Vals xs us):us=[]↔xs=[]:=by
 cases r with
 |nil=>simp
 |cons _ _=>simp
def GO:OpR X (binaryOp .Add) (GZ X.K):=by
 intro pins s σ H x y v u Q I rx ry h;obtain⟨a,b,xs,ys,rfl,rfl,ha,hb,hx,hz,q1,q2⟩:=h;cases rx
 cases ry
 obtain⟨its,r1,p1,_⟩:=I.tuple ha;obtain⟨its2,r2,p2,_⟩:=I.tuple hb;refine HT.HA p1 p2 (λz=>hx (r1.nil_iff.mp z)) (λz=>⟨.ref a,H,I,rfl,q1 (r2.nil_iff.mp z)⟩) (λz=>?_) (by rw[←r1.length,←r2.length];exact hz);refine⟨.ref s.heap.objs.size,_,I.laid (t':=s.toks) (o:=.tup (xs++ys)) (λb ob q=>ZY _ q) (Yc _) ?_,rfl,q2 (λw=>z (r2.nil_iff.mpr w)) _ (I.hok.fresh (Yc _))⟩;exact⟨by rw[Yl];exact hz,_,r1.append r2,IsTup.new _ _⟩
end
def ixN(n:Nat)(i:Int):Option Nat:=if 0<=i then(if i<n then some i.toNat else none)else if -(n:Int)<=i then some (i+n).toNat else none
def atI{α:Type}(xs:List α)(i:Int):Option α:=(ixN xs.length i).bind λj=>xs[j]?
def RD{n:Nat}{i:Int}{j:Nat}(h:ixN n i=some j):seqIndex? i n=some j/\j<n/\-(n:Int)<=i/\i<n:=by
 unfold ixN at h;by_cases h0:0<=i
 ·rw[Ya h0]at h;by_cases h1:i<n
  ·rw[Ya h1]at h;have e:i.toNat=j:=Yf h;exact⟨by rw[seqIndex_of h0 h1,e],by omega,by omega,h1⟩
  ·rw[ZZ h1]at h;cases h
 ·rw[ZZ h0]at h;by_cases h1:-(n:Int)<=i
  ·rw[Ya h1]at h;have e:(i+n).toNat=j:=Yf h;exact⟨by rw[seqIndex_neg (by omega) h1,e],by omega,h1,by omega⟩
  ·rw[ZZ h1]at h;cases h
def CT{α:Type}{xs:List α}{i:Int}{v:α}(h:atI xs i=some v):∃j,seqIndex? i xs.length=some j/\xs[j]?=some v/\j<xs.length/\-(xs.length:Int)<=i/\i<xs.length:=by
 unfold atI at h;cases e:ixN xs.length i with
 |none=>rw[e]at h;cases h
 |some j=>
  rw[e]at h;obtain⟨h1,h2,h3,h4⟩:=RD e;exact⟨j,h1,h,h2,h3,h4⟩
def KI{α:Type}{xs:List α}{j:Nat}{v:α}(h:xs[j]?=some v):atI xs (j:Int)=some v:=by
 have hj:j<xs.length:=(Yk.mp h).1
 have e:ixN xs.length (j:Int)=some j:=by
  unfold ixN;rw[Ya (by omega),Ya (by omega)];simp
 unfold atI;rw[e];exact h
def O0{α:Type}(xs:List α)(v:α):atI (xs++[v]) (-1)=some v:=by
 have hl:(xs++[v]).length=xs.length+1:=by simp
 have e:ixN (xs++[v]).length (-1)=some xs.length:=by
  unfold ixN;rw[hl,ZZ (by decide),Ya (by omega)];congr 1;omega
 unfold atI;rw[e];show(xs++[v])[xs.length]?=some v;simp
def AW(b:Expr):Prop:=∀o i,subscripted b false o i=operate [o,i] (getItem o i)
def IxR(X:Cx)(r:R2):Prop:=
 ∀(value slice:Expr) (pins:List (Addr×Obj)) (s:Shared) (σ:St) (H:Hp) (x y:V) (v u:Value) (Q:VK),Inv X pins σ H s->RelV x v->RelV y u->r x y H Q->
  subscripted slice false v u=operate [v,u] (getItem v u)->wpAny (model X.prog X.w) X.A (subscriptTail value slice v u) (EP X pins σ Q) X.xe s
def MtR(X:Cx)(id:String)(r:V->List V->Hp->VK->Prop):Prop:=
 ∀(pins:List (Addr×Obj)) (s:Shared) (σ:St) (H:Hp) (x:V) (xs:List V) (v:Value) (us:List Value) (Q:VK),Inv X pins σ H s->RelV x v->Vals xs us->r x xs H Q->
  wpAny (model X.prog X.w) X.A (call (.builtin id) (v::us)) (EP X pins σ Q) X.xe s
section
variable {X:Cx}{a b:Expr}{ta tb:TE}{pos:Pos}
def IxR.or {r r':R2} (h:IxR X r) (h':IxR X r'):IxR X (λx y H Q=>r x y H Q\/r' x y H Q):=by
 intro value slice pins s σ H x y v u Q I rx ry q hs;rcases q with q|q
 ·exact h value slice pins s σ H x y v u Q I rx ry q hs
 ·exact h' value slice pins s σ H x y v u Q I rx ry q hs
def Nm{r:R2}(hr:IxR X r)(ha:PE X a ta)(hb:PE X b tb)(hs:AW b):PE X (.Subscript a b pos) (tOp r ta tb):=by
 intro pins s σ H Q I h;exact Subscript_ (binT ha hb I h λv u s2 x y H2 I2 rx ry q=>hr a b pins s2 σ H2 x y v u Q I2 rx ry q (hs _ _))
def rIxL(K:Za):R2:=λx y H Q=>∃p xs i v,x=.ref p/\y=.int i/\SqL K H p xs/\atI xs i=some v/\Q v H
def rIxT(K:Za):R2:=λx y H Q=>∃p xs i v,x=.ref p/\y=.int i/\SqT K H p xs/\atI xs i=some v/\Q v H
def ix_list:IxR X (rIxL X.K):=by
 intro value slice pins s σ H x y v u Q I rx ry h hs;obtain⟨p,xs,i,z,rfl,rfl,hq,he,q⟩:=h;cases rx
 obtain⟨t,rfl⟩:=ry;obtain⟨its,r,pl,hz⟩:=I.list hq;obtain⟨j,h1,h2,h3,h4,h5⟩:=CT he;obtain⟨w,ew,rw'⟩:=r.get h2;have hl:=r.length;have hn:=PV;have fin:EP X pins σ Q w s:=⟨z,H,I,rw',q⟩;by_cases h0:0<=i
 ·have hj:i.toNat=j:=by
   rw[seqIndex_of h0 h5]at h1;exact Yf h1
  exact item_listR pl.isList h0 (by omega) (by rw[hj];simpa using ew) fin hs
 ·have hj:(i+(its.toArray.size:Int)).toNat=j:=by
   rw[seqIndex_neg (by omega) h4]at h1;rw[Yo,←hl];exact Yf h1
  exact subscriptTail_builtinR (x:=w) pl.isList.typeIs slot_list_getitem.lookup
   (wpAny_getItem_list_neg (Q:=λr s'=>r=w/\EP X pins σ Q r s') pl.isList (by omega) (by rw[Yo]<;>omega) (by omega) (by rw[hj];simpa using ew) ⟨rfl,fin⟩) hs
def GU:IxR X (rIxT X.K):=by
 intro value slice pins s σ H x y v u Q I rx ry h hs;obtain⟨p,xs,i,z,rfl,rfl,hq,he,q⟩:=h;cases rx
 obtain⟨t,rfl⟩:=ry;obtain⟨its,r,pl,hz⟩:=I.tuple hq;obtain⟨j,h1,h2,h3,h4,h5⟩:=CT he;obtain⟨w,ew,rw'⟩:=r.get h2;have hl:=r.length;have hn:=PV;have fin:EP X pins σ Q w s:=⟨z,H,I,rw',q⟩
 exact subscriptTail_builtinR (x:=w) pl.typeIs slot_tuple_getitem.lookup
  (getItem_tuple (j:=j) (Q:=λr s'=>r=w/\EP X pins σ Q r s') pl (by omega) (by omega) (by rw[Yo,←hl];exact h1) (by simpa using ew) ⟨rfl,fin⟩) hs
def Rf(lo hi:Option Int)(n:Nat):(sliceBounds lo hi none n).1=((HT.sIx n 0 lo:Nat):Int)/\(sliceBounds lo hi none n).2.1=((HT.sIx n n hi:Nat):Int)/\(sliceBounds lo hi none n).2.2=1:=by
 refine⟨?_,?_,rfl⟩
 ·cases lo with
  |none=>simp[sliceBounds,HT.sIx]
  |some i=>
   simp only[sliceBounds,HT.sIx,Option.getD_none,show(1:Int)>0 by decide,if_true];by_cases h:i<0
   ·simp only[h,if_true]<;>omega
   ·simp only[h,QA]<;>omega
 ·cases hi with
  |none=>simp[sliceBounds,HT.sIx]
  |some i=>
   simp only[sliceBounds,HT.sIx,Option.getD_none,show(1:Int)>0 by decide,if_true];by_cases h:i<0
   ·simp only[h,if_true]<;>omega
   ·simp only[h,QA]<;>omega
def Ip(its:List Value)(lo hi:Option Int):slicePick its.toArray lo hi none=((its.drop (HT.sIx its.length 0 lo)).take (HT.sIx its.length its.length hi-HT.sIx its.length 0 lo)).toArray:=by
 obtain⟨h1,h2,h3⟩:=Rf lo hi its.toArray.size;unfold slicePick;rw[h1,h2,h3];simp only[sliceRange_one,pick_run,Yo]<;>rfl
def rSlL(K:Za):V->Option Int->Option Int->Hp->VK->Prop:=λx lo hi H Q=>∃a xs,x=.ref a/\SqL K H a xs/\∀p,H p=none->Q (.ref p) (upd H p (.lst (cutV xs lo hi)))
def G2:SlR X (rSlL X.K):=by
 intro pins s σ H x v vl vu lo hi sl Q I rx hs pl pu h;obtain⟨a,xs,rfl,hx,q⟩:=h;cases rx
 obtain⟨its,r,ht,hz⟩:=I.list hx;have hlen:=r.length;refine⟨"list",_,slot_list_getitem.lookup,ht.isList.typeIs,?_⟩;refine wpAny_getItem_list_slice ht.isList hs pl pu .none (by simp) ?_ (by rw[Yo]<;>omega);rw[Ip,←hlen];refine⟨.ref s.heap.objs.size,_,I.laid (t':=s.toks) (o:=.lst (cutV xs lo hi)) (λb ob q=>ZY _ q) (Yc _) ?_,rfl,q _ (I.hok.fresh (Yc _))⟩;exact⟨Yn (Mc xs lo hi) hz,_,0,(r.drop (HT.sIx xs.length 0 lo)).take (HT.sIx xs.length xs.length hi-HT.sIx xs.length 0 lo),Yi _ rfl⟩
def Ux:V->Bool
 | .non=>true
 | .bl _=>true
 | .int _=>true
 | .str _=>true
 |_=>false
def eqV:V->V->Bool
 | .non,.non=>true
 | .bl a,.bl b=>a==b
 | .bl a,.int b=>(if a then 1 else 0)==b
 | .int a,.bl b=>a==(if b then 1 else 0)
 | .int a,.int b=>a==b
 | .str a,.str b=>a==b
 |_,_=>false
def Fw{A:Around}{s:Shared}{y x:V}{u v:Value}(ry:RelV y u)(rx:RelV x v)(fy:Ux y=true)(fx:Ux x=true):SeqAt.EqAt A s u v (eqV y x):=by
 cases y with
 |non=>
  cases ry
  cases x with
  |non=>cases rx;exact SeqAt.EqAt.same _
  |bl b=>cases rx;exact SeqAt.EqAt.none_bool b
  |int b=>obtain⟨t,rfl⟩:=rx;exact SeqAt.EqAt.none_int b t
  |str b=>obtain⟨t,rfl⟩:=rx;exact SeqAt.EqAt.none_str b t
  |_=>exact absurd (show false=true from fx) Yj
 |bl a=>
  cases ry
  cases x with
  |non=>cases rx;exact SeqAt.EqAt.bool_none a
  |bl b=>cases rx;exact SeqAt.EqAt.bool_bool a b
  |int b=>obtain⟨t,rfl⟩:=rx;exact SeqAt.EqAt.bool_int a b t
  |str b=>obtain⟨t,rfl⟩:=rx;exact SeqAt.EqAt.bool_str a b t
  |_=>exact absurd (show false=true from fx) Yj
 |int a=>
  obtain⟨t',rfl⟩:=ry;cases x with
  |non=>cases rx;exact SeqAt.EqAt.int_none a t'
  |bl b=>cases rx;exact SeqAt.EqAt.int_bool a t' b
  |int b=>obtain⟨t,rfl⟩:=rx;exact SeqAt.EqAt.int_int a t' b t
  |str b=>obtain⟨t,rfl⟩:=rx;exact SeqAt.EqAt.int_str a t' b t
  |_=>exact absurd (show false=true from fx) Yj
 |str a=>
  obtain⟨t',rfl⟩:=ry;cases x with
  |non=>cases rx;exact SeqAt.EqAt.str_none a t'
  |bl b=>cases rx;exact SeqAt.EqAt.str_bool a t' b
  |int b=>obtain⟨t,rfl⟩:=rx;exact SeqAt.EqAt.str_int a t' b t
  |str b=>obtain⟨t,rfl⟩:=rx;exact SeqAt.EqAt.str_str a t' b t
  |_=>exact absurd (show false=true from fx) Yj
 |_=>exact absurd (show false=true from fy) Yj
def eqU(x:V)(u:Value):Bool:=match u with
 | .none=>eqV .non x
 | .bool b=>eqV (.bl b) x
 | .int i _=>eqV (.int i) x
 | .str z _=>eqV (.str z) x
 |_=>false
def Eb{x y:V}{u:Value}(r:RelV y u)(f:Ux y=true):eqU x u=eqV y x:=by
 cases y with
 |non=>cases r;rfl
 |bl b=>cases r;rfl
 |int i=>obtain⟨t,rfl⟩:=r;rfl
 |str z=>obtain⟨t,rfl⟩:=r;rfl
 |_=>exact absurd (show false=true from f) Yj
def Pn{x:V}:∀{xs:List V}{us:List Value},Vals xs us->xs.all Ux=true->us.any (eqU x)=xs.any λy=>eqV y x
 |_,_,.nil,_=>rfl
 |y::xs,u::us,.cons r t,f=>by
  rw[Q5,Y5]at f;rw[WL,WL,Eb r f.1,Pn t f.2]
def Px{A:Around}{s:Shared}{x:V}{v:Value}(rx:RelV x v)(fx:Ux x=true):∀{xs:List V}{us:List Value},Vals xs us->xs.all Ux=true->∀u∈us,SeqAt.EqAt A s u v (eqU x u)
 |_,_,.nil,_=>λu hu=>by cases hu
 |y::xs,u::us,.cons r t,f=>λu' hu=>by
  rw[Q5,Y5]at f;rcases Yh.mp hu with rfl|hu
  ·rw[Eb r f.1];exact Fw r rx f.1 fx
  ·exact Px rx fx t f.2 u' hu
def inV(x:V)(xs:List V):Bool:=xs.any λy=>eqV y x
def rIn(K:Za)(neg:Bool):R2:=λx y H Q=>∃p xs,y=.ref p/\(SqL K H p xs\/SqT K H p xs)/\Ux x=true/\xs.all Ux=true/\Q (.bl (if neg then !inV x xs else inV x xs)) H
def RB:OpR X (compareOp .In) (rIn X.K false):=by
 intro pins s σ H x y v u Q I rx ry h;obtain⟨p,xs,rfl,hq,fx,fs,q⟩:=h;cases ry
 rcases hq with hq|hq
 ·obtain⟨its,r,pl,hz⟩:=I.list hq;refine SeqAt.in_listAt (eqU x) pl.isList (λw hw=>Px rx fx r fs w (by simpa using hw)) ⟨.bl _,H,I,rfl,?_⟩;rw[show its.toArray.any (eqU x)=its.any (eqU x) by simp,Pn r fs];exact q
 ·obtain⟨its,r,pl,hz⟩:=I.tuple hq;refine SeqAt.in_tupleAt (eqU x) pl (λw hw=>Px rx fx r fs w (by simpa using hw)) ⟨.bl _,H,I,rfl,?_⟩;rw[show its.toArray.any (eqU x)=its.any (eqU x) by simp,Pn r fs];exact q
def Mo:OpR X (compareOp .NotIn) (rIn X.K true):=by
 intro pins s σ H x y v u Q I rx ry h;obtain⟨p,xs,rfl,hq,fx,fs,q⟩:=h;cases ry
 rcases hq with hq|hq
 ·obtain⟨its,r,pl,hz⟩:=I.list hq;refine SeqAt.notIn_listAt (eqU x) pl.isList (λw hw=>Px rx fx r fs w (by simpa using hw)) ⟨.bl _,H,I,rfl,?_⟩;rw[show its.toArray.any (eqU x)=its.any (eqU x) by simp,Pn r fs];exact q
 ·obtain⟨its,r,pl,hz⟩:=I.tuple hq;refine SeqAt.notIn_tupleAt (eqU x) pl (λw hw=>Px rx fx r fs w (by simpa using hw)) ⟨.bl _,H,I,rfl,?_⟩;rw[show its.toArray.any (eqU x)=its.any (eqU x) by simp,Pn r fs];exact q
def Sm:Uh X (.type "list") (λxs H Q=>∃p ys,xs=[.ref p]/\(SqL X.K H p ys\/SqT X.K H p ys)/\∀l,H l=none->Q (.ref l) (upd H l (.lst ys))):=by
 intro pins s σ H xs us Q I r h;obtain⟨p,ys,rfl,hq,q⟩:=h;obtain⟨u,rfl,rx⟩:=vals1 r;cases rx
 have fin:∀(its:List Value),Vals ys its->ys.length<=sizeLine->∀(h':Heap) (c':Nat),(∀b o',s.heap.get? b=some o'->h'.get? b=some o')->
   h'.get? s.heap.objs.size=some {cls:=.type "list",dict:=none,data:=.seq its.toArray c',slots:=#[]}->EP X pins σ Q (.ref s.heap.objs.size) {s with heap:=h'}:=λits r' hz h' c' kp e=>
  ⟨.ref s.heap.objs.size,_,I.laid (t':=s.toks) kp (Yc _) (show ObjOk X.prog X.w _ h' _ (.lst ys)from⟨hz,its,c',r',e⟩),rfl,q _ (I.hok.fresh (Yc _))⟩
 rcases hq with hq|hq
 ·obtain⟨its,r',pl,hz⟩:=I.list hq;have hlen:=r'.length;obtain⟨o,ho,hc,n,hd⟩:=pl.isList;exact call_list_seq p (.inl rfl) ho hc hd (λh' c' kp e=>fin its r' hz h' c' kp e) (by simp only[Yo]<;>omega)
 ·obtain⟨its,r',pl,hz⟩:=I.tuple hq;have hlen:=r'.length;obtain⟨o,ho,hc,n,hd⟩:=pl;exact call_list_seq p (.inr rfl) ho hc hd (λh' c' kp e=>fin its r' hz h' c' kp e) (by simp only[Yo]<;>omega)
def Rl:Uh X (.type "tuple") (λxs H Q=>∃p ys,xs=[.ref p]/\((SqL X.K H p ys/\∀l,H l=none->Q (.ref l) (upd H l (.tup ys)))\/(SqT X.K H p ys/\Q (.ref p) H))):=by
 intro pins s σ H xs us Q I r h;obtain⟨p,ys,rfl,h⟩:=h;obtain⟨u,rfl,rx⟩:=vals1 r;cases rx
 rcases h with⟨hq,q⟩|⟨hq,q⟩
 ·obtain⟨its,r',pl,hz⟩:=I.list hq;have hlen:=r'.length;refine call_tuple_list pl.isList (λh' kp=>?_) (by simp only[Yo]<;>omega);have I1:Inv X pins σ H {s with heap:=h'}:=I.kept (t':=s.toks) kp
  have I2:Inv X pins σ (upd H h'.objs.size (.tup ys)) {s with heap:=h'.push {cls:=.type "tuple",data:=.seq its.toArray}}:=
   I1.laid (t':=s.toks) (λb o e=>ZY _ e) (Yc _) (show ObjOk X.prog X.w _ _ _ (.tup ys)from⟨hz,its,r',IsTup.new _ _⟩)
  exact⟨.ref h'.objs.size,_,I2,rfl,q _ (I1.hok.fresh (Yc _))⟩
 ·obtain⟨its,r',pl,hz⟩:=I.tuple hq;exact call_tuple_same pl ⟨.ref p,H,I,rfl,q⟩
def tyV(K:Za)(T:String)(x:V)(H:Hp):Prop:=match x with
 | .str _=>T = "str"
 | .int _=>T = "int"
 | .ref p=>(T = "list"/\∃xs,SqL K H p xs)\/(T = "tuple"/\∃o,K.lookup p=some o/\o.cls=.type "tuple"/\o.dict=none)\/
   (T = "dict"/\((∃kvs,H p=some (.dK kvs))\/∃kvs,H p=some (.dT kvs)))\/(T = "set"/\∃S n,H p=some (.set S n))
 |_=>False
def DH{pins:List (Addr×Obj)}{σ:St}{H:Hp}{s:Shared}{T:String}{x:V}{v:Value}(I:Inv X pins σ H s)(r:RelV x v)(ty:tyV X.K T x H) :
  s.TypeIs v T/\∀a,v=.ref a->∃ob,s.heap.get? a=some ob/\ob.dict=none:=by
 cases x with
 |str z=>
  obtain⟨t,rfl⟩:=r;cases (show T = "str" from ty)
  exact⟨typeIs_str s z t,λ_ e=>nomatch e⟩
 |int i=>
  obtain⟨t,rfl⟩:=r;cases (show T = "int" from ty)
  exact⟨typeIs_int s i t,λ_ e=>nomatch e⟩
 |ref p=>
  cases r
  rcases ty with⟨rfl,xs,hq⟩|⟨rfl,o,hk,hc,hd⟩|⟨rfl,hk⟩|⟨rfl,S,n,hk⟩
  ·obtain⟨its,_,pl,_⟩:=I.list hq;refine⟨pl.isList.typeIs,λa e=>?_⟩;cases e
   obtain⟨o,n,e,c,hd,_⟩:=pl;exact⟨o,e,hd⟩
  ·refine⟨⟨o,I.kIn p o hk,hc⟩,λa e=>?_⟩;cases e
   exact⟨o,I.kIn _ o hk,hd⟩
  ·have z:∃o,s.heap.get? p=some o/\o.ExactDict:=by
    rcases hk with⟨kvs,hk⟩|⟨kvs,hk⟩
    ·obtain⟨_,_,_,_,o,_,_,e,ex,_⟩:=I.hok p _ hk;exact⟨o,e,ex⟩
    ·obtain⟨_,_,_,_,o,_,_,e,ex,_⟩:=I.hok p _ hk;exact⟨o,e,ex⟩
   obtain⟨o,e,ex⟩:=z;refine⟨⟨o,e,ex.1⟩,λa e2=>?_⟩;cases e2
   exact⟨o,e,ex.2.1⟩
  ·obtain⟨o,_,_,_,e,ex,_⟩:=I.hok p _ hk;refine⟨⟨o,e,ex.1⟩,λa e2=>?_⟩;cases e2
   exact⟨o,e,ex.2.1⟩
 |_=>exact False.elim ty
def tBM0(K:Za)(T:String)(r:V->List V->Hp->VK->Prop)(to:TE):TE:=λσ H Q=>to σ H λx H1=>tyV K T x H1/\r x [] H1 Q
def tBM(K:Za)(T:String)(r:V->List V->Hp->VK->Prop)(to:TE)(t:TA):TE:=λσ H Q=>to σ H λx H1=>tyV K T x H1/\t σ H1 λxs H2=>r x xs H2 Q
variable {o e:Expr}{es:List Expr}{to:TE}{t:TA}{name:Str}{apos cpos:Pos}{T id:String}{r:V->List V->Hp->VK->Prop}
def Lw(pa:PlainAttrs T)(slot:Slot T name id)(hty:typeOf (.builtin id)=pure (.type "method_descriptor"))(hm:MtR X id r)(ho:PE X o to)(hbase:attributeBase o name X.env (eval o X.env)=eval o X.env:=by rfl)(hline:(apos.endLine==cpos.line)=true:=by rfl):PE X (.Call (.Attribute o name apos) [] [] cpos) (tBM0 X.K T r to):=by
 intro pins s σ H Q I h;refine wpAny_Call_method0_late hbase hline (thn (ho pins s σ H _ I h) λv s1 ⟨x,H1,I1,r1,ty,q1⟩=>?_);obtain⟨h1,h2⟩:=DH I1 r1 ty;exact⟨T,id,pa,slot,hty,h1,h2,Calls.callWith_builtin rfl (PySem.evalArgs_none (hm pins s1 σ H1 x [] v [] Q I1 r1 .nil q1))⟩
def UP(pa:PlainAttrs T)(slot:Slot T name id)(hty:typeOf (.builtin id)=pure (.type "method_descriptor"))(hm:MtR X id r)(ho:PE X o to)(ha:PA X (e::es) t)(hbase:attributeBase o name X.env (eval o X.env)=eval o X.env:=by rfl)
  (hfew:((backTo cpos (starEach (e::es) X.env)).all (λx=>!x.1)&&(backToKw cpos (keywordEach [] X.env)).all (λx=>x.1.isSome)
   && decide ((e::es).length+([]:List Keyword).length+(if ([]:List Keyword).isEmpty then 0 else 1)<30))=true:=by rfl)
  (hline:(apos.endLine==cpos.line)=true:=by rfl) (hs:starEach (e::es) X.env=(false,eval e X.env)::starEach es X.env:=by rfl) (hplain:(backTo cpos (starEach es X.env)).any (·.1)=false:=by rfl) :
  PE X (.Call (.Attribute o name apos) (e::es) [] cpos) (tBM X.K T r to t):=by
 intro pins s σ H Q I h;refine wpAny_Call_method_late hbase hfew hline rfl (thn (ho pins s σ H _ I h) λv s1 ⟨x,H1,I1,r1,ty,q1⟩=>?_);obtain⟨h1,h2⟩:=DH I1 r1 ty;refine⟨T,id,pa,slot,hty,h1,h2,?_⟩;have hA:=ha cpos pins s1 σ H1 _ I1 q1;rw[hs]at hA ⊢;refine Calls.callWith_builtin (by show(false || (backTo cpos (starEach es X.env)).any (·.1))=false;rw[hplain]<;>rfl) (QH ?_);exact thn hA λus s2 ⟨vs,H2,I2,r2,q2⟩=>hm pins s2 σ H2 x vs v us Q I2 r1 r2 q2
end
def MtM(X:Cx)(id:String)(r:V->List V->Hp->VK->Prop):Prop:=
 ∀(pins:List (Addr×Obj)) (s:Shared) (σ:St) (H:Hp) (x:V) (xs:List V) (v:Value) (us:List Value) (Q:VK),Inv X pins σ H s->RelV x v->Vals xs us->r x xs H Q->
  wpAny (model X.prog X.w) X.A (call (.builtin id) (v::us)) (EP X pins σ Q) X.xe s
def Vals.one:∀{x:V}{us:List Value},Vals [x] us->∃u,us=[u]/\RelV x u
 |_,_,.cons r .nil=>⟨_,rfl,r⟩
def Vals.zero:∀{us:List Value},Vals [] us->us=[]
 |_,.nil=>rfl
def Vals.eraseIdx:∀{xs:List V}{us:List Value} (i:Nat),Vals xs us->Vals (xs.eraseIdx i) (us.eraseIdx i)
 |_,_,_,.nil=>.nil
 |_,_,0,.cons _ t=>t
 |_,_,i+1,.cons r t=>.cons r (Vals.eraseIdx i t)
section
variable {X:Cx}{pins:List (Addr×Obj)}{σ:St}{H:Hp}{s:Shared}{l b:Addr}{xs ys zs:List V}
def Inv.lset {its its':List Value}{n:Nat}{f:Array Value->Array Value}{t':Nat} (I:Inv X pins σ H s) (hH:H l=some (.lst xs))
  (e:s.heap.get? l=some {cls:=.type "list",data:=.seq its.toArray n}) (hf:f its.toArray=its'.toArray) (hv:Vals ys its') (hz:ys.length<=sizeLine) :
  Inv X pins σ (upd H l (.lst ys)) {s with heap:=s.heap.update l (Obj.mapSeq f),toks:=t'}:=by
 have q:=PySem.IsL.update e f;rw[hf]at q;refine I.write (x:=l) (e:=l) (by rw[hH];exact trivial) (.inl rfl) (λb' u hb hu=>(YS s.heap (Obj.mapSeq f) (Ne.symm hb)).trans hu) ⟨_,q⟩ ?_;exact⟨hz,its',_,hv,q⟩
def Inv.lnew {its:List Value}{t':Nat} (I:Inv X pins σ H s) (hv:Vals ys its) (hz:ys.length<=sizeLine) :
  Inv X pins σ (upd H s.heap.objs.size (.lst ys)) {s with heap:=s.heap.push {cls:=.type "list",data:=.seq its.toArray},toks:=t'}:=
 I.laid (λ_ _ q=>ZY _ q) (Yc _) ⟨hz,its,0,hv,Yi _ rfl⟩
def Inv.fresh (I:Inv X pins σ H s):H s.heap.objs.size=none:=I.hok.fresh (Yc _)
def Inv.lstM (I:Inv X pins σ H s) (hH:H l=some (.lst xs)):xs.length<=sizeLine/\∃(its:List Value) (n:Nat),Vals xs its/\xs.length=its.length/\s.heap.get? l=some {cls:=.type "list",data:=.seq its.toArray n}:=by
 obtain⟨z,its,n,r,e⟩:=I.hok l _ hH;exact⟨z,its,n,r,r.length,e⟩
end
section
variable {X:Cx}
def SQ:V->List V->Hp->VK->Prop:=λx vs H Q=>∃l xs y,x=.ref l/\vs=[y]/\H l=some (.lst xs)/\xs.length<sizeLine/\Q .non (upd H l (.lst (xs++[y])))
def UU:MtM X "list.append" SQ:=by
 intro pins s σ H x vs v us Q I rx rv h;obtain⟨l,xs,y,rfl,rfl,hH,hz,q⟩:=h;cases rx
 obtain⟨u,rfl,ru⟩:=rv.one;obtain⟨z,its,n,r,hl,e⟩:=I.lstM hH;refine call_meets F.slot_list_append ⟨_,e,rfl⟩ F.entry_list_append (F.args_list_append_2 _ _) (PySem.list_append l its.toArray n u (by rw[Yo];omega)) ⟨e,?_⟩;refine⟨.non,_,I.lset (its':=its++[u]) hH e (by simp) (r.append (.cons ru .nil)) ?_,rfl,q⟩;rw[Yl,Wj];omega
def rCat:R2:=λx y H Q=>∃l b xs zs,x=.ref l/\y=.ref b/\H l=some (.lst xs)/\H b=some (.lst zs)/\xs.length+zs.length<=sizeLine/\∀p,H p=none->Q (.ref p) (upd H p (.lst (xs++zs)))
def Pr:OpR X (binaryOp .Add) rCat:=by
 intro pins s σ H x y v u Q I rx ry h;obtain⟨l,b,xs,zs,rfl,rfl,hH,hB,hz,q⟩:=h;cases rx
 cases ry
 obtain⟨z,its,n,r,hl,e⟩:=I.lstM hH;obtain⟨z2,its2,n2,r2,hl2,e2⟩:=I.lstM hB;refine PySem.P.add_list e e2 ?_ (by rw[Yo,Yo];omega);have ea:its.toArray++its2.toArray=(its++its2).toArray:=by simp
 rw[ea];exact⟨.ref _,_,I.lnew (t':=s.toks) (r.append r2) (by rw[Yl];omega),rfl,q _ I.fresh⟩
end
end L2
namespace Att
open PySem PySem.W PySem.Calls PyProof.Rows
def RY{P:Params}{h:Heap}:∀(ns:List Int) (vs:List Value),WellAll P h vs (ns.map WData.int)->IntsAre vs ns:=by
 intro ns
 induction ns with
 |nil=>
  intro vs w;rw[Vi]at w;cases w
  exact .nil
 |cons n ns ih=>
  intro vs w;rw[Ys]at w;cases w with
  |cons a b=>
   cases a
   exact .cons _ _ (ih _ b)
def Gk{l:OpenLaw}{n:Nat}(hn:l.most=some n){P:Params}{h:Heap}{args:List WData}{vals:List Value}(hpre:l.row.toRowW.claim.pre args=true)(hwl:WellAll P h vals args) :
  ∃a vs ns,vals=[Value.ref a]/\args=[WData.list (ns.map WData.int)]/\h.get? a=some {cls:=.type "list",data:=.seq vs.toArray}/\IntsAre vs ns/\ns.length<=n:=by
 have hsh:WShape.hasAll [] args [.list .int]=true:=(pre_splitW hpre).1;have hc:l.pre.holds [] {args:=args}=true:=(pre_splitW hpre).2;obtain⟨d,r,rfl,h1,h2⟩:=hasAllW_cons hsh;obtain rfl:=hasAllW_nil h2;obtain⟨xs,rfl,h3⟩:=hasW_list h1;obtain⟨ns,rfl⟩:=items_int h3
 have hlen:ns.length<=n:=by
  unfold OpenLaw.pre at hc
  have h4:(WTm.not (.lt (.lit (.int (n:Int))) (.len (.arg 0)))).holds [] {args:=[.list (ns.map .int)]}=true:=by
   have h4:=(holds_andW hc).1;rw[hn]at h4;exact h4
  have h5:=condW_of h4 (w_not (w_lt w_lit (w_len_list (w_arg rfl))));rw[ZV]at h5;refine Nat.le_of_not_lt λq=>?_;have q':(n:Int)<((ns.length:Nat):Int):=by omega
  first
   |(rw[Yb q']at h5;exact absurd h5 (by decide))
   |(simp at h5;omega)
 cases hwl with
 |cons w1 w2=>
  cases w2
  cases w1 with
  |list ho hall=>exact⟨_,_,ns,rfl,rfl,ho,RY ns _ hall,hlen⟩
def HW(l:OpenLaw)(args:List WData):l.row.toRowW.claim.post args (.bool true) args=true:=
 postW_of (r:=l.row.toRowW) (X:=(true==true))
  (show WShape.has [] (.bool true) .bool=true by first|rfl|decide|simp[WShape.has,WShape.arms,WShape.armsAll])
  (show(WTm.eq .res (.lit (.bool true))).value [] {args:=args,res:=some (.bool true),after:=args}=some (.bool (true==true))from w_eq_bool (w_res rfl) w_lit) rfl
def Er{l:OpenLaw}{n:Nat}{q:Program}{loose:List Str}{XP:(Str->Option Value)->Heap->Prop}{YP:World->Heap->Prop}{d:DefRec}(hn:l.most=some n)(hdf:d.params.defaults=[])
  (call:∀(w:World) (s₀ s₁:Shared) (mg mb:Str->Option Value) (fa:Addr) (o:Obj) (pm cd doc:Value) (a:Addr) (vs:List Value) (ns:List Int),
   Ground q loose [] XP w s₀ mg mb s₁.heap->YP w s₁.heap->
   s₁.heap.get? fa=some o->o.data=.func (docDef d.name d.params d.body d.scope pm cd doc)->s₁.heap.CodeRec cd d.name->mg d.name=some (.ref fa)->
   s₁.heap.get? a=some {cls:=.type "list",data:=.seq vs.toArray}->IntsAre vs ns->ns.length<=n->s₁.gens=#[]->
   codeAny (model l.prog w) callerA (.call (.ref fa) ⟨[.ref a],[]⟩) (λr s'=>r=.ok (.ret (.bool true))/\OldK s₁.heap s'.heap/\s'.os=s₁.os/\AllBare s'.gens) s₁) :
  WalkO q loose XP YP l.row.toRowW d [] (λf vs=>PySem.call f vs):=by
 intro w s₀ s₁ mg mb G Y fa o pm cd doc dV kV ho hd hcd hD hmg hg args vals as hpre hlay hrd hwl hlo;obtain rfl:dV=.none:=Dflts.none hD hdf;obtain rfl:kV=.none:=Dflts.noKw hD;obtain⟨a,vs,ns,rfl,rfl,hobj,hints,hlen⟩:=Gk hn hpre hwl;refine enter_call (W1 (call w s₀ s₁ mg mb fa o pm cd doc a vs ns G Y ho (fd_plain hd) hcd hmg hobj hints hlen hg) λr s' hq=>?_);obtain⟨rfl,h2,h3,h4⟩:=hq;exact⟨.inl ⟨.bool true,.bool true,[],rfl,λ_=>rfl,.bool true,HW l _,λ_=>⟨List.Pairwise.nil,λ_ hm=>(nomatch hm)⟩⟩,h2,h3,h4⟩
end Att
namespace L2
open PySem PySem.Spec PyProof.Rows
def PH:∀{vs:List Value}{ns:List Int},IntsAre vs ns->Vals (ns.map V.int) vs
 |_,_,.nil=>.nil
 |_,_,.cons n t h=>.cons ⟨t,rfl⟩ (PH h)
def Only(H:Hp):Prop:=∀b,H b=none\/∃o xs,H b=some (.frz o (.lst xs))
def M1{P:Program}{w:World}{K:Za}{mg mb:Str->Option Value}{CX:CXT}{k:Nat}{fa a:Addr}{fd:FuncData}{x:Str}{sp:Sp}{s₁:Shared}{vs:List Value}{ns:List Int}(KX:K.In s₁.heap)(hns:s₁.heap.Ns mainGlobals mg)(hb:s₁.heap.Ns builtinsNs mb)(hbb:∀x:Str,x≠"__name__"->mb x=bootBuiltins x)(hlim:s₁.heap.NoLimit)(hg:s₁.gens=#[])(ha:s₁.heap.get? a=some {cls:=.type "list",data:=.seq vs.toArray})(hi:IntsAre vs ns)(hl:ns.length<=sizeLine)(hr:Room k callerA)(F:∀base:Heap,K.In base->base.Ns mainGlobals mg->FnOk P w K mg base CX k fa fd [x] sp)(hbind:∀(s:Shared) (u:Value),BindsTo s fd ⟨[u],[]⟩ [(x,u)])(hsp:∀H:Hp,Only H->SqL K H a (ns.map V.int)->sp [.ref a] H (λv _=>v=.bl true) λ_ _ _=>False)(hCX:∀H e s',CX [] H s₁ (λ_ _ _=>False) e s'->False) :
  codeAny (model P w) callerA (.call (.ref fa) ⟨[.ref a],[]⟩) (λr s'=>r=.ok (.ret (.bool true))/\OldK s₁.heap s'.heap/\s'.os=s₁.os/\AllBare s'.gens) s₁:=by
 have rv:=PH hi;have lenV:=hi.length
 have core:∀H:Hp,Only H->SqL K H a (ns.map V.int)->HOk P w H s₁.heap->(∀b,H b≠none->b=a)->(H a≠none->K.lookup a=none)->
   codeAny (model P w) callerA (.call (.ref fa) ⟨[.ref a],[]⟩) (λr s'=>r=.ok (.ret (.bool true))/\OldK s₁.heap s'.heap/\s'.os=s₁.os/\AllBare s'.gens) s₁:=by
  intro H hO hS hok hA hK;have base_of:∀{b:Addr} {o:Obj},s₁.heap.get? b=some o->H b=none->(hidT s₁.heap H).get? b=some o:=λe n=>G3 e n
  have noA:∀{b:Addr} {o:Obj} {es:Array DictEntry} {ep:Nat},s₁.heap.get? b=some o->o.data=.dict es ep->H b=none:=λ{b o es ep} e d=>by
   cases q:H b with
   |none=>rfl
   |some u=>
    have e':b=a:=hA b (by rw[q];simp);subst e';rw[ha]at e;cases e;have d':Data.seq vs.toArray _=Data.dict es ep:=d;cases d'
  have nsK:∀{b:Addr} {m:Str->Option Value},s₁.heap.Ns b m->(hidT s₁.heap H).Ns b m:=λ{b m} ⟨o,es,ep,e,d,r⟩=>⟨o,es,ep,base_of e (noA e d),d,r⟩
  have hKb:K.In (hidT s₁.heap H):=λb o e=>base_of (KX b o e) (by
   cases q:H b with
   |none=>rfl
   |some u=>
    have e':b=a:=hA b (by rw[q];simp);subst e';rw[hK (by rw[q];simp)]at e;cases e)
  have hM:Mod K mg (hidT s₁.heap H):=⟨hKb,nsK hns,⟨mb,nsK hb,hbb⟩,let ⟨mc,h1,h2⟩:=hlim;⟨mc,nsK h1,h2⟩⟩;have e0:Env0 P w K mg (hidT s₁.heap H) callerA [] s₁ H:=⟨rfl,hM,λb o e=>Ry e,Wz (Lr _ _),trivial,λb hb=>absurd (show b∈([]:List Addr)from hb) (by simp),hok,.of_eq hg⟩
  refine W1 ((F _ hKb (nsK hns)).run callerA [] s₁ H ⟨[.ref a],[]⟩ [.ref a] [.ref a] _ _ hr e0 (hbind s₁ (.ref a)) (.cons rfl .nil) (hsp H hO hS)) λr s' h=>?_;cases r with
  |error e=>exact(hCX H e s' h).elim
  |ok fl=>
   cases fl with
   |next=>exact False.elim h
   |brk=>exact False.elim h
   |cont=>exact False.elim h
   |ret u=>
    obtain⟨v,H',os,bare,un,hok',r',q⟩:=h;have q':v=.bl true:=q;subst q';obtain rfl:u=Value.bool true:=r';refine⟨rfl,OldK.of_keep λb o e=>?_,os,bare⟩;cases q:H b with
    |none=>exact un.keep b o e q (by intro z;exact absurd (show b∈([]:List Addr)from z) (by simp)) (by simp)
    |some u=>
     rcases hO b with z|⟨ob,xs,z⟩
     ·rw[q]at z;cases z
     ·have z2:=un.frzs b ob _ z;obtain⟨e1,_⟩:=hok b _ z;obtain⟨e2,_⟩:=hok' b _ z2;rw[e]at e1;cases e1;exact e2
 cases hk:K.lookup a with
 |some o=>
  have e:=KX a o hk;rw[ha]at e;cases e
  refine core (λ_=>none) (λ_=>.inl rfl) (.inr ⟨_,vs.toArray,_,hk,rfl,rfl,rfl,by rw[Yo,lenV];exact hl,by simpa using rv⟩) (λb u z=>by have z':(none:Option HO)=some u:=z;cases z') (λb z=>absurd rfl z) λz=>absurd rfl z
 |none=>
  refine core (λb=>if b=a then some (.frz {cls:=.type "list",data:=.seq vs.toArray} (.lst (ns.map V.int)))else none) (λb=>?_) (.inl (.inr ⟨{cls:=.type "list",data:=.seq vs.toArray},Ya rfl⟩)) (λb u z=>?_) (λb z=>?_) λ_=>hk
  ·by_cases hb:b=a
   ·exact .inr ⟨_,_,Ya hb⟩
   ·exact .inl (ZZ hb)
  ·by_cases hb:b=a
   ·have z':=(Ya hb).symm.trans z;cases z'
    subst hb;exact⟨ha,by rw[ZV];exact hl,vs,_,rv,ha⟩
   ·have z':=(ZZ hb).symm.trans z;cases z'
  ·by_cases hb:b=a
   ·exact hb
   ·exact absurd (ZZ hb) z
def GV{l:PySem.W.OpenLaw}{n k:Nat}{q:Program}{loose:List Str}{XP:(Str->Option Value)->Heap->Prop}{YP:World->Heap->Prop}{d:DefRec}{K:Params->Za}{CX:World->CXT}{sp:World->Sp}{x:Str}(hn:l.most=some n)(hn2:n<=sizeLine)(hdf:d.params.defaults=[])(hr:Room k callerA)(hY:∀(w:World) (h:Heap),YP w h->(K w.params).In h)
  (F:∀(w:World) (mg:Str->Option Value) (fa:Addr) (h:Heap),(K w.params).In h->h.Ns mainGlobals mg->mg d.name=some (.ref fa)->
   ∃fd:FuncData,(∀(s:Shared) (u:Value),BindsTo s fd ⟨[u],[]⟩ [(x,u)])/\
    ∀base:Heap,(K w.params).In base->base.Ns mainGlobals mg->FnOk l.prog w (K w.params) mg base (CX w) k fa fd [x] (sp w))
  (hsp:∀(w:World) (H:Hp) (a:Addr) (ns:List Int),ns.length<=n->Only H->SqL (K w.params) H a (ns.map V.int)->sp w [.ref a] H (λv _=>v=.bl true) λ_ _ _=>False)
  (hCX:∀(w:World) (H:Hp) (s:Shared) (e:Value) (s':Shared),CX w [] H s (λ_ _ _=>False) e s'->False) :
  PySem.W.WalkO q loose XP YP l.row.toRowW d [] (λf vs=>PySem.call f vs):=by
 refine Att.Er hn hdf λw s₀ s₁ mg mb fa o pm cd doc a vs ns G Y ho hd hcd hmg hobj hints hlen hg=>?_;have KX:=hY w _ Y;obtain⟨fd,hb,hF⟩:=F w mg fa _ KX G.T.g hmg;exact M1 KX G.T.g G.T.b G.T.builtins G.T.nolimit hg hobj hints (Yn hlen hn2) hr hF hb (λH hO hS=>hsp w H a ns hlen hO hS) λH e s'=>hCX w H s₁ e s'
def Ht{l:PySem.W.OpenLaw}{n k:Nat}{q:Program}{loose:List Str}{XP:(Str->Option Value)->Heap->Prop}{YP:World->Heap->Prop}{d:DefRec}{K:Params->Za}{CX:CXT}{sp:Za->Sp}{x:Str}(hn:l.most=some n)(hn2:n<=sizeLine)(hdf:d.params.defaults=[])(hr:Room k callerA)(hY:∀(w:World) (h:Heap),YP w h->(K w.params).In h)
  (F:∀(w:World) (mg:Str->Option Value) (fa:Addr) (h:Heap),(K w.params).In h->h.Ns mainGlobals mg->mg d.name=some (.ref fa)->
   ∃fd:FuncData,(∀(s:Shared) (u:Value),BindsTo s fd ⟨[u],[]⟩ [(x,u)])/\
    ∀base:Heap,(K w.params).In base->base.Ns mainGlobals mg->FnOk l.prog w (K w.params) mg base CX k fa fd [x] (sp (K w.params)))
  (hsp:∀(K:Za) (H:Hp) (a:Addr) (ns:List Int),ns.length<=n->Only H->SqL K H a (ns.map V.int)->sp K [.ref a] H (λv _=>v=.bl true) λ_ _ _=>False)
  (hCX:∀(H:Hp) (s:Shared) (e:Value) (s':Shared),CX [] H s (λ_ _ _=>False) e s'->False) :
  PySem.W.WalkO q loose XP YP l.row.toRowW d [] (λf vs=>PySem.call f vs):=
 GV (K:=K) (CX:=λ_=>CX) (sp:=λw=>sp (K w.params)) hn hn2 hdf hr hY F (λw H a ns h1 h2 h3=>hsp (K w.params) H a ns h1 h2 h3) λ_ H s e s'=>hCX H s e s'
def inClass(s:Stmt)(j:Nat):Stmt:=match s with
 | .ClassDef _ _ _ body _ _ _ _ _ _ _=>body.getD j (.Pass ⟨0,0,0,0⟩)
 |_=>.Pass ⟨0,0,0,0⟩
def U4(s:Stmt):Arguments:=match s with
 | .FunctionDef _ a _ _ _ _ _ _ _ _=>a
 |_=>{posonlyargs:=[],args:=[],vararg:=none,kwonlyargs:=[],kw_defaults:=[],kwarg:=none,defaults:=[]}
def JV(s:Stmt):List Stmt:=match s with
 | .FunctionDef _ _ b _ _ _ _ _ _ _=>b
 |_=>[]
def Jk(s:Stmt):Scope:=match s with
 | .FunctionDef _ _ _ _ _ _ sc _ _ _=>sc
 |_=>{kind:=.function,names:=[],isGenerator:=false,isCoroutine:=false}
abbrev CX0:CXT:=λ_ _ _ _ _ _=>False
abbrev E0:XK:=λ_ _ _=>False
def Uq{X:Cx}:UE CX0 X E0:=λ_ _ _ _ _ _ _ h=>h.elim
structure Fun (K:Za) (x qual:Str) (st:Stmt) (f:Addr) (fd:FuncData):Prop where
 ex:∃(oc:Value) (od:Option Addr) (kV doc pm:Value) (an:Option Addr) (cdv ct:Value) (osl:Array (Option Value)),
  fd=PySem.W.fnOf x qual (U4 st) (JV st) (Jk st) .none kV doc pm an cdv ct/\K.lookup f=some ⟨oc,od,.func fd,osl⟩/\PySem.W.codeIn K cdv qual=true
 kp:PySem.W.keepIn K (.ref f)=true
section
variable {P:Program}{w:World}{K:Za}{mg:Str->Option Value}{base:Heap}
def Fun.ok {x qual:Str}{st:Stmt}{f:Addr}{fd:FuncData}{N ps:List Str}{k:Nat}{sp:Sp} (F:Fun K x qual st f fd) (S:FnScope N ps (Jk st)) (len:∀vs H Q E,sp vs H Q E->vs.length=ps.length)
  (hbody:∀(cdv:Value) (A:Around) (outer:List Env) (s:Shared) (H:Hp) (vs:List V) (Q:VK) (E:XK),Room k (A.deeper (envOfC qual (Jk st) s.heap.objs.size f cdv))->sp vs H Q E->
   ∃t,PSs (cxOf CX0 P w K mg base N qual (Jk st) f cdv A outer s H E).nox (JV st) t/\t {nx:=λ_ H'=>Q .non H',rt:=Q} (start N vs) H):FnOk P w K mg base CX0 (k+1) f fd ps sp:=by
 obtain⟨oc,od,kV,doc,pm,an,cdv,ct,osl,rfl,lk,hcd⟩:=F.ex;refine NO lk hcd S len λA outer s H vs Q E hr hsp=>?_;obtain⟨t,h,q⟩:=hbody cdv A outer s H vs Q E hr hsp;exact⟨t,h.nox,q⟩
def Fun.binds {x qual:Str}{st:Stmt}{f:Addr}{fd:FuncData}{ps:List Str} (F:Fun K x qual st f fd)
  (h:∀(kV doc pm:Value) (an:Option Addr) (cdv ct:Value) (us:List Value),us.length=ps.length->bindArgs (PySem.W.fnOf x qual (U4 st) (JV st) (Jk st) .none kV doc pm an cdv ct) ⟨us,[]⟩=pure (ps.zip us)):Binds K fd ps []:=by
 obtain⟨oc,od,kV,doc,pm,an,cdv,ct,osl,rfl,lk,hcd⟩:=F.ex;exact .all (h kV doc pm an cdv ct)
def PQ{x qual:Str}{st:Stmt}{f:Addr}{oc:Value}{od an:Option Addr}{osl:Array (Option Value)}{kV doc pm cdv ct:Value}(l:K.lookup f=some ⟨oc,od,.func (PySem.W.fnOf x qual (U4 st) (JV st) (Jk st) .none kV doc pm an cdv ct),osl⟩)(c:PySem.W.codeIn K cdv qual=true)(k:PySem.W.keepIn K (.ref f)=true):Fun K x qual st f (PySem.W.fnOf x qual (U4 st) (JV st) (Jk st) .none kV doc pm an cdv ct):=⟨⟨oc,od,kV,doc,pm,an,cdv,ct,osl,rfl,l,c⟩,k⟩
end
def JH{A:Around}{k:Nat}(hr:Room k A):A.units+1<cLine:=Va (Nat.add_le_add_left (by decide:1<=64) _) hr.units
def DJ{n:Nat}(h:n<=1000):n<sizeLine:=Va h (by decide)
section
variable {X:Cx}
def pv(i:Nat){x:Str}{pos:Pos}(hN:X.N[i]?=some x:=by rfl)(hv:Vis X.env.scope x:=by first|exact Or.inl rfl|exact Or.inr (Or.inl rfl)|exact Or.inr (Or.inr rfl))(hd:(x==("__debug__" : Str))=false:=by decide)(hcd:(x==("__classdict__" : Str))=false:=by decide):PE X (.Name x pos) (tVar i):=Hw hN hv hd hcd
end
def iteF{A B:Prop}(h:B):if false=true then A else B:=by
 rw[ZZ Yj];exact h
def iteT{A B:Prop}(h:A):if true=true then A else B:=by
 rw[Ya rfl];exact h
def ite2{c A B:Prop}[Decidable c](h1:c->A)(h2:¬c->B):if c then A else B:=by
 by_cases h:c
 ·rw[Ya h];exact h1 h
 ·rw[ZZ h];exact h2 h
def K8{c A B:Prop}[Decidable c](hc:c)(h:B):if (!decide c)=true then A else B:=by
 rw[Yb hc];exact iteF h
def Same(H H':Hp):Prop:=∀b o,H b=some o->H' b=some o
def Same.refl (H:Hp):Same H H:=λ_ _ h=>h
def Same.trans {H H1 H2:Hp} (a:Same H H1) (b:Same H1 H2):Same H H2:=λc o h=>b c o (a c o h)
def Same.free {H H':Hp} (e:Same H H') {l:Addr} (h:H' l=Option.none):H l=Option.none:=by
 cases q:H l with
 |none=>rfl
 |some o=>
  rw[e l o q]at h;cases h
def Same.seq {K:Za}{H H':Hp}{a:Addr}{xs:List V} (e:Same H H') (h:SqL K H a xs):SqL K H' a xs:=by
 rcases h with(h|⟨o,h⟩)|h
 ·exact .inl (.inl (e _ _ h))
 ·exact .inl (.inr ⟨o,e _ _ h⟩)
 ·exact .inr h
end L2
set_option maxHeartbeats 4000000
namespace L2
open PySem PySem.Spec PyProof.Rows
section
variable {κ:Type} [DecidableEq κ]
def valV(kvs:List (κ×V))(k:κ):Option V:=(kvs.find? λkv=>decide (kv.1=k)).map (·.2)
def putK(kvs:List (κ×V))(k:κ)(v:V):List (κ×V):=
 if (kvs.any λkv=>decide (kv.1=k))=true then kvs.map (λkv=>if kv.1=k then(kv.1,v)else kv)else kvs++[(k,v)]
def UM{p:κ×V}{r:List (κ×V)}{k:κ}(e:p.1=k):valV (p::r) k=some p.2:=by simp[valV,WN,e]
def UL{p:κ×V}{r:List (κ×V)}{k:κ}(e:¬p.1=k):valV (p::r) k=valV r k:=by simp[valV,WN,e]
def Pm(k:κ):∀kvs:List (κ×V),(kvs.any λkv=>decide (kv.1=k))=(valV kvs k).isSome
 |[]=>rfl
 |p::r=>by
  rw[WL];by_cases e:p.1=k
  ·simp only[UM e,Yb e,Bool.true_or,Option.isSome_some]
  ·rw[UL e,Ym e,Bool.false_or];exact Pm k r
def Ax(k j:κ)(y:V):∀kvs:List (κ×V),valV (kvs.map λkv=>if kv.1=k then(kv.1,y)else kv) j=(valV kvs j).map λx=>if j=k then y else x
 |[]=>rfl
 |p::r=>by
  have ih:=Ax k j y r;rw[Ys];by_cases h:p.1=k
  ·rw[Ya h];by_cases e:p.1=j
   ·rw[UM (p:=(p.1,y)) e,UM e,QI,Ya (e.symm.trans h)]
   ·rw[UL (p:=(p.1,y)) e,UL e,ih]
  ·rw[ZZ h];by_cases e:p.1=j
   ·rw[UM (p:=p) e,UM e,QI,ZZ (λz=>h (e.trans z))]
   ·rw[UL (p:=p) e,UL e,ih]
def Fy(k j:κ)(y:V):∀kvs:List (κ×V),valV kvs k=none->valV (kvs++[(k,y)]) j=if j=k then some y else valV kvs j
 |[],_=>by
  by_cases e:k=j
  ·rw[Ya e.symm];exact UM (p:=(k,y)) e
  ·rw[ZZ (λz=>e z.symm)];exact UL (p:=(k,y)) e
 |p::r,hn=>by
  rw[Wi];have hk:¬p.1=k:=λz=>by rw[UM z]at hn;cases hn
  rw[UL hk]at hn;have ih:=Fy k j y r hn;by_cases e:p.1=j
  ·rw[UM e,UM e,ZZ (λz=>hk (e.trans z))]
  ·rw[UL e,UL e,ih]
def Tv(kvs:List (κ×V))(k j:κ)(y:V):valV (putK kvs k y) j=if j=k then some y else valV kvs j:=by
 unfold putK;by_cases a:(kvs.any λkv=>decide (kv.1=k))=true
 ·rw[Ya a,Ax];rw[Pm]at a;by_cases e:j=k
  ·obtain⟨x,hx⟩:=Option.isSome_iff_exists.mp a;rw[Ya e,e,hx,QI,Ya rfl]
  ·rw[ZZ e];cases valV kvs j with
   |none=>rfl
   |some x=>rw[QI,ZZ e]
 ·rw[ZZ a];refine Fy k j y kvs ?_;rw[Pm]at a;cases q:valV kvs k with
  |none=>rfl
  |some x=>rw[q]at a;exact(a rfl).elim
def Tp(kvs:List (κ×V))(k:κ)(v:V):(putK kvs k v).length<=kvs.length+1:=by
 unfold putK;split
 ·rw[ZV];omega
 ·rw[Yl,Y1,List.length_nil];omega
def Gy{kvs:List (κ×V)}{k:κ}(v:V)(h:valV kvs k=none):putK kvs k v=kvs++[(k,v)]:=by
 unfold putK;rw[Pm,h];exact ZZ (by decide)
def RelO.isSome_eq {o:Option V}{u:Option Value} (r:RelO o u):o.isSome=u.isSome:=by
 cases o with
 |none=>cases u with
  |none=>rfl
  |some _=>exact(show False from r).elim
 |some _=>cases u with
  |none=>exact(show False from r).elim
  |some _=>rfl
def KV.val {kvs:List (κ×V)}{vs:List (κ×Value)} (r:KV kvs vs) (k:κ):RelO (valV kvs k) (valueAt vs k):=by
 unfold KV at r
 induction r with
 |nil=>exact True.intro
 | @cons p q ps qs h t ih=>
  obtain⟨h1,h2⟩:=h;by_cases e:p.1=k
  ·have e':q.1=k:=h1.symm.trans e;have b:valueAt (q::qs) k=some q.2:=by simp[valueAt,WN,e']
   rw[UM e,b];exact h2
  ·have e':¬q.1=k:=λz=>e (h1.trans z);have b:valueAt (q::qs) k=valueAt qs k:=by simp[valueAt,WN,e']
   rw[UL e,b];exact ih
def KV.any {kvs:List (κ×V)}{vs:List (κ×Value)} (r:KV kvs vs) (k:κ):(kvs.any λkv=>decide (kv.1=k))=vs.any λkv=>decide (kv.1=k):=by
 unfold KV at r
 induction r with
 |nil=>rfl
 |cons h t ih=>rw[WL,WL,ih,h.1]
def KV.repl {kvs:List (κ×V)}{vs:List (κ×Value)} (r:KV kvs vs) (k:κ) {y:V}{u:Value} (ry:RelV y u) :
  KV (kvs.map λkv=>if kv.1=k then(kv.1,y)else kv) (vs.map λkv=>if kv.1=k then(kv.1,u)else kv):=by
 unfold KV at r ⊢
 induction r with
 |nil=>exact .nil
 | @cons p q ps qs h t ih=>
  rw[Ys,Ys];refine .cons ?_ ih;obtain⟨h1,h2⟩:=h;by_cases e:p.1=k
  ·rw[Ya e,Ya (h1.symm.trans e)];exact⟨h1,ry⟩
  ·rw[ZZ e,ZZ (λz=>e (h1.trans z))];exact⟨h1,h2⟩
def KV.put {kvs:List (κ×V)}{vs:List (κ×Value)} (r:KV kvs vs) (k:κ) {y:V}{u:Value} (ry:RelV y u):KV (putK kvs k y) (stored vs k u):=by
 unfold putK stored;rw[r.any k];by_cases e:(vs.any λkv=>decide (kv.1=k))=true
 ·rw[Ya e,Ya e];exact r.repl k ry
 ·rw[ZZ e,ZZ e];exact Paired.snoc r ⟨rfl,ry⟩
def KV.length {kvs:List (κ×V)}{vs:List (κ×Value)} (r:KV kvs vs):kvs.length=vs.length:=Paired.length r
end
def TY{P:Program}{w:World}{k:Key}{u:Value}(r:RelV (kV k) u):(U6 P w).is k u=true:=by
 cases k with
 |inl i=>obtain⟨t,e⟩:=(show ∃t,u=Value.int i t from r);subst e;exact Ei P w i t
 |inr x=>obtain⟨t,e⟩:=(show ∃t,u=Value.str x t from r);subst e;exact Hm P w x t
def F5{P:Program}{w:World}:∀{ks:List Key}{us:List Value},Vals (ks.map kV) us->ItemsAre (U6 P w) ks us
 |[],_,r=>by rw[Vi]at r;cases r;exact .nil
 |k::ks,_,r=>by
  rw[Ys]at r;cases r with
  |cons h t=>exact .cons (TY h) (F5 t)
abbrev KT(H:Hp):List (List Key×V)->List (List Key×Addr×Value)->Prop:=Paired λp q=>p.1=q.1/\H q.2.1=some (.tup (p.1.map kV))/\RelV p.2 q.2.2
def KT.val {H:Hp}{kvs:List (List Key×V)}{xs:List (List Key×Addr×Value)} (r:KT H kvs xs) (k:List Key):RelO (valV kvs k) ((atKey xs k).map (·.2)):=by
 induction r with
 |nil=>exact True.intro
 | @cons p q ps qs h t ih=>
  obtain⟨h1,_,h2⟩:=h;by_cases e:p.1=k
  ·have e':q.1=k:=h1.symm.trans e;have b:atKey (q::qs) k=some q.2:=by simp[atKey,WN,e']
   rw[UM e,b];exact h2
  ·have e':¬q.1=k:=λz=>e (h1.trans z);have b:atKey (q::qs) k=atKey qs k:=by simp[atKey,WN,e']
   rw[UL e,b];exact ih
def KT.repl {H:Hp}{kvs:List (List Key×V)}{xs:List (List Key×Addr×Value)} (r:KT H kvs xs) (k:List Key) {y:V}{u:Value} (ry:RelV y u) :
  KT H (kvs.map λkv=>if kv.1=k then(kv.1,y)else kv) (xs.map (putAt k u)):=by
 induction r with
 |nil=>exact .nil
 | @cons p q ps qs h t ih=>
  rw[Ys,Ys];refine .cons ?_ ih;obtain⟨h1,h2,h3⟩:=h;unfold putAt;by_cases e:p.1=k
  ·rw[Ya e,Ya (h1.symm.trans e)];exact⟨h1,h2,ry⟩
  ·rw[ZZ e,ZZ (λz=>e (h1.trans z))];exact⟨h1,h2,h3⟩
def KT.put {H:Hp}{kvs:List (List Key×V)}{xs:List (List Key×Addr×Value)} (r:KT H kvs xs) (k:List Key) {b:Addr}{y:V}{u:Value} (hb:H b=some (.tup (k.map kV))) (ry:RelV y u) :
  KT H (putK kvs k y) (storedH xs k b u):=by
 have e:(kvs.any λkv=>decide (kv.1=k))=(atKey xs k).isSome:=by
  rw[Pm,(r.val k).isSome_eq,Option.isSome_map]
 unfold putK storedH;rw[e];by_cases q:(atKey xs k).isSome=true
 ·rw[Ya q,Ya q];exact r.repl k ry
 ·rw[ZZ q,ZZ q];exact Paired.snoc r ⟨rfl,hb,ry⟩
def KT.keeps {H H':Hp}{kvs:List (List Key×V)}{xs:List (List Key×Addr×Value)} (r:KT H kvs xs) (ht:∀b ys,H b=some (.tup ys)->H' b=some (.tup ys)):KT H' kvs xs:=
 Paired.mapP r λ_ _ z=>⟨z.1,ht _ _ z.2.1,z.2.2⟩
section
variable {P:Program}{w:World}{H:Hp}{h:Heap}{a:Addr}
def FW{u:HO}(ok:HOk P w H h)(e:Rd H a u):ObjOk P w H h a u:=e.ok ok
def PD{kvs:List (Key×V)}(ok:HOk P w H h)(e:Rd H a (.dK kvs)):kvs.length<=sizeLine/\(a==sysModules)=false/\∃vs,KV kvs vs/\h.DictOf (U6 P w) a vs:=
 show ObjOk P w H h a (.dK kvs)from FW ok e
def GH{kvs:List (Key×V)}(ok:HOk P w H h)(e:H a=some (.dK kvs)):kvs.length<=sizeLine/\(a==sysModules)=false/\∃vs,KV kvs vs/\h.DictOf (U6 P w) a vs:=PD ok (.inl e)
def Pp{ks:List Key}(ok:HOk P w H h)(e:H a=some (.tup (ks.map kV))):(tupleKind (U6 P w)).is h ks a:=by
 obtain⟨_,its,r,o,h1,h2,n,h3⟩:=(show ObjOk P w H h a (.tup (ks.map kV))from ok a _ e)
 exact⟨o,its.toArray,n,h1,h2,h3,by simpa using F5 r⟩
def TX{kvs:List (List Key×V)}(ok:HOk P w H h)(e:Rd H a (.dT kvs)):kvs.length<=sizeLine/\(a==sysModules)=false/\
  ∃xs,KT H kvs xs/\h.DictOfH (tupleKind (U6 P w)) a xs:=by
 obtain⟨z,y,xs,r,o,es,ep,h1,h2,h3,h4,h5⟩:=(show ObjOk P w H h a (.dT kvs)from FW ok e)
 refine⟨z,y,xs,r,o,es,ep,h1,h2,h3,h4,λx hx=>?_,h5⟩
 have all:∀{l:List (List Key×V)} {m:List (List Key×Addr×Value)},KT H l m->∀x∈m,(tupleKind (U6 P w)).is h x.1 x.2.1:=by
  intro l m q
  induction q with
  |nil=>intro x hx;exact nomatch hx
  | @cons p q ps qs hq t ih=>
   intro x hx;rcases Yh.mp hx with e|hx
   ·subst e;exact Pp ok (by rw[←hq.1];exact hq.2.1)
   ·exact ih x hx
 exact all r x hx
def Ti{kvs:List (List Key×V)}(ok:HOk P w H h)(e:H a=some (.dT kvs)):kvs.length<=sizeLine/\(a==sysModules)=false/\
  ∃xs,KT H kvs xs/\h.DictOfH (tupleKind (U6 P w)) a xs:=TX ok (.inl e)
end
def DGet(H:Hp)(a:Addr)(y:V)(r:Option V):Prop:=
 (∃kvs k,Rd H a (.dK kvs)/\y=kV k/\r=valV kvs k)\/∃kvs k b,Rd H a (.dT kvs)/\y=.ref b/\H b=some (.tup (k.map kV))/\r=valV kvs k
def DPut(H:Hp)(a:Addr)(y v:V)(H':Hp):Prop:=
 (∃kvs k,H a=some (.dK kvs)/\y=kV k/\kvs.length<sizeLine/\H'=upd H a (.dK (putK kvs k v)))\/
 ∃kvs k b,H a=some (.dT kvs)/\y=.ref b/\H b=some (.tup (k.map kV))/\kvs.length<sizeLine/\H'=upd H a (.dT (putK kvs k v))
def DGet.k {H:Hp}{a:Addr}{kvs:List (Key×V)}{k:Key} (e:H a=some (.dK kvs)):DGet H a (kV k) (valV kvs k):=.inl ⟨kvs,k,.inl e,rfl,rfl⟩
def DGet.t {H:Hp}{a b:Addr}{kvs:List (List Key×V)}{k:List Key} (e:H a=some (.dT kvs)) (eb:H b=some (.tup (k.map kV))):DGet H a (.ref b) (valV kvs k):=.inr ⟨kvs,k,b,.inl e,rfl,eb,rfl⟩
def DPut.k {H:Hp}{a:Addr}{kvs:List (Key×V)}{k:Key}{v:V} (e:H a=some (.dK kvs)) (hl:kvs.length<sizeLine):DPut H a (kV k) v (upd H a (.dK (putK kvs k v))):=.inl ⟨kvs,k,e,rfl,hl,rfl⟩
def DPut.t {H:Hp}{a b:Addr}{kvs:List (List Key×V)}{k:List Key}{v:V} (e:H a=some (.dT kvs)) (eb:H b=some (.tup (k.map kV))) (hl:kvs.length<sizeLine) :
  DPut H a (.ref b) v (upd H a (.dT (putK kvs k v))):=.inr ⟨kvs,k,b,e,rfl,eb,hl,rfl⟩
section
variable {X:Cx}{pins:List (Addr×Obj)}{σ:St}{H:Hp}{s:Shared}{a:Addr}{y v:V}{u r:Value}{o:Option V}{A:Around}{E:Value->Shared->Prop}
def Inv.big (I:Inv X pins σ H s):sysModules<s.heap.objs.size:=by
 have h:mainGlobals<s.heap.objs.size:=(I.mod.glob.keeps I.bk).lt;exact WY (by decide) h
def EA{Q:Value->Shared->Prop}(hu:A.units+1<cLine)(I:Inv X pins σ H s)(g:DGet H a y (some v))(ry:RelV y u)(h:∀w' s',Inv X pins σ H s'->RelV v w'->Q w' s') :
  wpAny (model X.prog X.w) A (getItem (.ref a) u) Q E s:=by
 rcases g with⟨kvs,k,e,ey,l⟩|⟨kvs,k,b,e,ey,eb,l⟩
 ·subst ey;obtain⟨z,hd,vs,rel,dd⟩:=PD I.hok e;obtain⟨w',hw,rw'⟩:=RelO.some_of (v:=v) (o:=valueAt vs k) (by rw[l];exact rel.val k);exact wpAny_getItem_of (TY ry) dd.mapOf hw (h w' _ (I.tok _) rw')
 ·subst ey;cases (show u=Value.ref b from ry)
  obtain⟨z,hd,xs,rel,dd⟩:=TX I.hok e;obtain⟨w',hw,rw'⟩:=RelO.some_of (v:=v) (o:=(atKey xs k).map (·.2)) (by rw[l];exact rel.val k);obtain⟨p,hp,hp2⟩:=Option.map_eq_some_iff.mp hw;refine wpAny_getItem_heap (tupleKind_room_in1 hu) (Pp I.hok eb) dd hp ?_;rw[hp2];exact h w' _ (I.tok _) rw'
def IK{Q:Value->Shared->Prop}(hu:A.units+1<cLine)(I:Inv X pins σ H s)(g:DGet H a y o)(ry:RelV y u)(h:∀s',Inv X pins σ H s'->Q (.bool (!o.isSome)) s') :
  wpAny (model X.prog X.w) A (compareOp .NotIn u (.ref a)) Q E s:=by
 rcases g with⟨kvs,k,e,ey,l⟩|⟨kvs,k,b,e,ey,eb,l⟩
 ·subst ey;obtain⟨z,hd,vs,rel,dd⟩:=PD I.hok e;refine wpAny_notIn_of (TY ry) hd dd.mapOf ?_;rw[←(rel.val k).isSome_eq,←l];exact h _ (I.tok _)
 ·subst ey;cases (show u=Value.ref b from ry)
  obtain⟨z,hd,xs,rel,dd⟩:=TX I.hok e;refine wpAny_notIn_heap (tupleKind_room_in1 hu) (Pp I.hok eb) hd dd ?_;have q:=(rel.val k).isSome_eq;rw[Option.isSome_map]at q;rw[←q,←l];exact h _ (I.tok _)
def T4{h':Heap}{t':Nat}{ob:HO}(I:Inv X pins σ H s)(mu:Mut (H a))(hs:Heap.SameBut a s.heap h')(he:∃q,h'.get? a=some q)(new:ObjOk X.prog X.w (upd H a ob) h' a ob) :
  Inv X pins σ (upd H a ob) {s with heap:=h',toks:=t'}:=
 I.write (x:=a) (e:=a) mu (.inl rfl) (λb q hb z=>(hs.2 b hb).trans z) he new
def OG{P:Program}{w:World}{H':Hp}{h':Heap}{kvs:List (Key×V)}{vs:List (Key×Value)}(z:kvs.length<=sizeLine)(hd:(a==sysModules)=false)(rel:KV kvs vs)(dd:h'.DictOf (U6 P w) a vs) :
  ObjOk P w H' h' a (.dK kvs):=⟨z,hd,vs,rel,dd⟩
def Ru{H':Hp}{Q:Unit->Shared->Prop}(hu:A.units+1<cLine)(I:Inv X pins σ H s)(g:DPut H a y v H')(ry:RelV y u)(rv:RelV v r)(h:∀s',Inv X pins σ H' s'->Q () s') :
  wpAny (model X.prog X.w) A (setItem (.ref a) u r) Q E s:=by
 rcases g with⟨kvs,k,e,ey,l,eH⟩|⟨kvs,k,b,e,ey,eb,l,eH⟩
 ·subst ey eH;obtain⟨z,hd,vs,rel,dd⟩:=GH I.hok e;have hz:vs.length<=sizeLine:=by rw[←rel.length];exact z
  have hl:(putK kvs k v).length<=sizeLine:=by have:=Tp kvs k v;omega
  refine wpAny_setItem_pairs (hsz:=hz) (TY ry) dd λh' dd' hs=>h _ ?_;have he:∃q,h'.get? a=some q:=let ⟨q,_,_,hq,_⟩:=dd';⟨q,hq⟩;exact T4 I (by rw[e];exact True.intro) hs he (OG hl hd (rel.put k rv) dd')
 ·subst ey eH;cases (show u=Value.ref b from ry)
  obtain⟨z,hd,xs,rel,dd⟩:=Ti I.hok e;have hz:xs.length<=sizeLine:=by rw[←Paired.length rel];exact z
  have hl:(putK kvs k v).length<=sizeLine:=by have:=Tp kvs k v;omega
  refine wpAny_setItem_heap (hsz:=hz) (tupleKind_room_in1 hu) (Pp I.hok eb) dd λh' dd' hs=>h _ ?_;obtain⟨q,es,ep,hq,h2,h3,h4,_,h5⟩:=dd';refine T4 I (by rw[e];exact True.intro) hs ⟨q,hq⟩ ⟨hl,hd,_,(rel.put k eb rv).keeps λc ys ec=>?_,q,es,ep,hq,h2,h3,h4,h5⟩;rw[Jn (Bf ec e (λz=>nomatch z))];exact ec
end
def NoSl(i:Expr):Prop:=∀ov iv,subscripted i false ov iv=operate [ov,iv] (getItem ov iv)
def GB{prog:Program}{w:World}{A:Around}{E:Value->Shared->Prop}{s:Shared}{env:Env}{value slice:Expr}{pos:Pos}{T id:String}{Q:Value->Shared->Prop}(hl:typeLookup (.type T) "__getitem__"=pure (some (.builtin id)))(hs:NoSl slice)(h:wpAny (model prog w) A (eval value env) (λo s₁=>wpAny (model prog w) A (eval slice env) (λi s₂=>s₂.TypeIs o T/\wpAny (model prog w) A (getItem o i) Q E s₂) E s₁) E s) :
  wpAny (model prog w) A (eval (.Subscript value slice pos) env) Q E s:=by
 refine Subscript_ (YB h (λo s₁ h₁=>YB h₁ (λi s₂ h₂=>?_) λ_ _ x=>x) λ_ _ x=>x);obtain⟨hT,h₂⟩:=h₂;unfold subscriptTail;refine ZT ?_;rw[getitemInPython_of_ne hT.not_modules];refine ZT (wpAny_specialOf hT hl ?_)
 have fin:wpAny (model prog w) A (subscripted slice false o i) (λr s₃=>wpAny (model prog w) A (letTemporaryGo value o r >>= λ_=>pure r) Q E s₃) E s₂:=by
  rw[hs o i];exact wpAny_operating (YB h₂ (λr s₃ h₃=>ZT (wpAny_letTemporaryGo (ZW h₃))) λ_ _ x=>x)
 first
  |exact ZW (ZT fin)
  |exact ZT (ZW (ZT fin))
  |exact ZT fin
def Rt{X:Cx}{pins:List (Addr×Obj)}{σ:St}{H:Hp}{s:Shared}{a:Addr}{y:V}{o:Option V}(I:Inv X pins σ H s)(g:DGet H a y o):s.TypeIs (.ref a) "dict":=by
 rcases g with⟨kvs,k,e,_,_⟩|⟨kvs,k,b,e,_,_,_⟩
 ·obtain⟨_,_,vs,_,dd⟩:=PD I.hok e;exact dd.typeIs
 ·obtain⟨_,_,xs,_,dd⟩:=TX I.hok e;exact dd.typeIs
def Cw(td ty:TE):TE:=λσ H Q=>td σ H λx H1=>ty σ H1 λy H2=>∃a v,x=.ref a/\DGet H2 a y (some v)/\Q v H2
def Dd(ty td:TE):TE:=λσ H Q=>ty σ H λy H1=>td σ H1 λx H2=>∃a o,x=.ref a/\DGet H2 a y o/\Q (.bl (!o.isSome)) H2
def Fq(td ty tv:TE):TS:=λD σ H=>tv σ H λv H1=>td σ H1 λx H2=>ty σ H2 λy H3=>∃a H4,x=.ref a/\DPut H3 a y v H4/\D.nx σ H4
section
variable {X:Cx}{o i e value:Expr}{pos pos' tpos:Pos}{td ty tv:TE}
def KD(hu:X.A.units+1<cLine)(ho:PE X o td)(hi:PE X i ty)(hs:NoSl i):PE X (.Subscript o i pos) (Cw td ty):=by
 intro pins s σ H Q I h;refine GB PySem.F.slot_dict_getitem.lookup hs (thn (ho pins s σ H _ I h) λu s1 ⟨x,H1,I1,rx,q1⟩=>thn (hi pins s1 σ H1 _ I1 q1) λiv s2 ⟨y,H2,I2,ry,a,v,ex,g,q2⟩=>?_);subst ex;obtain rfl:u=Value.ref a:=rx;exact⟨Rt I2 g,EA hu I2 g ry λw' s3 I3 rw'=>⟨v,H2,I3,rw',q2⟩⟩
def E5(hu:X.A.units+1<cLine)(hi:PE X i ty)(ho:PE X o td):PC X .NotIn i o (Dd ty td):=by
 intro pins s σ H Q I h;refine thn (hi pins s σ H _ I h) λiv s1 ⟨y,H1,I1,ry,q1⟩=>thn (ho pins s1 σ H1 _ I1 q1) λu s2 ⟨x,H2,I2,rx,a,ov,ex,g,q2⟩=>?_;subst ex;obtain rfl:u=Value.ref a:=rx;exact IK hu I2 g ry λs3 I3=>⟨.bl (!ov.isSome),H2,I3,rfl,q2⟩
def B6(hu:X.A.units+1<cLine)(ho:PE X o td)(hi:PE X i ty)(hv:PE X value tv)(hs:swapsWith value (some (.Subscript o i pos')) pos.line X.env=pure false) :
  PS X (.Assign [.Subscript o i pos'] value pos) (Fq td ty tv):=by
 intro pins s σ H D I h;refine wpAny_Assign_Subscript (thn (hv pins s σ H _ I h) λr s1 ⟨v,H1,I1,rv,q1⟩=>thn (ho pins s1 σ H1 _ I1 q1) λu s2 ⟨x,H2,I2,rx,q2⟩=>thn (hi pins s2 σ H2 _ I2 q2) λiv s3 ⟨y,H3,I3,ry,a,H4,ex,g,q3⟩=>?_) hs;subst ex;obtain rfl:u=Value.ref a:=rx;exact Ru hu I3 g ry rv λs4 I4=>⟨σ,H4,I4,q3⟩
end
def Iz{P:Program}{w:World}{H:Hp}(h:Heap)(hb:sysModules<h.objs.size):ObjOk P w H (h.push {cls:=.type "dict",data:=.dict #[]}) h.objs.size (.dK []):=
 ⟨We _,YZ.mpr (Ne.symm (Yy hb)),[],.nil,Heap.DictOf.new h⟩
def CU{P:Program}{w:World}{H:Hp}(h:Heap)(hb:sysModules<h.objs.size):ObjOk P w H (h.push {cls:=.type "dict",data:=.dict #[]}) h.objs.size (.dT []):=
 ⟨We _,YZ.mpr (Ne.symm (Yy hb)),[],.nil,_,#[],0,Yi _ rfl,⟨rfl,rfl,rfl⟩,rfl,rfl,Wx⟩
def Aa:TE:=λ_ H Q=>∀p,H p=none->Q (.ref p) (upd H p (.dK []))
def A2:TE:=λ_ H Q=>∀p,H p=none->Q (.ref p) (upd H p (.dT []))
section
variable {X:Cx}{pos:Pos}
def GQ:PE X (.Dict [] [] pos) Aa:=λpins s σ H Q I h=>
 wpAny_Dict_empty ⟨.ref s.heap.objs.size,_,I.laid (a:=s.heap.objs.size) (o:=.dK []) (t':=s.toks) (λ_ _ q=>ZY _ q) (Yc _) (Iz s.heap I.big),rfl,h _ (I.hok.fresh (Yc _))⟩
def ET:PE X (.Dict [] [] pos) A2:=λpins s σ H Q I h=>
 wpAny_Dict_empty ⟨.ref s.heap.objs.size,_,I.laid (a:=s.heap.objs.size) (o:=.dT []) (t':=s.toks) (λ_ _ q=>ZY _ q) (Yc _) (CU s.heap I.big),rfl,h _ (I.hok.fresh (Yc _))⟩
end
def BX:List (TE×TE)->St->Hp->(List (V×V)->Hp->Prop)->Prop
 |[],_,H,Q=>Q [] H
 |(tk,tv)::r,σ,H,Q=>tk σ H λx H1=>tv σ H1 λy H2=>BX r σ H2 λps H3=>Q ((x,y)::ps) H3
abbrev VV:List (V×V)->List (Value×Value)->Prop:=Paired λp q=>RelV p.1 q.1/\RelV p.2 q.2
def PPs(X:Cx)(pos:Pos)(keys:List (Option Expr))(values:List Expr)(trs:List (TE×TE)):Prop:=
 ∀(pins:List (Addr×Obj)) (s:Shared) (σ:St) (H:Hp) (Q:List (V×V)->Hp->Prop),Inv X pins σ H s->BX trs σ H Q->
  wpAny (model X.prog X.w) X.A (evalPairs (pairTrees keys values X.env pos)) (λvs s'=>∃ps H',Inv X pins σ H' s'/\VV ps vs/\Q ps H') X.xe s
def Iu{X:Cx}{pos:Pos}:PPs X pos [] [] []:=λpins s σ H Q I h=>pairTrees_nil_walk ⟨[],H,I,.nil,h⟩
def Gb{X:Cx}{pos:Pos}{k v:Expr}{ks:List (Option Expr)}{vs:List Expr}{tk tv:TE}{trs:List (TE×TE)}(hk:PE X k tk)(hv:PE X v tv)(hr:PPs X pos ks vs trs) :
  PPs X pos (some k::ks) (v::vs) ((tk,tv)::trs):=λpins s σ H Q I h=>
 pairTrees_cons_walk (thn (hk pins s σ H _ I h) λu s1 ⟨x,H1,I1,rx,q1⟩=>thn (hv pins s1 σ H1 _ I1 q1) λw2 s2 ⟨y,H2,I2,ry,q2⟩=>
  thn (hr pins s2 σ H2 _ I2 q2) λws s3 ⟨ps,H3,I3,rel,q3⟩=>⟨(x,y)::ps,H3,I3,.cons ⟨rx,ry⟩ rel,q3⟩)
end L2
set_option genInjectivity false
set_option genSizeOfSpec false
namespace Own
open PySem PySem.Spec PyProof.Rows L2
structure Def (K:Za) (mg:Str->Option Value) (x:Str) (st:Stmt) (ps:List Str):Prop where
 ex:∃f fd,Fun K x x st f fd/\mg x=some (.ref f)/\Binds K fd ps []
structure Callee (P:Program) (w:World) (K:Za) (mg:Str->Option Value) (base:Heap) (CX:CXT) (k:Nat) (x:Str) (ps:List Str) (sp:Sp):Prop where
 ex:∃f fd,FnOk P w K mg base CX k f fd ps sp/\mg x=some (.ref f)/\PySem.W.keepIn K (.ref f)=true/\(∃o:Obj,K.lookup f=some o/\o.data=.func fd)/\Binds K fd ps []
section
variable {P:Program}{w:World}{K:Za}{mg:Str->Option Value}{base:Heap}
def Callee.at {CX:CXT}{x:Str}{st:Stmt}{f:Addr}{fd:FuncData}{k:Nat}{ps:List Str}{sp:Sp} (C:Callee P w K mg base CX k x ps sp) (hm:mg x=some (.ref f)) (F:Fun K x x st f fd) (_:Def K mg x st ps):FnOk P w K mg base CX k f fd ps sp:=by
 obtain⟨f',fd',Fo,hm',_,hl,_⟩:=C.ex;rw[hm]at hm';cases hm'
 obtain⟨oc,od,kV,doc,pm,an,cdv,ct,osl,_,lk,_⟩:=F.ex;obtain⟨o',lk',hd'⟩:=hl;rw[lk]at lk';cases lk'
 cases hd'
 exact Fo
def Def.ok {x:Str}{st:Stmt}{N ps:List Str}{k:Nat}{sp:Sp} (D:Def K mg x st ps) (S:FnScope N ps (Jk st)) (len:∀vs H Q E,sp vs H Q E->vs.length=ps.length)
  (hbody:∀(f:Addr) (cdv:Value) (A:Around) (outer:List Env) (s:Shared) (H:Hp) (vs:List V) (Q:VK) (E:XK),Room k (A.deeper (envOfC x (Jk st) s.heap.objs.size f cdv))->sp vs H Q E->
   ∃t,PSs (cxOf CX0 P w K mg base N x (Jk st) f cdv A outer s H E).nox (JV st) t/\t {nx:=λ_ H'=>Q .non H',rt:=Q} (start N vs) H):Callee P w K mg base CX0 (k+1) x ps sp:=by
 obtain⟨f,fd,F,hm,hb⟩:=D.ex;refine⟨f,fd,F.ok S len λcdv A outer s H vs Q E hr h=>hbody f cdv A outer s H vs Q E hr h,hm,F.kp,?_,hb⟩;obtain⟨oc,od,kV,doc,pm,an,cdv,ct,osl,_,lk,_⟩:=F.ex;exact⟨_,lk,rfl⟩
end
section
variable {X:Cx}{CX:CXT}{k:Nat}{ps:List Str}{sp:Sp}{E:XK}{x:Str}{p pos:Pos}{e:Expr}{es:List Expr}{t:TA}
def UH(C:Callee X.prog X.w X.K X.mg X.base CX k x ps sp)(hr:Room k X.A)(hx:UE CX X E)(ha:PA X (e::es) t)(hg:Gl X x:=by rfl)(hdb:(x==("__debug__" : Str))=false:=by decide)(he:starEach (e::es) X.env=(false,eval e X.env)::starEach es X.env:=by rfl)(hpl:(backTo pos (starEach es X.env)).any (·.1)=false:=by rfl) :
  PE X (.Call (.Name x p) (e::es) [] pos) (XH sp [] E t):=by
 obtain⟨f,fd,F,hm,hk,_,hb⟩:=C.ex;exact RA F hr hg hm hk hb .nil hx ha hdb he hpl
def Mi:Uh X (.builtin "isinstance") (λxs H Q=>∃x n t b,xs=[x,.ty n]/\TyOf X.K H x t/\PySem.W.kitOne X.K t (.type n)=some b/\Q (.bl b) H):=by
 intro pins s σ H xs us Q I rv h;obtain⟨x,n,t,b,rfl,ty,e,q⟩:=h;cases rv with
 |cons r rr=>
  cases rr with
  |cons r' rr'=>
   cases rr'
   obtain rfl:_=Value.type n:=r';exact MK I r ty e λtk=>⟨.bl b,H,I.tok tk,rfl,q⟩
def Bx:IxR X (λx y H Q=>rIxL X.K x y H Q\/rIxT X.K x y H Q):=ix_list.or GU
end
def FO(t u:TS):TS:=λD σ H=>∃J:L2.St->Hp->Prop,t {D with nx:=J} σ H/\∀σ' H',J σ' H'->u D σ' H'
def FC{X:Cx}{st:Stmt}{rest:List Stmt}{t u:TS}(h1:PS X st t)(h2:PSs X rest u):PSs X (st::rest) (FO t u):=by
 intro pins s σ H D I h;obtain⟨J,h,k⟩:=h;refine wpAny_execs_cons (thn (h1 pins s σ H {D with nx:=J} I h) λf s1 q=>?_)
 cases f with
 |next=>
  obtain⟨σ',H',I',q⟩:=q;exact h2 pins s1 σ' H' D I' (k σ' H' q)
 |ret v=>exact q
 |brk=>exact q
 |cont=>exact q
def Hr(K:Za)(n:String):PySem.W.kitOne K (.type n) (.type n)=some true:=by
 unfold PySem.W.kitOne;rw[Ya (by simp)]
def Uv{α β:Type}{f:α->β}{xs:List α}{i:Int}{v:α}(h:atI xs i=some v):atI (xs.map f) i=some (f v):=by
 unfold atI at h ⊢;rw[ZV];cases e:ixN xs.length i with
 |none=>rw[e]at h;cases h
 |some j=>
  rw[e]at h;have h':xs[j]?=some v:=h;show(xs.map f)[j]?=some (f v);rw[Ye,h'];rfl
def T1{α:Type}{xs:List α}{i:Int}{v:α}(h0:0<=i)(h:xs[i.toNat]?=some v):atI xs i=some v:=by
 have e:((i.toNat:Nat):Int)=i:=by omega
 have:=KI h
 rwa[e]at this
def JP{H:Hp}{a:Addr}{o:HO}(h:H a=none):Same H (upd H a o):=λb u e=>by rw[Jn (JO e h)];exact e
def Same.upd {H H':Hp}{a:Addr}{o:HO} (S:Same H H') (h:H a=none):Same H (upd H' a o):=λb u e=>by rw[Jn (JO e h)];exact S b u e
def Same.new {H H':Hp}{a:Addr}{o:HO} (S:Same H H') (h:H' a=none):Same H (L2.upd H' a o):=Own.Same.upd S (S.free h)
def IS{env:Env}(names:List (Str×NameKind))(hall:∀x∈names,x.2=.free->∃c,env.cells.lookup x.1=some c):∀cs0:List (Str×Addr),(∀x c,cs0.lookup x=some c->env.cells.lookup x=some c)->
  ∃cl:List (Str×Addr),(forIn names cs0 (λ(x:Str×NameKind) (cs:List (Str×Addr))=>if (x.2 == .free)=true then(do let c ←cellOf env x.1;pure (ForInStep.yield ((x.1,c)::cs)))else pure (ForInStep.yield cs)):Sem (List (Str×Addr)))=pure cl/\
   (∀x c,cl.lookup x=some c->env.cells.lookup x=some c)/\(∀x,(∃c,cs0.lookup x=some c)->∃c,cl.lookup x=some c)/\∀x∈names,x.2=.free->∃c,cl.lookup x.1=some c:=by
 induction names with
 |nil=>
  intro cs0 h0;exact⟨cs0,rfl,h0,λ_ h=>h,λx hx=>by cases hx⟩
 |cons y r ih=>
  intro cs0 h0;have ih':=ih λx hx=>hall x (Yq _ hx);obtain⟨n,k⟩:=y;by_cases hk:k=.free
  ·subst hk;obtain⟨c,hc⟩:=hall (n,.free) Yz rfl
   have h1:∀x d,List.lookup x ((n,c)::cs0)=some d->env.cells.lookup x=some d:=λx d e=>by
    rw[YT]at e;by_cases hx:x=n
    ·subst hx;simp at e;subst e;exact hc
    ·have:(x==n)=false:=by simpa using hx
     rw[this]at e;exact h0 x d e
   obtain⟨cl,e,p1,p2,p3⟩:=ih' ((n,c)::cs0) h1;refine⟨cl,?_,p1,λx hx=>p2 x ?_,λx hx hf=>?_⟩
   ·rw[QJ];show((if (NameKind.free==NameKind.free)=true then(do let c ←cellOf env n;pure (ForInStep.yield ((n,c)::cs0)))else pure (ForInStep.yield cs0)) >>= _)=_
    rw[Ya (show(NameKind.free==NameKind.free)=true by decide)];have ec:cellOf env n=pure c:=by unfold cellOf;rw[hc]
    rw[ec];exact e
   ·rw[YT];cases (x==n)
    ·exact hx
    ·exact⟨c,rfl⟩
   ·rcases Yh.mp hx with rfl|hx
    ·exact p2 n ⟨c,by simp[YT]⟩
    ·exact p3 x hx hf
  ·obtain⟨cl,e,p1,p2,p3⟩:=ih' cs0 h0;refine⟨cl,?_,p1,p2,λx hx hf=>?_⟩
   ·rw[QJ];have hb:(k==NameKind.free)=false:=by simpa using hk
    show((if (k==NameKind.free)=true then(do let c ←cellOf env n;pure (ForInStep.yield ((n,c)::cs0)))else pure (ForInStep.yield cs0)) >>= _)=_
    rw[ZZ (by rw[hb];decide)];exact e
   ·rcases Yh.mp hx with rfl|hx
    ·exact absurd hf hk
    ·exact p3 x hx hf
def L0{env:Env}{sc:Scope}(hall:∀x∈sc.names,x.2=.free->∃c,env.cells.lookup x.1=some c) :
  ∃cl:List (Str×Addr),closureFor sc env=pure cl/\(∀x c,cl.lookup x=some c->env.cells.lookup x=some c)/\∀x∈sc.names,x.2=.free->∃c,cl.lookup x.1=some c:=by
 obtain⟨cl,e,p1,_,p3⟩:=IS sc.names hall [] (λx c h=>by cases h);refine⟨cl,?_,p1,p3⟩;unfold closureFor;show((forIn sc.names ([]:List (Str×Addr)) (λ(x:Str×NameKind) (cs:List (Str×Addr))=>if (x.2 == .free)=true then(do let c ←cellOf env x.1;pure (ForInStep.yield ((x.1,c)::cs)))else pure (ForInStep.yield cs)):Sem (List (Str×Addr))) >>= λcs=>pure cs)=pure cl
 rw[e];rfl
def Ui(X:Cx)(N':List Str)(sc:Scope)(cl:List (Str×Addr))(C:Addr)(s₃:Shared)(H₃:Hp)(ex:List Addr):Cx:=
 {X with N:=N',s₀:=s₃,H₀:=H₃,env:=compEnvC sc cl C X.env,outer:=X.stack,ex:=ex,fn:=λ_=>false,pn:=[],xe:=λ_ _=>False}
structure CompOk (X:Cx) (N':List Str) (φ:List (Option Nat)) (sc:Scope):Prop where
 kind:sc.kind=.function
 okind:X.env.scope.kind=.function
 nocell:∀y∈sc.names,y.2≠.cell
 names:∀y∈sc.names,y.2=.local->sc.names.lookup y.1=some .local
 frees:∀y∈sc.names,y.2=.free->X.env.scope.names.lookup y.1=some .cell
 len:φ.length=N'.length
 pick:∀(i:Nat) (x:Str) (j:Nat),N'[i]?=some x->φ[i]?=some (some j)->X.N[j]?=some x/\sc.names.lookup x=some .free
def atStart(φ:List (Option Nat))(σ:L2.St):L2.St:=φ.map λo=>o.bind λj=>(σ[j]?).join
def Sub(σ σ':L2.St):Prop:=σ'.length=σ.length/\∀(i:Nat) (v:V),σ[i]?=some (some v)->σ'[i]?=some (some v)
def Sub.refl {σ:L2.St}:Sub σ σ:=⟨rfl,λ_ _ h=>h⟩
def Sub.skip {σ σ':L2.St}{x:Option V} (h:Sub σ σ'):Sub (none::σ) (x::σ'):=by
 refine⟨by simp[h.1],λi v e=>?_⟩;cases i with
 |zero=>simp at e
 |succ i=>simp at e ⊢;exact h.2 i v e
def AO{env:Env}(hk:env.scope.kind=.function):∀{names:List (Str×NameKind)}{x:Str},names.lookup x=some .free->env.scope.names.lookup x=some .cell->
  (names.map λ(n,k)=>if (k==NameKind.free&&env.scope.kind == .function&&env.kindOf n==some .cell)then(n,NameKind.cell)else(n,k)).lookup x=some .cell
 |[],_,h,_=>by simp at h
 |(n,k)::r,x,h,hc=>by
  have ih:=@AO env hk r x;show List.lookup x ((if (k==NameKind.free&&env.scope.kind == .function&&env.kindOf n==some .cell)=true then(n,NameKind.cell)else(n,k))::_)=_;cases hx:x==n with
  |true=>
   simp only[YT,hx]at h;cases h
   have e:x=n:=by simpa using hx
   subst e;have hkk:env.kindOf x=some .cell:=hc;rw[hk,hkk];simp[YT]
  |false=>
   simp only[YT,hx]at h;by_cases hcc:(k==NameKind.free&&env.scope.kind == .function&&env.kindOf n==some .cell)=true
   ·rw[Ya hcc];simp only[YT,hx];exact ih h hc
   ·rw[ZZ hcc];simp only[YT,hx];exact ih h hc
def Br{env:Env}:∀{names:List (Str×NameKind)}{x:Str}{q:NameKind},
  (names.map λ(n,k)=>if (k==NameKind.free&&env.scope.kind == .function&&env.kindOf n==some .cell)then(n,NameKind.cell)else(n,k)).lookup x=some q->∃k,(x,k)∈names/\(q=k\/k=.free)
 |[],_,_,h=>by simp at h
 |(n,k)::r,x,q,h=>by
  have ih:=@Br env r x q;have h':List.lookup x ((if (k==NameKind.free&&env.scope.kind == .function&&env.kindOf n==some .cell)=true then(n,NameKind.cell)else(n,k))::(r.map λ(n,k)=>if (k==NameKind.free&&env.scope.kind == .function&&env.kindOf n==some .cell)then(n,NameKind.cell)else(n,k)))=some q:=h;cases hx:x==n with
  |true=>
   have e:x=n:=by simpa using hx
   subst e;by_cases hcc:(k==NameKind.free&&env.scope.kind == .function&&env.kindOf x==some .cell)=true
   ·refine⟨k,Yz,.inr ?_⟩
    have:=(Y5 _ _▸(Y5 _ _▸hcc).1).1
    simpa using this
   ·rw[ZZ hcc]at h';simp[YT]at h';exact⟨k,Yz,.inl h'.symm⟩
  |false=>
   have h2:List.lookup x (r.map λ(n,k)=>if (k==NameKind.free&&env.scope.kind == .function&&env.kindOf n==some .cell)then(n,NameKind.cell)else(n,k))=some q:=by
    by_cases hcc:(k==NameKind.free&&env.scope.kind == .function&&env.kindOf n==some .cell)=true
    ·rw[Ya hcc]at h';simp only[YT,hx]at h';exact h'
    ·rw[ZZ hcc]at h';simp only[YT,hx]at h';exact h'
   obtain⟨k',hm,hq⟩:=ih h2;exact⟨k',Yq _ hm,hq⟩
def Hi{prog:Program}{w:World}{A:Around}{R:Result->Shared->Prop}{s:Shared}{elt target iter:Expr}{ifs:List Expr}{scope:Scope}{pos:Pos}{it acc:Value}{env:Env}(I:Nat->Shared->Prop)
  (turn:∀n s,I n s->wpAny (model prog w) A (pyNext it) (λr s₁=>match r with
   |none=>R (.ok .next) s₁
   |some v=>wpAny (model prog w) A (letOwnedTupleGo target it v) (λ_ s₁'=>wpAny (model prog w) A (assign target env v) (λ_ s₂=>
     wpAny (model prog w) A (forIn ifs true λc r=>if r=true then do let ok ←isTrue c env (eval c env);pure (ForInStep.yield ok)else pure (ForInStep.yield r)) (λok s₃=>
      if ok=true then wpAny (model prog w) A (eval elt env) (λx s₄=>
       wpAny (model prog w) A (call (.builtin "list.append") [acc,x]) (λ_ s₅=>∃m,m<n/\I m s₅) (λ_ _=>False) s₄) (λ_ _=>False) s₃
      else ∃m,m<n/\I m s₃) (λ_ _=>False) s₂) (λ_ _=>False) s₁') (λ_ _=>False) s₁) (λ_ _=>False) s)
  (n:Nat) (h:I n s) :
  codeAny (model prog w) A (.compLoop (.ListComp elt [⟨target,iter,ifs,0⟩] scope pos) 0 it acc env) R s:=by
 refine codeAny_loop rfl I (λn s hI=>?_) n h;show wpAny _ A ((compTurn (.ListComp elt [⟨target,iter,ifs,0⟩] scope pos) 0 it acc env).onRaise (λx=>do noteFrame x env;theTreesLotGoes x)) _ _ s
 refine wpAny_noted ?_;rw[compTurn_list];refine ZT (Qf (ZT (YB (turn n s hI) (λr s₁ h₁=>?_) λ_ _ h'=>h'.elim)));cases r with
 |none=>exact ZW h₁
 |some v=>
  refine ZT (YB h₁ (λ_ s₁' h₁'=>?_) λ_ _ h'=>h'.elim);refine ZT (YB h₁' (λ_ s₂ h₂=>ZT (YB h₂ (λok s₃ h₃=>?_) λ_ _ h'=>h'.elim)) λ_ _ h'=>h'.elim);cases ok with
  |false=>exact ZW ⟨rfl,h₃⟩
  |true=>
   exact ZT (ZT (YB h₃ (λx s₄ h₄=>ZT (YB h₄ (λ_ s₅ h₅=>ZW (ZW ⟨rfl,h₅⟩)) λ_ _ h'=>h'.elim)) λ_ _ h'=>h'.elim))
def PIfs(X:Cx)(ifs:List Expr)(t:TT):Prop:=
 ∀(pins:List (Addr×Obj)) (s:Shared) (σ:L2.St) (H:Hp) (Q:Bool->Hp->Prop),Inv X pins σ H s->t σ H Q->
  wpAny (model X.prog X.w) X.A (forIn ifs true λc r=>if r=true then do let ok ←isTrue c X.env (eval c X.env);pure (ForInStep.yield ok)else pure (ForInStep.yield r)) (TP X pins σ Q) X.xe s
def FL:TT:=λ_ H Q=>Q true H
def US{X:Cx}:PIfs X [] FL:=λ_ _ _ H _ I h=>ZW ⟨H,I,h⟩
def UD{X:Cx}{c:Expr}{t:TT}(hc:PT X c t):PIfs X [c] t:=by
 intro pins s σ H Q I h;rw[QJ];refine ZT ?_;rw[Ya rfl];exact ZT (thn (hc pins s σ H Q I h) λb s1 q=>ZW (ZW q))
def PZ(φ:List (Option Nat))(wi:TI)(g:TG)(tc:TT)(te:TE):TE:=λσ H Q=>wi σ H λJ H1=>∀D,H1 D=none->∃W:Nat->Nat->List V->Hp->Prop,(∃m,W 0 m [] (upd H1 D (.lst [])))/\
 ∀i m ys H2,W i m ys H2->(J.stop i H2/\Q (.ref D) H2)\/(J.go i H2/\∀x H3,J.yld i H2 x H3->g x (atStart φ σ) H3 λσ2 H4=>Sub (atStart φ σ) σ2/\tc σ2 H4 λb H5=>
  if b=true then te σ2 H5 λy H6=>H6 D=some (.lst ys)/\ys.length<sizeLine/\∃m',m'<m/\W (i+1) m' (ys++[y]) (upd H6 D (.lst (ys++[y])))else ∃m',m'<m/\W (i+1) m' ys H5)
def Inv.weak {X:Cx}{pins:List (Addr×Obj)}{σ σ':L2.St}{H:Hp}{s:Shared} (I:Inv X pins σ' H s) (S:Sub σ σ'):Inv X pins σ H s:=
 ⟨I.ok,I.os,I.bare,I.base,let ⟨m,hn,hl⟩:=I.loc;⟨m,hn,λi x v h1 h2 h3=>hl i x v h1 (S.2 i v h2) h3⟩,I.cell,I.free,I.freeC,I.pin,I.hok,by rw[←S.1];exact I.len⟩
def Fx{φ:List (Option Nat)}{σ:L2.St}{i:Nat}{v:V}(h:(atStart φ σ)[i]?=some (some v)):∃j,φ[i]?=some (some j)/\σ[j]?=some (some v):=by
 unfold atStart at h;rw[Ye]at h;cases e:φ[i]? with
 |none=>rw[e]at h;cases h
 |some o=>
  rw[e]at h;cases o with
  |none=>simp at h
  |some j=>
   refine⟨j,rfl,?_⟩;simp at h;cases e2:σ[j]? with
   |none=>rw[e2]at h;simp at h
   |some w=>rw[e2]at h;simp at h;rw[h]
def CompEnd(X:Cx)(pins:List (Addr×Obj))(σ:L2.St)(Q:VK)(use:Option (Value->Sem Unit))(QQ:Value->Shared->Prop):Prop:=
 ∀(D C:Addr) (H5:Hp) (s6:Shared),Q (.ref D) H5->Inv X pins σ H5 s6->(∃m,s6.heap.Ns C m)->H5 C=none->C≠X.env.locals->X.s₀.heap.objs.size<=C->(∀x c,X.env.cells.lookup x=some c->c≠C)->(∀p∈X.pn++pins,p.1≠C)->C∉X.fs->
  compPost (model X.prog X.w) X.A X.xe use QQ (.ref D) C (.ok .next) s6
def Cv{X:Cx}{N':List Str}{φ:List (Option Nat)}{sc:Scope}{elt iter tg:Expr}{ifs:List Expr}{pos pos':Pos}{wi:TI}{g:TG}{tc:TT}{te:TE}{use:Option (Value->Sem Unit)}{QQ:Value->Shared->Prop}(hcalm:X.calm=true)(S:CompOk X N' φ sc)(hi:PI X tg iter wi)(hin:∀cl C s₃ H₃ ex,PG (Ui X N' sc cl C s₃ H₃ ex) tg g/\PIfs (Ui X N' sc cl C s₃ H₃ ex) ifs tc/\PE (Ui X N' sc cl C s₃ H₃ ex) elt te)(hs:∀x,foldedSetIterable iter X.env x=pure x){pins:List (Addr×Obj)}{s:Shared}{σ:L2.St}{H:Hp}{Q:VK}(I:Inv X pins σ H s)(h:PZ φ wi g tc te σ H Q)(fin:CompEnd X pins σ Q use QQ) :
  wpAny (model X.prog X.w) X.A (comprehension (.ListComp elt [⟨tg,iter,ifs,0⟩] sc pos) sc X.env pos' (newList []) false (eval iter X.env) use) QQ X.xe s:=by
 obtain⟨cl,hcl,p1,p3⟩:=L0 (env:=X.env) (sc:=sc) λx hx hf=>I.ok.has x.1 (.inl (S.frees x hx hf));refine wpAny_comprehension_free (use:=use) rfl hs hcl S.kind S.names ?_;refine thn (hi pins s σ H _ I h) λv s1 h1=>thn h1 λitv s2 h2=>?_;obtain⟨it,fp,tn,J,H2,e,I2,T,st2,f2,hR⟩:=h2;subst e;refine YH ?_;have hf:H2 s2.heap.objs.size=none:=I2.hok.fresh (Yc _);obtain⟨W,⟨m0,w0⟩,turn⟩:=hR s2.heap.objs.size hf;generalize eD:s2.heap.objs.size=D at *
 have I3:Inv X pins σ (upd H2 D (.lst [])) {s2 with heap:=s2.heap.push {cls:=.type "list",dict:=none,data:=.seq ([]:List Value).toArray}}:=
  I2.laid (t':=s2.toks) (λb u e=>ZY _ e) (Wz eD) ⟨We _,[],0,.nil,by rw[←eD];exact Yi _ rfl⟩
 have st3:tn 0 (s2.heap.push {cls:=.type "list",dict:=none,data:=.seq ([]:List Value).toArray}):=T.keep _ _ _ st2 λb _ o e=>ZY _ e
 have hfpD:∀b∈fp,b≠D:=λb hb z=>by
  obtain⟨o,ho,_⟩:=T.obj _ _ st2 b hb
  have:=Yd ho
  rw[z,←eD]at this;exact Wh _ this
 have f3:∀b∈fp,FpOk X pins (upd H2 D (.lst [])) b:=λb hb=>⟨by rw[Jn (hfpD b hb)];exact(f2 b hb).1,(f2 b hb).2⟩;generalize es3:({s2 with heap:=s2.heap.push {cls:=.type "list",dict:=none,data:=.seq ([]:List Value).toArray}}:Shared)=s3 at *
 have st3':tn 0 s3.heap:=by rw[←es3];exact st3
 generalize eH3:upd H2 D (.lst [])=H3 at *;refine wpAny_newFunctionEnv S.nocell (by intro y hy;simp at hy) (λh₁ hns₁ hsb₁=>?_) S.kind;have hh3:s3.heap=s2.heap.push {cls:=.type "list",dict:=none,data:=.seq ([]:List Value).toArray}:=by rw[←es3]
 rw[hh3]at hns₁ hsb₁;rw[←hh3]at hns₁ hsb₁;have old:∀b o,s3.heap.get? b=some o->h₁.get? b=some o:=λb o e=>hsb₁.extBut b o (Yy (Yd e)) (ZY _ e)
 have hC0:s3.heap.get? s3.heap.objs.size=none:=by
  cases e:s3.heap.get? s3.heap.objs.size with
  |none=>rfl
  |some o=>exact absurd (Yd e) (Wh _)
 generalize eC:s3.heap.objs.size=C at *;have hH3C:H3 C=none:=I3.hok.fresh (Wz eC)
 have OK:(Ui X N' sc cl C s3 H3 fp).Ok:=by
  refine⟨I.ok.mod,?_,I.ok.glob,I.ok.blt,Wz eC,λx y c h1 h2=>I.ok.inj x y c (p1 x c h1) (p1 y c h2),?_,(λx c hx=>by cases hx),I.ok.hd,I.ok.frames,.inl rfl,?_,I3.bs,Yn I.ok.bsz I3.sz,?_,?_,I3.stack,I3.stkFree⟩
  ·exact S.kind
  ·intro x hx;have hx':(∃k,(x,k)∈sc.names/\(NameKind.cell=k\/k=.free))\/∃k,(x,k)∈sc.names/\(NameKind.free=k\/k=.free):=hx.imp Br Br
   have hfr:(x,NameKind.free)∈sc.names:=by
    rcases hx' with⟨k,hm,rfl|rfl⟩|⟨k,hm,rfl|rfl⟩
    ·exact absurd rfl (S.nocell _ hm)
    ·exact hm
    ·exact hm
    ·exact hm
   exact p3 _ hfr rfl
  ·intro b hb;refine⟨λz=>?_,λx c hx=>(f3 b hb).2.2.2.2.1 x c (p1 x c hx)⟩;obtain⟨o,ho,_⟩:=T.obj _ _ st3' b hb;have z':b=C:=z;rw[z',hC0]at ho;cases ho
  ·intro b o hb hx;obtain⟨_,_,_,q,_,_⟩:=f3 b hx;rcases q with q|q
   ·exact I.ok.noex b o hb q
   ·have:=Y3 (Yd hb) (Yn I.ok.bsz q)
    exact Wh _ this
  ·intro b hb hz;rcases Yh.mp (I.stkSub b hz)with q|q
   ·exact(f3 b hb).2.1 q
   ·exact(f3 b hb).2.2.1 q
 have hlen0:(atStart φ σ).length=N'.length:=by unfold atStart;rw[ZV];exact S.len
 have I4:Inv (Ui X N' sc cl C s3 H3 fp) [] (atStart φ σ) H3 {s3 with heap:=h₁,toks:=s3.toks+([]:List (Str×Value)).length}:=by
  refine⟨OK,rfl,I3.bare,Un.kept old,⟨_,hns₁,λi x v h1 h2 h3=>?_⟩,λx c hx=>?_,hH3C,λx c hx=>I3.freeC x c (p1 x c hx),λp hp=>?_,I3.hok.kept old,hlen0⟩
  ·obtain⟨j,hj,hv⟩:=Fx h2;obtain⟨hN,hfr⟩:=S.pick i x j h1 hj;obtain⟨m,_,hl⟩:=I3.loc;have hm:(x,NameKind.free)∈sc.names:=Ww hfr;have hcell:=S.frees _ hm rfl;obtain⟨u,ru,lk⟩:=hl j x v hN hv (.inr (.inl hcell));refine⟨u,ru,.inr ⟨.inl (AO S.okind hfr hcell),?_⟩⟩;obtain⟨c,hc⟩:=p3 _ hm rfl;rcases lk with⟨hk,_⟩|⟨_,c',hc',hcl'⟩
   ·have hk':X.env.scope.names.lookup x=some .local:=hk;rw[hcell]at hk';cases hk'
   ·have e:=p1 _ _ hc;rw[hc']at e;cases e
    obtain⟨o,ho,hd⟩:=hcl';exact⟨_,hc,o,old _ o ho,hd⟩
  ·obtain⟨v,hv⟩:=I3.cell x c (p1 x c hx);obtain⟨o,ho,hd⟩:=hv;exact⟨v,o,old _ o ho,hd⟩
  ·exact absurd hp (by simp[Ui])
 have st4:tn 0 h₁:=T.keep _ _ _ st3' λb _ o e=>old b o e
 have stat:∀{H':Hp},(∀b∈fp,H' b=none)->∀b∈fp,FpOk (Ui X N' sc cl C s3 H3 fp) [] H' b:=λhn b hb=>
  ⟨hn b hb,(OK.exf b hb).1,OK.exfs b hb,.inl hb,(OK.exf b hb).2,λp hp=>absurd hp (by simp[Ui])⟩
 obtain⟨hPG,hPI,hPE⟩:=hin cl C s3 H3 fp
 have loop:codeAny (model X.prog X.w) X.A (.compLoop (.ListComp elt [⟨tg,iter,ifs,0⟩] sc pos) 0 (.ref it) (.ref D) (compEnvC sc cl C X.env)) (compPost (model X.prog X.w) X.A X.xe use QQ (.ref D) C) {s3 with heap:=h₁,toks:=s3.toks+([]:List (Str×Value)).length}:=by
  refine Hi (λn s'=>∃i ys σ' H',Inv (Ui X N' sc cl C s3 H3 fp) [] σ' H' s'/\Sub (atStart φ σ) σ'/\tn i s'.heap/\(∀b∈fp,H' b=none)/\W i n ys H') ?_ m0 ⟨0,[],_,_,I4,Sub.refl,st4,λb hb=>(f3 b hb).1,w0⟩;rintro n s5 ⟨i,ys,σ5,H5,I5,sub5,st5,fr5,w5⟩;have I5':=Own.Inv.weak I5 sub5;rcases turn i n ys H5 w5 with⟨stop,qn⟩|⟨go,step⟩
  ·refine thn (T.done (Ui X N' sc cl C s3 H3 fp) rfl rfl rfl hcalm i [] s5 _ H5 _ I5' (stat fr5) st5 stop) λr s6 ⟨hr,I6⟩=>?_;subst hr;obtain⟨m,hn,_⟩:=I6.loc;obtain⟨hh,gg,dd,tt,oo⟩:=s6;obtain rfl:oo=s3.os:=I6.os;have R:Inv X pins σ H5 {s3 with heap:=hh,gens:=gg,drawn:=dd,toks:=tt}:=I3.call (ch:=fp) (h':=hh) (g':=gg) (d':=dd) (t':=tt) I6.base I6.hok I6.bare λb hb=>⟨(f3 b hb).2.2.2.1,(f3 b hb).2.1,(f3 b hb).2.2.2.2.1,(f3 b hb).2.2.2.2.2⟩
   have hC3:s3.heap.objs.size<=C:=Wz eC;obtain⟨q0,q1,q2,q3,q4,q5⟩:=I3.fpOk (b:=C) (H':=H3) hC3 hH3C;refine fin D C H5 _ qn R ⟨m,hn⟩ I6.free q1 (Yn I3.sz hC3) q4 q5 q2
  ·refine thn (T.item (Ui X N' sc cl C s3 H3 fp) rfl rfl rfl hcalm i [] s5 _ H5 _ I5' (stat fr5) st5 go) λr s6 ⟨u,hr,h6⟩=>?_;subst hr;refine thn h6 λ_ s7 ⟨x,H7,I7,r7,y7,st7,fr7⟩=>?_;have I7':=I7.pinned (stat fr7) (T.obj _ _ st7);refine thn (hPG _ s7 _ H7 x u _ I7' r7 (step x H7 y7)) λ_ s8 ⟨σ8,H8,I8,sub8,q8⟩=>?_;refine thn (hPI _ s8 σ8 H8 _ I8 q8) λok s9 ⟨H9,I9,q9⟩=>?_
   have again:∀{s10:Shared} {H10:Hp} {ys':List V} {m':Nat},Inv (Ui X N' sc cl C s3 H3 fp) ([]++P3 fp s7.heap) σ8 H10 s10->W (i+1) m' ys' H10->∃i ys σ' H',Inv (Ui X N' sc cl C s3 H3 fp) [] σ' H' s10/\Sub (atStart φ σ) σ'/\tn i s10.heap/\(∀b∈fp,H' b=none)/\W i m' ys H':=λ{s10 H10 ys' m'} J10 w10=>by
    refine⟨i+1,ys',σ8,H10,J10.unpinned,sub8,T.keep _ _ _ st7 λb hb o e=>(J10.pin (b,o) (Y0 _ (Y0 _ (TL hb e)))).1,λb hb=>?_,w10⟩;obtain⟨o,e,d⟩:=T.obj _ _ st7 b hb;exact(J10.pin (b,o) (Y0 _ (Y0 _ (TL hb e)))).2.1
   cases ok with
   |false=>
    obtain⟨m',hm,w'⟩:=q9;exact⟨m',hm,again I9 w'⟩
   |true=>
    refine thn (hPE _ s9 σ8 H9 _ I9 q9) λxv s10 ⟨y,H10,I10,r10,hD,hl,m',hm,w'⟩=>?_;refine thn (UU _ s10 σ8 H10 (.ref D) [y] (.ref D) [xv] (λ_ H11=>H11=upd H10 D (.lst (ys++[y]))) I10 rfl (.cons r10 .nil) ⟨D,ys,y,rfl,rfl,hD,hl,rfl⟩) λ_ s11 ⟨_,H11,I11,_,e11⟩=>?_;subst e11;exact⟨m',hm,again I11 w'⟩
 refine codeAny_compStart_list loop (T.self _ 0 _ _ _ st4 loop)
def Us{X:Cx}{N':List Str}{φ:List (Option Nat)}{sc:Scope}{elt iter tg:Expr}{ifs:List Expr}{pos:Pos}{wi:TI}{g:TG}{tc:TT}{te:TE}(hcalm:X.calm=true)(S:CompOk X N' φ sc)(hi:PI X tg iter wi)(hin:∀cl C s₃ H₃ ex,PG (Ui X N' sc cl C s₃ H₃ ex) tg g/\PIfs (Ui X N' sc cl C s₃ H₃ ex) ifs tc/\PE (Ui X N' sc cl C s₃ H₃ ex) elt te)(hs:∀x,foldedSetIterable iter X.env x=pure x:=by intro _;rfl):PE X (.ListComp elt [⟨tg,iter,ifs,0⟩] sc pos) (PZ φ wi g tc te):=by
 intro pins s σ H Q I h;rw[eval_ListComp];refine Cv (use:=none) hcalm S hi hin hs I h λD C H5 s6 q R hm c0 c1 c2 c3 c4 c5=>?_;obtain⟨m,hn⟩:=hm;exact⟨m,hn,λh' sb=>⟨.ref D,H5,R.turned (it:=C) (t':=s6.toks) (λb o hb e=>sb.extBut b o hb e) c0 c1 (.inr c2) c3 c4,rfl,q⟩⟩
def X9{X:Cx}{N':List Str}{φ:List (Option Nat)}{sc:Scope}{elt iter tg:Expr}{ifs:List Expr}{pos spos py:Pos}{wi:TI}{g:TG}{tc:TT}{te:TE}{i:Nat}{y:Str}(hN:X.N.Nodup)(hy:X.N[i]?=some y)(hl:X.env.scope.names.lookup y=some .local)(hcalm:X.calm=true)(S:CompOk X N' φ sc)(hi:PI X tg iter wi)(hin:∀cl C s₃ H₃ ex,PG (Ui X N' sc cl C s₃ H₃ ex) tg g/\PIfs (Ui X N' sc cl C s₃ H₃ ex) ifs tc/\PE (Ui X N' sc cl C s₃ H₃ ex) elt te)(hs:∀x,foldedSetIterable iter X.env x=pure x:=by intro _;rfl)(hsw:swapsWith (.ListComp elt [⟨tg,iter,ifs,0⟩] sc pos) (some (.Name y py)) spos.line X.env=pure true:=by rfl) :
  PS X (.Assign [.Name y py] (.ListComp elt [⟨tg,iter,ifs,0⟩] sc pos) spos) (tAsg (PZ φ wi g tc te) (Kr i)):=by
 intro pins s σ H D0 I h;rw[exec_Assign_Name_used _ _ _ _ hsw];refine ZT (Qf (ZT ?_));show wpAny _ X.A (do let _ ←comprehension (.ListComp elt [⟨tg,iter,ifs,0⟩] sc pos) sc X.env _ (newList []) false (eval iter X.env) (some (assign (.Name y py) X.env))) _ _ s
 refine ZT (YB (Cv (use:=some (assign (.Name y py) X.env)) (QQ:=λ_ s'=>SP X pins D0 .next s') hcalm S hi hin hs I h λD C H5 s6 q R hm c0 c1 c2 c3 c4 c5=>?_) (λ_ s' z=>ZW (ZW z)) λ_ _ e=>e);obtain⟨m,oC,es,ep,hoC,hdC,rC⟩:=hm
 have R2:Inv X (pins++[(C,oC)]) σ H5 s6:=R.pins_of λp hp=>(Yt.mp hp).elim (λz=>R.pin p (Y0 _ z)) λz=>by
  rw[ZX.mp z];exact⟨hoC,c0,c1,c5,λv e=>by rw[hdC]at e;cases e⟩
 show wpAny _ X.A (assign (.Name y py) X.env (.ref D)) _ _ _;refine wpAny_assign_Name (Ka R2 hN hy (.inl hl) (v:=.ref D) (u:=.ref D) rfl (λs7 I7=>?_) (.inr hl));have hC7:=(I7.pin (C,oC) (Y0 _ (Y0 _ (ZX.mpr rfl)))).1;refine⟨m,⟨oC,es,ep,hC7,hdC,rC⟩,λh' sb=>?_⟩;have I8:Inv X pins (σ.set i (some (.ref D))) H5 s7:=I7.unpinned;exact⟨_,H5,I8.turned (it:=C) (t':=s7.toks) (λb o hb e=>sb.extBut b o hb e) c0 c1 (.inr c2) c3 c4,q⟩
def DX(sc osc:Scope)(N N':List Str)(φ:List (Option Nat)):Bool:=
 sc.kind == .function&&osc.kind == .function&&(sc.names.all λy=>y.2 != .cell&&(y.2 != .local || sc.names.lookup y.1==some .local)&&(y.2 != .free || osc.names.lookup y.1==some .cell)) &&
  φ.length==N'.length&&((N'.zip φ).all λp=>match p.2 with|none=>true|some j=>N[j]? == some p.1&&sc.names.lookup p.1==some .free)
def CompOk.of {X:Cx}{N':List Str}{φ:List (Option Nat)}{sc:Scope} (h:DX sc X.env.scope X.N N' φ=true):CompOk X N' φ sc:=by
 unfold DX at h;simp only[Y5,beq_iff_eq,WG,Bool.or_eq_true,bne_iff_ne,ne_eq]at h;obtain⟨⟨⟨⟨h1,h2⟩,h3⟩,h4⟩,h5⟩:=h;refine⟨h1,h2,λy hy=>(h3 y hy).1.1,λy hy hl=>?_,λy hy hf=>?_,h4,λi x j hi hj=>?_⟩
 ·rcases(h3 y hy).1.2 with z|z
  ·exact absurd hl z
  ·exact z
 ·rcases(h3 y hy).2 with z|z
  ·exact absurd hf z
  ·exact z
 ·have hz:(N'.zip φ)[i]?=some (x,some j):=by rw[List.getElem?_zip_eq_some];exact⟨hi,hj⟩
  have:=h5 _ (Yv hz)
  simpa using this
end Own
namespace SetR
open PySem PySem.Spec PyProof.Rows L2
def Ris(xs:Array Nat):Prop:=∀i j,i<j->j<xs.size->xs.getD i 0<xs.getD j 0
def Dj{xs:Array Nat}{i a b:Nat}(h:i<xs.size):xs.getD i a=xs.getD i b:=by simp[Array.getD,h]
def Gn{xs:Array Nat}(R:Ris xs)(j:Nat):∀(fuel lo hi:Nat),hi-lo<=fuel->lo<=hi->hi<=xs.size->(∀k,k<lo->xs.getD k 0<j)->(∀k,hi<=k->k<xs.size->j<=xs.getD k 0)->
  let r:=SetTable.below.go xs j fuel lo hi
  r<=xs.size/\(∀k,k<r->xs.getD k 0<j)/\∀k,r<=k->k<xs.size->j<=xs.getD k 0:=by
 intro fuel
 induction fuel with
 |zero=>
  intro lo hi h1 h2 h3 h4 h5;have e:lo=hi:=by omega
  subst e;exact⟨h3,h4,h5⟩
 |succ fuel ih=>
  intro lo hi h1 h2 h3 h4 h5;show(let r:=(if lo<hi then(if xs.getD ((lo+hi) / 2) j<j then SetTable.below.go xs j fuel ((lo+hi) / 2+1) hi else SetTable.below.go xs j fuel lo ((lo+hi) / 2))else lo);r<=xs.size/\(∀k,k<r->xs.getD k 0<j)/\∀k,r<=k->k<xs.size->j<=xs.getD k 0);by_cases hl:lo<hi
  ·rw[Ya hl];have hm:(lo+hi) / 2<xs.size:=by omega
   by_cases hc:xs.getD ((lo+hi) / 2) j<j
   ·rw[Ya hc];refine ih _ _ (by omega) (by omega) h3 (λk hk=>?_) h5;rw[Dj (b:=0) hm]at hc;by_cases e:k=(lo+hi) / 2
    ·rw[e];exact hc
    ·exact WY (R k _ (by omega) hm) hc
   ·rw[ZZ hc];refine ih _ _ (by omega) (by omega) (by omega) h4 (λk hk hk2=>?_);rw[Dj (b:=0) hm]at hc;by_cases e:k=(lo+hi) / 2
    ·rw[e];omega
    ·have:=R _ k (show(lo+hi) / 2<k by omega) hk2
     omega
  ·rw[ZZ hl];have e:lo=hi:=by omega
   subst e;exact⟨h3,h4,h5⟩
def D1{xs:Array Nat}(R:Ris xs)(j:Nat):SetTable.below xs j<=xs.size/\(∀k,k<SetTable.below xs j->xs.getD k 0<j)/\∀k,SetTable.below xs j<=k->k<xs.size->j<=xs.getD k 0:=
 Gn R j xs.size 0 xs.size (by omega) (by omega) (by omega) (λk hk=>by omega) (λk h1 h2=>by omega)
def Oo{xs:Array Nat}(R:Ris xs){i:Nat}(hi:i<=xs.size){slot:Nat}(h1:∀k,k<i->xs.getD k 0<slot)(h2:∀k,i<=k->k<xs.size->slot<=xs.getD k 0):SetTable.below xs slot=i:=by
 obtain⟨a,b,c⟩:=D1 R slot;rcases Nat.lt_trichotomy (SetTable.below xs slot) i with h|h|h
 ·have:=c _ (Yc _) (by omega)
  have:=h1 _ h
  omega
 ·exact h
 ·have:=b i h
  have:=h2 i (Yc _) (by omega)
  omega
def Rise(xs:Array Nat):Prop:=xs.toList.Pairwise (· < ·)
def Rise.ris {xs:Array Nat} (h:Rise xs):Ris xs:=by
 intro i j hij hj;have hi:i<xs.size:=by omega
 have:=(YN.mp h) i j (by simpa using hi) (by simpa using hj) hij
 simpa [Array.getD,hi,hj]using this
def Ld{xs:Array Nat}{j:Nat}(h:Rise xs)(hn:xs[SetTable.below xs j]?≠some j):Rise (SetTable.insertAt xs (SetTable.below xs j) j):=by
 obtain⟨a,b,c⟩:=D1 h.ris j;generalize SetTable.below xs j=p at *;unfold Rise;rw[SetTable.toList_insertAt];refine Qe.mpr ⟨h.sublist (WU _ _),W2.mpr ⟨λy hy=>?_,h.sublist (List.drop_sublist _ _)⟩,λx hx y hy=>?_⟩
 ·obtain⟨k,hk,e⟩:=List.mem_drop_iff_getElem.mp hy
  have hk':p+k<xs.size:=by
   simp only[YE]at hk;omega
  have h1:=c (p+k) (by omega) hk';have e':xs.getD (p+k) 0=y:=by simpa [Array.getD,hk']using e
  rw[e']at h1;rcases Nat.lt_or_ge j y with h2|h2
  ·exact h2
  ·have ey:y=j:=by omega
   exfalso;rcases Nat.eq_zero_or_pos k with rfl|hk0
   ·apply hn;rw[Wa (by omega)]
    have:xs[p]=y:=by simpa using e
    rw[this,ey]
   ·have h3:=h.ris p (p+k) (by omega) hk';have h4:=c p (Yc _) (by omega);omega
 ·have hx':x<j:=by
   obtain⟨k,hk,e⟩:=List.mem_take_iff_getElem.mp hx;have hk1:k<p:=by omega
   have hk2:k<xs.size:=by omega
   have:=b k hk1
   have e':xs.getD k 0=x:=by simpa [Array.getD,hk2]using e
   omega
  rcases Yh.mp hy with rfl|hy
  ·exact hx'
  ·obtain⟨k,hk,e⟩:=List.mem_drop_iff_getElem.mp hy
   have hk':p+k<xs.size:=by
    simp only[YE]at hk;omega
   have h1:=c (p+k) (by omega) hk';have e':xs.getD (p+k) 0=y:=by simpa [Array.getD,hk']using e
   omega
structure Tb (b:Bool) (t:SetTable):Prop where
 led:t.led=b
 dum:t.dummies=#[]
 ris:Rise t.place
def Ct(j:Nat):SetTable.has #[] j=false:=by
 unfold SetTable.has;simp
def Tb.fresh (b:Bool):Tb b (.fresh 0 0 b):=⟨rfl,rfl,List.Pairwise.nil⟩
def R1(n:Nat):Rise (Array.range n):=by
 unfold Rise;rw[Array.toList_range];exact List.pairwise_lt_range
def Tb.stand {b:Bool}{t:SetTable} (h:Tb b t) (n:Nat):Tb b (t.standIn n):=⟨h.led,rfl,R1 n⟩
def Tb.orStand {b:Bool}{t:SetTable} (h:Tb b t) (n:Nat):Tb b (t.orStandIn n):=by
 unfold SetTable.orStandIn;split
 ·exact h
 ·exact h.stand n
def Tb.plainOff {b:Bool}{t:SetTable} (h:Tb b t):Tb b {t with plain:=false}:=⟨h.led,h.dum,h.ris⟩
def Tb.put {b:Bool}{t:SetTable} (h:Tb b t) {j:Nat} (hn:t.place[SetTable.below t.place j]?≠some j):Tb b (t.put j).1:=by
 refine⟨h.led,?_,Ld h.ris hn⟩;show(if SetTable.has t.dummies j=true then _ else t.dummies)=#[];rw[h.dum,Ct];rfl
def Hh{b:Bool}{t:SetTable}(h:Tb b t)(f:Nat->Int)(z:Int):∀(fuel:Nat) (p:SetTable.Probe) (j:Nat) (d:Option Nat),p.dummy=none->SetTable.probe.go t f z fuel p=some (.empty j d)->d=none/\t.place[SetTable.below t.place j]?≠some j:=by
 intro fuel
 induction fuel with
 |zero=>intro p j d _ e;cases e
 |succ fuel ih=>
  intro p j d hp e;unfold SetTable.probe.go at e
  have hadv:∀q:SetTable.Probe,q.dummy=none->(t.advance q).dummy=none:=λq hq=>by
   unfold SetTable.advance;split
   ·exact hq
   ·exact hq
  cases es:t.slot p.j with
  |empty=>
   rw[es]at e;have e':=Yf e;injection e' with e1 e2;subst e1;refine⟨e2.symm.trans hp,λhz=>?_⟩;unfold SetTable.slot at es
   dsimp only at es
   rw[hz]at es;simp at es
  |dummy=>
   exfalso;unfold SetTable.slot at es
   dsimp only at es
   split at es
   ·cases es
   ·rw[h.dum,Ct]at es;simp at es
  |live i=>
   rw[es]at e
   dsimp only at e
   split at e
   ·cases e
   ·exact ih _ j d (hadv p hp) e
def Tb.layNew {b:Bool}{t:SetTable} (h:Tb b t) (es:Array (Int×Value)) (z:Int) (x:Value):Tb b (PySem.layNew t es z x).2.1:=by
 unfold PySem.layNew;split
 ·rename_i slot wasDummy e
  have hn:t.place[SetTable.below t.place slot]?≠some slot:=by
   unfold SetTable.freeSlot SetTable.probe at e;split at e
   ·rename_i j dummy e';obtain⟨h1,h2⟩:=Hh h _ _ _ _ _ _ rfl e';subst h1
    have:=Yf e
    have hj:j=slot:=YD Prod.fst this;rw[←hj];exact h2
   ·cases e
  exact(h.put hn).orStand _
 ·exact h.stand _
def Hu(n:Nat)(f:Nat->Option Nat):((List.range n).filterMap λj=>(f j).map (j,·)).Pairwise (λa b=>a.1<b.1):=by
 refine List.Pairwise.filterMap _ ?_ List.pairwise_lt_range;intro a a' haa b hb b' hb';cases e:f a with
 |none=>rw[e]at hb;cases hb
 |some v=>
  cases e':f a' with
  |none=>rw[e']at hb';cases hb'
  |some v'=>
   rw[e]at hb;rw[e']at hb';cases hb
   cases hb'
   exact haa
def Tb.relayAll {b:Bool}{t:SetTable} (h:Tb b t) (es:Array (Int×Value)) (n:Nat):Tb b (PySem.relayAll t es n).2.1:=by
 unfold PySem.relayAll;split
 ·rename_i t' order e
  dsimp only
  split
  ·unfold SetTable.relaid SetTable.laid at e;cases e2:SetTable.layClean (SetTable.sizeAbove n-1) (es.map (·.1))with
   |none=>rw[e2]at e;cases e
   |some owner=>
    rw[e2]at e;have e':=YD Prod.fst (Yf e);subst e';refine⟨h.led,rfl,?_⟩;show(List.map (λx:Nat×Nat=>x.fst) ((List.range (SetTable.sizeAbove n-1+1)).filterMap λj=>(owner.getD j none).map (j,·))).toArray.toList.Pairwise (· < ·);rw[List.toList_toArray,List.pairwise_map];exact Hu _ _
  ·exact h.stand _
 ·exact h.stand _
def keyOf(e:Int×Value):Int:=match e.2 with
 | .int k _=>k
 |_=>0
def Ent(e:Int×Value):Prop:=∃(k:Int) (t:Tok),e=(hashInt k,.int k t)
section
variable (prog:Program) (w:World)
def UC(w:World):Bool:=w.params.followText "set-order"
structure SetAt (h:Heap) (a:Addr) (js:List Int) (es:Array (Int×Value)) (ep:Nat) (t:SetTable):Prop where
 obj:∃o,h.get? a=some o/\o.ExactSet/\o.data=.set es ep t
 ent:∀e∈es.toList,Ent e
 per:(es.toList.map keyOf).Perm js
 nod:js.Nodup
 few:es.size<scanBound
 fit:t.fits es.size=true
 tab:Tb (!UC w) t
def SetB(h:Heap)(a:Addr)(js:List Int):Prop:=∃es ep t,SetAt w h a js es ep t
end
section
variable {prog:Program}{w:World}{A:Around}{E:Value->Shared->Prop}{s:Shared}
def Ent.elems {l:List (Int×Value)} (h:∀e∈l,Ent e):ElemsOf (intKind prog w) l:=λe he=>by
 obtain⟨k,t,rfl⟩:=h e he;exact⟨⟨k,intKind_is _ _ _ _,rfl⟩,rfl⟩
def Ak{e:Int×Value}(h:Ent e)(k:Int):(intKind prog w).is k e.2=decide (k=keyOf e):=by
 obtain⟨k',t,rfl⟩:=h;show Value.isInt k (.int k' t)=decide (k=k');by_cases e:k=k'
 ·subst e;simp[Value.isInt]
 ·rw[Ym e];simp[Value.isInt];exact λz=>e z.symm
def SetB.len {h:Heap}{a:Addr}{js:List Int}{es:Array (Int×Value)}{ep:Nat}{t:SetTable} (S:SetAt w h a js es ep t):es.size=js.length:=by
 have:=S.per.length_eq
 simpa using this
def SetB.at {h h':Heap}{a:Addr}{js:List Int} (S:SetB w h a js) (k:∀o,h.get? a=some o->h'.get? a=some o):SetB w h' a js:=by
 obtain⟨es,ep,t,⟨o,ho,r⟩,b,c,d,e,f,g⟩:=S;exact⟨es,ep,t,⟨o,k o ho,r⟩,b,c,d,e,f,g⟩
def SetAt.store {h:Heap}{a:Addr}{js js':List Int}{es es':Array (Int×Value)}{ep:Nat}{t t':SetTable} (S:SetAt w h a js es ep t) (h1:∀e∈es'.toList,Ent e) (h2:(es'.toList.map keyOf).Perm js') (h3:js'.Nodup) (h4:es'.size<scanBound)
  (h5:t'.fits es'.size=true) (h6:Tb (!UC w) t'):SetAt w (h.update a (Obj.putSet es' t')) a js' es' (ep+1) t':=by
 obtain⟨o,ho,hx,hd⟩:=S.obj;refine⟨⟨{o with data:=.set es' (ep+1) t'},?_,hx,rfl⟩,h1,h2,h3,h4,h5,h6⟩
 have q:=YK (Obj.putSet es' t') ho (by rw[putSet_of es' t' hd];rfl);rwa[putSet_of es' t' hd]at q
def AV{g:Bool->Sem Unit}(hg:∀(b:Bool) (s':Shared) (R':Unit->Shared->Prop),R' () s'->wpAny (model prog w) A (g b) R' E s'){a:Addr}{js js':List Int}{es es':Array (Int×Value)}{ep:Nat}{t t':SetTable}(S:SetAt w s.heap a js es ep t)(h1:∀e∈es'.toList,Ent e)(h2:(es'.toList.map keyOf).Perm js')(h3:js'.Nodup)(h4:es'.size<scanBound)(h5:t'.fits es'.size=true)(h6:Tb (!UC w) t'){d:Bool}{R:Option Bool->Shared->Prop}(fin:∀h',Heap.SameBut a s.heap h'->SetB w h' a js'->R (some true) {s with heap:=h'}) :
  wpAny (model prog w) A (do
    storeSet a es' t'
    if (!d&&t'.tooFull)=true then do
      g (relayAll t' es' (SetTable.grown es'.size)).2.2
      storeSet a (relayAll t' es' (SetTable.grown es'.size)).1 (relayAll t' es' (SetTable.grown es'.size)).2.1
      pure (some true)
     else pure (some true)) R E s:=by
 obtain⟨o,ho,hx,hd⟩:=S.obj;have S1:=S.store h1 h2 h3 h4 h5 h6;obtain⟨o1,ho1,hx1,hd1⟩:=S1.obj;have B1:=YU s.heap a (Obj.putSet es' t');refine ZT (wpAny_storeSet_of ho hd ?_ (Qx h4));split
 ·have pp:=relayAll_perm t' es' (SetTable.grown es'.size);have ff:=relayAll_fits t' es' (SetTable.grown es'.size);have tt:=h6.relayAll es' (SetTable.grown es'.size);generalize relayAll t' es' (SetTable.grown es'.size)=y at pp ff tt ⊢;obtain⟨es2,t2,g2⟩:=y
  dsimp only at pp ff tt ⊢
  have z:es2.size=es'.size:=by rw[←YE,pp.length_eq,YE]
  refine ZT (hg _ _ _ (ZT (wpAny_storeSet_of ho1 hd1 ?_ (Qx (by rw[z];exact h4)))));exact ZW (fin _ (B1.trans (YU _ a _)) ⟨_,_,_,S1.store (λe he=>h1 e (pp.mem_iff.mp he)) ((pp.map keyOf).trans h2) h3 (by rw[z];exact h4) ff tt⟩)
 ·exact ZW (fin _ B1 ⟨_,_,_,S1⟩)
def addJ(js:List Int)(k:Int):List Int:=if k∈js then js else js++[k]
def Of{a:Addr}{js:List Int}{k:Int}{tk:Tok}{R:Bool->Shared->Prop}(S:SetB w s.heap a js)(room:js.length+1<scanBound)(fin:∀(r:Bool) h',Heap.SameBut a s.heap h'->SetB w h' a (addJ js k)->R r {s with heap:=h'}) :
  wpAny (model prog w) A (setAddHashed a (.int k tk) (hashInt k)) R E s:=by
 obtain⟨es,ep,t,S⟩:=S;obtain⟨o,ho,hx,hd⟩:=S.obj;have el:=Ent.elems (prog:=prog) (w:=w) S.ent;have hz:es.size=js.length:=SetB.len S;unfold setAddHashed setAddHashedIn;refine Ws (ZT (W9 ho hd S.fit ?_))
 dsimp only
 rw[byScan_of (x:=.int k tk) rfl S.few el];simp only[↓reduceIte];unfold setAddByScan;refine ZT (ZT (wpAny_rule (ZT (wpAny_setScan_of (knd:=intKind prog w) (k:=k) (intKind_is _ _ _ _) ho hd S.fit el ?_))));have mem:∀z:Int,z∈js↔∃e∈es.toList,keyOf e=z:=λz=>by rw[←S.per.mem_iff,Y4]
 cases q:List.findIdx? (λe=>(intKind prog w).is k e.2) es.toList with
 |some j=>
  dsimp only
  obtain⟨hj,pj,_⟩:=List.findIdx?_eq_some_iff_getElem.mp q
  have hk:k∈js:=by
   rw[Ak (S.ent _ (Yr hj))]at pj;exact(mem k).mpr ⟨_,Yr hj,(Yg pj).symm⟩
  refine ZW (ZW ?_);have f:=fin false s.heap (Heap.SameBut.refl a s.heap);unfold addJ at f;rw[Ya hk]at f;exact f ⟨_,_,_,S⟩
 |none=>
  dsimp only
  have hk:¬k∈js:=λhz=>by
   obtain⟨e,he,hke⟩:=(mem k).mp hz
   have:=List.findIdx?_eq_none_iff.mp q e he
   rw[Ak (S.ent e he),Yb hke.symm]at this;cases this
  have P:=layNew_perm t es (hashInt k) (.int k tk);have F:=layNew_fits t es (hashInt k) (.int k tk);have T:=S.tab.layNew es (hashInt k) (.int k tk);change wpAny (model prog w) A (match layNew t es (hashInt k) (.int k tk)with|(es,t,wasDummy,gave)=>_) _ _ _
  generalize layNew t es (hashInt k) (.int k tk)=y at P F T ⊢;obtain⟨es1,t1,d1,g1⟩:=y
  dsimp only at P F T ⊢
  rw[Array.toList_push]at P
  have e1:∀e∈es1.toList,Ent e:=λe he=>by
   rcases Yt.mp (P.mem_iff.mp he)with he|he
   ·exact S.ent e he
   ·rw[ZX.mp he];exact⟨k,tk,rfl⟩
  have e2:(es1.toList.map keyOf).Perm (js++[k]):=by
   refine(P.map keyOf).trans ?_;rw[Yu];exact S.per.append_right _
  have e3:(js++[k]).Nodup:=YV.mpr ⟨S.nod,by simp,λx hx y hy=>by rw[ZX.mp hy];rintro rfl;exact hk hx⟩
  have e4:es1.size<scanBound:=by
   rw[←YE,P.length_eq,Yl,YE,hz];exact room
  have fin':∀h',Heap.SameBut a s.heap h'->SetB w h' a (js++[k])->R true {s with heap:=h'}:=λh' sb q'=>by
   have f:=fin true h' sb;unfold addJ at f;rw[ZZ hk]at f;exact f q'
  have gw:∀(b:Bool) {s':Shared} {R':Unit->Shared->Prop},R' () s'->wpAny (model prog w) A (match b with|true=>rule "set.scan.the-table-gave-way" |false=>pure ()) R' E s':=λb s' R' r'=>by cases b<;>first|exact ZW r'|exact wpAny_rule r'
  refine ZT (gw _ ?_);split
  ·refine ZT ?_;rw[hashByValue_scannable 8 (x:=.int k tk) rfl];refine ZW (AV (λb s' R' r'=>gw b r') S e1 e2 e3 e4 ?_ ?_ λh' sb q'=>ZW (fin' h' sb q'))
   ·split
    ·exact F
    ·exact SetTable.fits_plain_off F
   ·split
    ·exact T
    ·exact T.plainOff
  ·refine ZT (ZW ?_);simp only[↓reduceIte];exact AV (λb s' R' r'=>gw b r') S e1 e2 e3 e4 F T λh' sb q'=>ZW (fin' h' sb q')
def HF{R:Result->Shared->Prop}{I:Addr}{fp wr:List Addr}{P:Nat->Value->Prop}{St:Nat->Heap->Prop}{ns:List Int}(W:Walks prog w A.in1 I fp wr ns.length P St)(S:Addr)(hS:S∉fp)(hv:∀i v,P i v->∃t,v=.int (ns.getD i 0) t)(room:ns.length+1<scanBound):∀(k i:Nat) (s:Shared) (js:List Int),ns.length-i=k->i<=ns.length->St i s.heap->SetB w s.heap S js->js.length<=i->
   (∀h' tk,(∀b o,b∉S::wr->s.heap.get? b=some o->h'.get? b=some o)->SetB w h' S ((ns.drop i).foldl addJ js)->R (.ok (.ret .none)) {s with heap:=h',toks:=tk})->
   codeAny (model prog w) A (.builtin "set.update.loop" ⟨[.ref S,.ref I],[]⟩) R s:=by
 have hSw:S∉wr:=λz=>hS (W.sub _ z);intro k
 induction k with
 |zero=>
  intro i s js hk hi st B hj fin;have ei:i=ns.length:=by omega
  refine WO Qn ?_;rw[WD W3 _];show wpAny _ A.in1 (pyNext (.ref I) >>= _) _ _ s;refine ZT (W.done s _ _ (ei▸st) λh' tk keep=>?_);show wpAny _ A.in1 (ret Value.none) _ _ _;refine ZW (fin h' tk (λb o hb e=>keep b o (λz=>hb (Yq _ z)) e) ?_);rw[ei,List.drop_length];exact B.at λo e=>keep S o hSw e
 |succ k ih=>
  intro i s js hk hi st B hj fin;have hlt:i<ns.length:=by omega
  refine WO Qn ?_;rw[WD W3 _];show wpAny _ A.in1 (pyNext (.ref I) >>= _) _ _ s;refine ZT (W.item i s _ _ hlt st λv h1 tk1 pv st1 keep1=>?_);obtain⟨t,rfl⟩:=hv i v pv;have B1:SetB w h1 S js:=B.at λo e=>keep1 S o hSw e;show wpAny _ A.in1 (holding [Value.int (ns.getD i 0) t] (setAdd S (.int (ns.getD i 0) t)) >>= _) _ _ _;unfold setAdd;refine ZT (Ws (Ws (ZT ((intKind prog w).pyHash (k:=ns.getD i 0) (intKind_is _ _ _ _) ?_))));refine Of (k:=ns.getD i 0) B1 (by omega) λr h2 sb B2=>?_
  have el:(addJ js (ns.getD i 0)).length<=i+1:=by
   unfold addJ;split
   ·omega
   ·simp;omega
  refine ZW ⟨Q6 W3 _,ih (i+1) _ _ (by omega) hlt (W.frame _ h1 _ st1 λb hb o e=>?_) B2 el λh' tk keep B'=>?_⟩
  ·rw[sb.2 b (λz:b=S=>hS (by rw[←z];exact hb))];exact e
  ·refine fin h' tk (λb o hb e=>keep b o hb ?_) ?_
   ·rw[sb.2 b (λz:b=S=>hb (by rw[z];exact Yz))];exact keep1 b o (λz=>hb (Yq _ z)) e
   ·have e1:ns.drop i=ns.getD i 0::ns.drop (i+1):=by
     rw[Qi hlt,Yp,ZU hlt];rfl
    rw[e1];exact B'
def O4(a:Value){Q:Value->Shared->Prop}(fin:Q (.ref s.heap.objs.size) {s with heap:=s.heap.push {cls:=.type "set",dict:=none,data:=.set #[] 0 (.fresh 0 0 (!UC w))}}) :
  codeAny (model prog w) A (.call (.builtin "set.__new__") ⟨[.type "set",a],[]⟩) (wants Q E) s:=by
 refine codeAny_of_tree (show wpAny _ A.in1 (do checkBuiltinCall "set.__new__" ⟨[.type "set",a],[]⟩;again (.builtin "set.__new__" ⟨[.type "set",a],[]⟩)) _ _ s from ?_)
 refine ZT (wpAny_of_eq (F.newCall_set_1 a) (ZW ⟨Q6 F.plain_set_new _,WO F.entry_set_new ?_⟩));have und:=WD (A:=A) F.plain_set_new ⟨[.type "set",a],[]⟩;rw[und];unfold Builtin.«set.__new__» Builtin.Frozenset.newClass;have q1:=sub_set_self;obtain⟨hh,gg,dd,tt,oo⟩:=s
 dsimp only
 wp_walk
 refine wpAny_askSetting (ZW (show wpAny _ _ _ _ _ _ from ?_))
 dsimp only
 simp only[newObj];exact ZT (wpAny_alloc (ZW (ZW fin)))
set_option maxHeartbeats 4000000 in
def O2{l:Addr}{its:Array Value}{ns:List Int}{Q:Value->Shared->Prop}(hh:A.handled=none)(hl:s.heap.IsList l its)(hi:IntsAre its.toList ns)(room:ns.length+1<scanBound)(fin:∀(h':Heap) (tk:Nat),SetB w h' s.heap.objs.size (ns.foldl addJ [])->(∀b o,b<s.heap.objs.size->s.heap.get? b=some o->h'.get? b=some o)->Q (.ref s.heap.objs.size) {s with heap:=h',toks:=tk}) :
  wpAny (model prog w) A (call (.type "set") [.ref l]) Q E s:=by
 have hn:its.size=ns.length:=by have:=IntsAre.length hi;simpa using this
 obtain⟨mroC,mroT,mro⟩:=F.called_set.mro;have made:=F.called_set.made;have subs:=F.called_set.sub;refine QG (codeAny_of_tree (show wpAny _ _ (callAny (.type "set") _) _ _ _ from ?_))
 refine ZW ⟨Code.quiet_builtin _ (by decide +kernel),WO F.entry_type_call ?_⟩;have wt:=Around.under_plain (A:=A) (weight_type_call_type "set" [.ref l] []) rfl;rw[wt];have nt:=F.called_set.notType;have cc:=F.called_set.canCreate;have tc:=F.typeCall_set_1 (.ref l)
 repeat (any_goals (first|assumption|wp_step))
 refine W1 (O4 (.ref l) (E:=E) (Q:=λobj s1=>obj=.ref s.heap.objs.size/\s1={s with heap:=s.heap.push {cls:=.type "set",dict:=none,data:=.set #[] 0 (.fresh 0 0 (!UC w))}}) ⟨rfl,rfl⟩) λr s1 hr=>?_
 cases r with
 |error e=>exact hr
 |ok fl=>
  cases fl with
  |next=>exact hr.elim
  |brk=>exact hr.elim
  |cont=>exact hr.elim
  |ret obj=>
   obtain⟨rfl,rfl⟩:=hr;generalize eH:s.heap.push {cls:=.type "set",dict:=none,data:=.set #[] 0 (.fresh 0 0 (!UC w))}=H1;have g1:H1.get? s.heap.objs.size=some {cls:=.type "set",dict:=none,data:=.set #[] 0 (.fresh 0 0 (!UC w))}:=by rw[←eH];exact Yi _ rfl
   have hT:Shared.TypeIs {s with heap:=H1} (.ref s.heap.objs.size) "set":=⟨_,g1,rfl⟩
   have ini:=F.called_set.init.lookup;have inb:=F.called_set.init.bind (.ref s.heap.objs.size)
   repeat (any_goals (first|assumption|wp_step))
   refine W1 (QK (R:=wants (λr s2=>r=.none/\∃h' tk,s2={s with heap:=h',toks:=tk}/\SetB w h' s.heap.objs.size (ns.foldl addJ [])/\(∀b o,b<s.heap.objs.size->s.heap.get? b=some o->h'.get? b=some o)) E)
    F.called_set.init.plain F.entry_set_init (check_set_init_1 hT ?_)) λr2 s2 hr2=>?_
   ·obtain⟨ob,hob,hcl,nl,hdl⟩:=hl;obtain⟨c1,d1,dt1,sl1⟩:=ob;simp only at hcl hdl;subst hcl;subst hdl;have hob1:H1.get? l=some {cls:=.type "list",dict:=d1,data:=.seq its nl,slots:=sl1}:=by rw[←eH];exact ZY _ hob
    have sz1:H1.objs.size=s.heap.objs.size+1:=by rw[←eH,WW]
    have no1:=F.sub_list_set;have no2:=F.sub_list_frozenset;have no3:(Value.type "list" == Value.type "dict")=false:=by decide
    have L1:H1.IsList l its:=⟨_,hob1,rfl,nl,rfl⟩;unfold Builtin.«set.__init__» noKeywords Builtin.Frozenset.updateFrom;generalize eP:pyIter=PI
    wp_walk
    subst eP;refine wpAny_pyIter_list L1 (ZT (wpAny_runValue ?_));have lt1:l<s.heap.objs.size:=Yd hob;have hd3:A.in1.in1.in1.handled=none:=by simp[hh]
    have ne1:l≠H1.objs.size:=by rw[sz1];exact Yy (Qy lt1)
    have no4:s.heap.objs.size∉[H1.objs.size,l]:=by
     rw[sz1];simp only[Yh,QB,or_false,not_or];exact⟨Yy (Q8 _),Vh lt1⟩
    have W0:=Walks.list (prog:=prog) (w:=w) hd3 H1.objs.size l ne1 its;rw[hn]at W0;refine HF (ns:=ns) W0 s.heap.objs.size no4 (λi v hv=>IntsAre.int_at hi i v (by rw[Wb];exact hv)) room (ns.length-0) 0 _ [] rfl (We _) ⟨⟨_,Yi _ rfl,rfl,rfl⟩,L1.push _⟩ ?_ (We _) λh' tk keep B=>?_
    ·exact⟨#[],0,_,⟨_,ZY _ g1,⟨rfl,rfl,rfl⟩,rfl⟩,λe he=>by simp at he,by simp,Wx,by show(0:Nat)<4096;decide,rfl,Tb.fresh _⟩
    ·show wpAny _ _ _ _ _ _;refine ZW (show wpAny _ _ (ret Value.none) _ _ _ from ZW ⟨rfl,h',tk,rfl,B,λb o hb e=>?_⟩)
     refine keep b o ?_ (ZY _ (by rw[←eH];exact ZY _ e));rw[sz1];simp only[Yh,QB,or_false,not_or];exact⟨Yy hb,Yy (Qy hb)⟩
   ·cases r2 with
    |error e=>exact hr2
    |ok f2=>
     cases f2 with
     |next=>exact hr2.elim
     |brk=>exact hr2.elim
     |cont=>exact hr2.elim
     |ret r=>
      obtain⟨rfl,h',tk,rfl,B,keep⟩:=hr2
      repeat (any_goals (first|assumption|wp_step))
      exact fin _ _ B keep
end
def si_slot:Slot "set_iterator" "__next__" "set_iterator.__next__":=
 Slot.of (owner:="set_iterator") (n:="__next__") (by rw[typeLookup_type,builtinLookup_eq_fast];kernel_rfl) (by decide +kernel) (by decide +kernel) (by decide +kernel)
  (by first|exact Or.inl (by decide +kernel)|exact Or.inr (by decide +kernel)) (by rw[isSubtype_type];kernel_rfl)
def LF:entryFor table "set_iterator.__next__"=some Builtin.«set_iterator.__next__»:=entryFor_of_tree (by kernel_rfl)
def Gp(a:Value):argsOk "set_iterator.__next__" ⟨[a],[]⟩:=by unfold argsOk;kernel_rfl
def HL:entryFor table "set.__iter__"=some Builtin.«frozenset.__iter__»:=entryFor_alias (id':="frozenset.__iter__") (by kernel_rfl) rfl (by decide +kernel) (by kernel_rfl)
def Cm:Slot "set_iterator" "__iter__" "set_iterator.__iter__":=
 Slot.of (owner:="set_iterator") (n:="__iter__") (by rw[typeLookup_type,builtinLookup_eq_fast];kernel_rfl) (by decide +kernel) (by decide +kernel) (by decide +kernel)
  (by first|exact Or.inl (by decide +kernel)|exact Or.inr (by decide +kernel)) (by rw[isSubtype_type];kernel_rfl)
def EW:entryFor table "set_iterator.__iter__"=some Builtin.«dict_keyiterator.__iter__»:=entryFor_alias (id':="dict_keyiterator.__iter__") (by kernel_rfl) rfl (by decide +kernel) (by kernel_rfl)
def Gf(a:Value):argsOk "set_iterator.__iter__" ⟨[a],[]⟩:=by unfold argsOk;kernel_rfl
def SI(h:Heap)(I a:Addr)(first:Value)(i n ep:Nat):Prop:=∃o,h.get? I=some o/\o.cls=.type "set_iterator"/\o.data=.fields #[first,.int i 0,.ref a,.int n 0,.int ep 0]
section
variable {prog:Program}{w:World}{A:Around}{E:Value->Shared->Prop}{s:Shared}{I a:Addr}{first:Value}{i n ep:Nat}{js:List Int}{es:Array (Int×Value)}{t:SetTable}
def SI.typ (h:SI s.heap I a first i n ep):s.TypeIs (.ref I) "set_iterator":=let ⟨o,ho,hc,_⟩:=h;⟨o,ho,hc⟩
def SI.at {h h':Heap} (x:SI h I a first i n ep) (k:∀o,h.get? I=some o->h'.get? I=some o):SI h' I a first i n ep:=let ⟨o,ho,r⟩:=x;⟨o,k o ho,r⟩
def Kz(first:Value)(a I:Addr)(i ep:Int):Sem PySem.Fin:=
 match first with
 |Value.int slot _=>do
  match ←setNext a slot.toNat i.toNat ep.toNat with
  |some (x,next)=>
   setField (.ref I) 0 (rawInt next)
   setField (.ref I) 1 (rawInt (i+1))
   ret x
  |none=>
   setField (.ref I) 2 .none
   raiseNew (←newExc (.type "StopIteration") [])
 |_=>do
  let some places ←seqItems? first|unsupported "internal:set_iterator"
  match places[i.toNat]? with
  |some (.int place _)=>
   let x ←setNextDrawn a place.toNat ep.toNat
   setField (.ref I) 1 (rawInt (i+1))
   ret x
  |some _=>unsupported "internal:set_iterator"
  |none=>
   setField (.ref I) 0 (rawInt 0)
   setField (.ref I) 2 .none
   raiseNew (←newExc (.type "StopIteration") [])
def PJ{Q:Option Value->Shared->Prop}(hit:SI s.heap I a first i es.size ep)(S:SetAt w s.heap a js es ep t)
  (body:wpAny (model prog w) A.in1 (Kz first a I i ep) (λfin s'=>∃v,fin=.done (.ret v)/\Q (some v) s')
   (λe s'=>wpAny (model prog w) A (isInstance e (.type "StopIteration")) (λb s''=>b=true/\Q none s'') E s') s) :
  wpAny (model prog w) A (pyNext (.ref I)) Q E s:=by
 obtain⟨o,ho,hc,hd⟩:=id hit;obtain⟨ob,hob,hx,hdd⟩:=S.obj;unfold pyNext;refine ZT (wpAny_attempt (Qv (name:=Str.ofString "__next__") hit.typ si_slot (Wy si_slot hit.typ LF ?_ (Gp _))));unfold Builtin.«set_iterator.__next__»;refine ZT (ZW (ZT (wpAny_fieldsOf ho hd ?_)));show wpAny _ _ (setEntries a >>= λx=>if ((x.size:Int) != (es.size:Int))=true then _ else Kz first a I i ep) _ _ s
 refine ZT (wpAny_setEntries_of hob hdd S.fit ?_);rw[ZZ (by simp)];refine YB body (λfin s' h=>?_) λe s' h=>?_
 ·obtain⟨v,e,q⟩:=h;exact⟨v,e,ZW q⟩
 ·refine ZT (YB h (λb s'' h2=>?_) λ_ _ z=>z);obtain⟨rfl,q⟩:=h2;exact ZW q
def AR{Q:Option Value->Shared->Prop}{o:Obj}{vs:Array Value}(hh:A.handled=none)(ho:s.heap.get? I=some o)(hd:o.data=.fields vs)(h2:2<vs.size)(fin:∀h',Heap.ExtBut I s.heap h'->Q none {s with heap:=h'}){R:PySem.Fin->Shared->Prop} :
  wpAny (model prog w) A.in1 (do setField (.ref I) 2 .none;raiseNew (←newExc (.type "StopIteration") [])) R (λe s'=>wpAny (model prog w) A (isInstance e (.type "StopIteration")) (λb s''=>b=true/\Q none s'') E s') s:=by
 refine ZT (Wk ho hd h2 (ZT ?_));simp only[newExc,newTuple];refine ZT (YH ?_ (by size_fits));refine ZT (m:=firstArgMember _ _) (wpAny_of_eq (a:=Value.none) (by first|rfl|(simp only[firstArgMember];rfl)) (YH ?_ (by size_fits)))
 simp only[raiseNew];refine ZT (wpAny_handled ?_);have e1:A.in1.handled=none:=hh;rw[e1];refine ZT (ZW (wpAny_throw ?_));refine wpAny_isInstance (T:="StopIteration") (b:=true) ⟨_,Yi _ rfl,rfl⟩ isSubtype_stop ?_;exact⟨rfl,fin _ (((YU ..).extBut.push _).push _)⟩
def SI.step1 {o:Obj}{x:Value} (ho:s.heap.get? I=some o) (hc:o.cls=.type "set_iterator") (hd:o.data=.fields #[first,.int i 0,.ref a,.int n 0,.int ep 0]) :
  SI (s.heap.update I (Obj.mapFields (·.setIfInBounds 1 (rawInt ((i:Int)+1))))) I a first (i+1) n ep:=
 ⟨_,YK _ ho (Wl (YR hd _)),(Qz ..).trans hc,by rw[YR hd];simp[rawInt]⟩
def PY{Q:Bool->Shared->Prop}(h:Q (UC w) s):wpAny (model prog w) A setsByText Q E s:=by
 unfold setsByText;exact ZT (wpAny_askSetting (ZW h))
def GE{Q:Option (Value×Nat)->Shared->Prop}{slot:Nat}(S:SetAt w s.heap a js es ep t)(hb:UC w=true)(h:Q (((pickOrder (w.params.setOrder a ep) es)[i]?).map λe=>(e.2,slot)) s) :
  wpAny (model prog w) A (setNext a slot i ep) Q E s:=by
 obtain⟨ob,hob,hx,hdd⟩:=S.obj;unfold setNext;refine ZT (W9 hob hdd S.fit (ZT (PY ?_)));rw[hb,Ya rfl]
 dsimp only
 rw[ZZ (by simp)];refine ZT ?_;unfold setWalk;refine ZT (W9 hob hdd S.fit (ZT (PY ?_)));rw[hb,Ya rfl];exact ZT (wpAny_askSetting (ZW (ZW h)))
def La{Q:Option (Value×Nat)->Shared->Prop}{slot:Nat}(S:SetAt w s.heap a js es ep t)(hb:UC w=false)(hp:(!t.plain&&decide (es.size>1))=false)(h:Q (match es[SetTable.below t.place slot]?,t.place[SetTable.below t.place slot]? with|some (_,x),some j=>some (x,j+1)|_,_=>none) s):wpAny (model prog w) A (setNext a slot i ep) Q E s:=by
 obtain⟨ob,hob,hx,hdd⟩:=S.obj;unfold setNext;refine ZT (W9 hob hdd S.fit (ZT (PY ?_)));rw[hb,ZZ (by decide)]
 dsimp only
 show wpAny _ _ (if (!t.plain&&decide (es.size>1))=true then _ else _) _ _ _;rw[hp,ZZ (by decide)];refine ZT (?_:wpAny _ _ (if (!t.led && !es.isEmpty)=true then unsupported "set:maker-not-led" else pure ()) _ _ _);have hl:t.led=true:=by rw[S.tab.led,hb];rfl
 rw[hl,ZZ (by simp)];exact ZW (ZW h)
def LR{Q:Value->Shared->Prop}{p:Nat}{e:Int×Value}(S:SetAt w s.heap a js es ep t)(he:es[p]?=some e)(h:Q e.2 s):wpAny (model prog w) A (setNextDrawn a p ep) Q E s:=by
 obtain⟨ob,hob,hx,hdd⟩:=S.obj;unfold setNextDrawn;refine ZT (W9 hob hdd S.fit ?_)
 dsimp only
 rw[ZZ (by simp),he];exact ZW h
def Il{Q:Nat->Shared->Prop}{src:Source}{m:Nat}(hm:m≠0)(h:∀k d,k<m->Q k {s with drawn:=d}):wpAny (model prog w) A (choose src m) Q E s:=by
 intro Γ p hΓ;unfold choose;rw[Sem.wp_choose];exact⟨hm,h _ _ (Nat.mod_lt _ (Nat.pos_of_ne_zero hm))⟩
def Nb{α:Type}:∀(xs:List α) (k:Nat) (h:k<xs.length),(xs[k]::xs.eraseIdx k).Perm xs
 |x::r,0,_=>List.Perm.refl _
 |x::r,k+1,h=>by
  have hk:k<r.length:=by simpa using h
  have ih:=Nb r k hk;show(r[k]::x::r.eraseIdx k).Perm (x::r);exact(List.Perm.swap _ _ _).trans (List.Perm.cons _ ih)
def Lz{α:Type}:∀(m:Nat) (xs:List α) (s:Shared) {Q:List α->Shared->Prop},xs.length=m->(∀ys d,ys.Perm xs->Q ys {s with drawn:=d})->wpAny (model prog w) A (drawOrder m xs) Q E s:=by
 intro m
 induction m with
 |zero=>
  intro xs s Q hl h;have e:xs=[]:=Wu.mp hl;subst e;exact ZW (h [] s.drawn (List.Perm.refl _))
 |succ m ih=>
  intro xs s Q hl h;cases xs with
  |nil=>simp at hl
  |cons x r=>
   unfold drawOrder;refine ZT (Il (by simp) λk d hk=>?_);rw[ZU hk];refine ZT (ih _ _ (by rw[Qg hk];simpa using hl) λys d2 hp=>ZW ?_);exact h _ d2 ((List.Perm.cons _ hp).trans (Nb _ _ hk))
def SetAt.keep {h h':Heap} (S:SetAt w h a js es ep t) (k:∀o,h.get? a=some o->h'.get? a=some o):SetAt w h' a js es ep t:=by
 obtain⟨⟨o,ho,r⟩,b,c,d,e,f,g⟩:=S;exact⟨⟨o,k o ho,r⟩,b,c,d,e,f,g⟩
def Ce{Q:Value->Shared->Prop}(hit:SI s.heap I a first i n ep)(h:Q (.ref I) s):wpAny (model prog w) A (pyIter (.ref I)) Q E s:=by
 refine wpAny_pyIter_slot hit.typ Cm (Wy Cm hit.typ EW ?_ (Gf _));show wpAny _ _ (ret (.ref I)) _ _ s;exact ZW ⟨_,rfl, "set_iterator",_,hit.typ,si_slot.lookup,h⟩
def BN(hh:A.handled=none)(I a:Addr)(hne:a≠I)(vs:List Value)(hl:vs.length=es.size)(sl:Nat->Nat)(nx:∀(A:Around) (E:Value->Shared->Prop) (s:Shared) (i:Nat) (Q:Option (Value×Nat)->Shared->Prop),i<=es.size->SetAt w s.heap a js es ep t->Q ((vs[i]?).map λv=>(v,sl (i+1))) s->wpAny (model prog w) A (setNext a (sl i) i ep) Q E s) :
  Walks prog w A I [I,a] [I] es.size (λi v=>vs[i]?=some v) (λi h=>SI h I a (.int (sl i) 0) i es.size ep/\SetAt w h a js es ep t) where
 sub:=λb hb=>by simp at hb;simp[hb]
 frame:=λ_ _ _ st k=>⟨st.1.at λo e=>k I (by simp) o e,st.2.keep λo e=>k a (by simp) o e⟩
 item:=λi s Q E hi st fin=>by
  obtain⟨o,ho,hc,hd⟩:=id st.1;refine PJ st.1 st.2 ?_;unfold Kz
  dsimp only
  rw[YA,YA,YA];refine ZT (nx _ _ s i _ (Qk hi) st.2 ?_);have hi2:i<vs.length:=by omega
  rw[ZU hi2];show wpAny _ _ (do setField (.ref I) 0 (rawInt (sl (i+1)));setField (.ref I) 1 (rawInt ((i:Int)+1));ret vs[i]) _ _ s
  refine ZT (Wk ho hd (by simp) ?_);have g1:=YK (Obj.mapFields (·.setIfInBounds 0 (rawInt (sl (i+1):Int)))) ho (Wl (YR hd _));have d1:(Obj.mapFields (·.setIfInBounds 0 (rawInt (sl (i+1):Int))) o).data=.fields #[.int (sl (i+1)) 0,.int i 0,.ref a,.int es.size 0,.int ep 0]:=by rw[YR hd];simp[rawInt]
  refine ZT (Wk g1 d1 (by simp) ?_);have sb:=(YU s.heap I (Obj.mapFields (·.setIfInBounds 0 (rawInt (sl (i+1):Int))))).trans (YU _ I (Obj.mapFields (·.setIfInBounds 1 (rawInt ((i:Int)+1)))));refine ZW ⟨_,rfl,fin vs[i] _ s.toks (ZU hi2) ⟨?_,st.2.keep λo e=>sb.extBut a o hne e⟩ λb o hb e=>sb.extBut b o (λz=>hb (by simp[z])) e⟩;exact SI.step1 (s:={s with heap:=_}) (x:=.none) g1 ((Qz ..).trans hc) d1
 done:=λs Q E st fin=>by
  obtain⟨o,ho,hc,hd⟩:=id st.1;refine PJ st.1 st.2 ?_;unfold Kz
  dsimp only
  rw[YA,YA,YA];refine ZT (nx _ _ s es.size _ (Yc _) st.2 ?_);rw[WZ (by omega)];exact AR hh ho hd (by simp) λh' eb=>fin h' s.toks λb o hb e=>eb b o (λz=>hb (by simp[z])) e
 self:=λ_ _ _ _ st fin=>Ce st.1 fin
def Md(hh:A.handled=none)(I a T:Addr)(hne:a≠I)(hT:T≠I)(ps:List Nat)(hl:ps.length=es.size)(hps:∀p∈ps,p<es.size)(vs:List Value)(hvs:vs=ps.map λp=>((es[p]?).map (·.2)).getD .none) :
  Walks prog w A I [I,a,T] [I] es.size (λi v=>vs[i]?=some v) (λi h=>SI h I a (.ref T) i es.size ep/\SetAt w h a js es ep t/\∃o,h.get? T=some o/\∃c,o.data=.seq (ps.map λ(p:Nat)=>rawInt p).toArray c) where
 sub:=λb hb=>by simp at hb;simp[hb]
 frame:=λ_ _ _ st k=>⟨st.1.at λo e=>k I (by simp) o e,st.2.1.keep λo e=>k a (by simp) o e,let ⟨o,ho,c⟩:=st.2.2;⟨o,k T (by simp) o ho,c⟩⟩
 item:=λi s Q E hi st fin=>by
  obtain⟨o,ho,hc,hd⟩:=id st.1;obtain⟨oT,hoT,c,hdT⟩:=st.2.2;refine PJ st.1 st.2.1 ?_;unfold Kz
  dsimp only
  refine ZT (wpAny_seqItems hoT hdT ?_);have hi2:i<ps.length:=by omega
  have e1:(ps.map λ(p:Nat)=>rawInt p).toArray[(i:Int).toNat]?=some (.int ps[i] 0):=by
   rw[YA,List.getElem?_toArray,Ye,ZU hi2];rfl
  have hp:=hps _ (Yr hi2)
  dsimp only
  rw[e1]
  dsimp only
  have e2:es[ps[i]]?=some es[ps[i]]:=Wa hp;have e3:vs[i]?=some (es[ps[i]]).2:=by rw[hvs,Ye,ZU hi2];simp[hp]
  rw[YA,YA];refine ZT (LR st.2.1 e2 (ZT (Wk ho hd (by simp) ?_)));have sb:=YU s.heap I (Obj.mapFields (·.setIfInBounds 1 (rawInt ((i:Int)+1))));exact ZW ⟨_,rfl,fin _ _ s.toks e3 ⟨SI.step1 (x:=.none) ho hc hd,st.2.1.keep λo e=>sb.extBut a o hne e,oT,sb.extBut T oT hT hoT,c,hdT⟩ λb o hb e=>sb.extBut b o (λz=>hb (by simp[z])) e⟩
 done:=λs Q E st fin=>by
  obtain⟨o,ho,hc,hd⟩:=id st.1;obtain⟨oT,hoT,c,hdT⟩:=st.2.2;refine PJ st.1 st.2.1 ?_;unfold Kz
  dsimp only
  refine ZT (wpAny_seqItems hoT hdT ?_)
  have e1:(ps.map λ(p:Nat)=>rawInt p).toArray[(es.size:Int).toNat]?=none:=by
   rw[YA,List.getElem?_toArray,Ye,WZ (by omega)];rfl
  dsimp only
  rw[e1]
  dsimp only
  refine ZT (Wk ho hd (by simp) ?_);have g1:=YK (Obj.mapFields (·.setIfInBounds 0 (rawInt 0))) ho (Wl (YR hd _));have sb:=YU s.heap I (Obj.mapFields (·.setIfInBounds 0 (rawInt 0)));refine AR (s:={s with heap:=_}) hh g1 (YR hd _) (by simp) λh' eb=>fin h' s.toks λb o hb e=>eb b o (λz=>hb (by simp[z])) (sb.extBut b o (λz=>hb (by simp[z])) e)
 self:=λ_ _ _ _ st fin=>Ce st.1 fin
def EB{α:Type}(nx:Nat->Nat):∀(m k:Nat) (left:List α) (out:Array α),left.length=m->(pickOrder.go nx m k left out).toList.Perm (out.toList++left):=by
 intro m
 induction m with
 |zero=>
  intro k left out hl;have e:left=[]:=Wu.mp hl;subst e;show out.toList.Perm (out.toList++[]);rw[YO]
 |succ m ih=>
  intro k left out hl;have hlt:nx k % left.length<left.length:=Nat.mod_lt _ (by omega);unfold pickOrder.go;rw[ZU hlt]
  dsimp only
  refine(ih _ _ _ (by rw[Qg hlt];omega)).trans ?_;rw[Array.toList_push,WV];exact(Nb left _ hlt).append_left _
def CY{α:Type}(nx:Nat->Nat)(xs:Array α):(pickOrder nx xs).toList.Perm xs.toList:=by
 have:=EB nx xs.size 0 xs.toList #[] (by simp)
 simpa [pickOrder]using this
def slotAt(t:SetTable)(i:Nat):Nat:=if i=0 then 0 else t.place.getD (i-1) 0+1
def DM{m:Nat}(h:t.fits m=true):t.place.size=m:=by
 simp only[SetTable.fits,Y5,beq_iff_eq]at h;exact h.1
def Lc(S:SetAt w s.heap a js es ep t){i:Nat}(hi:i<=es.size):SetTable.below t.place (slotAt t i)=i:=by
 have hz:=DM S.fit;have R:=S.tab.ris.ris;refine Oo R (by omega) (λk hk=>?_) λk h1 h2=>?_
 ·unfold slotAt;rw[ZZ (by omega)];by_cases e:k=i-1
  ·rw[e];omega
  ·have:=R k (i-1) (by omega) (by omega)
   omega
 ·unfold slotAt;by_cases h0:i=0
  ·rw[Ya h0];omega
  ·rw[ZZ h0]
   have:=R (i-1) k (by omega) h2
   omega
def G8{Q:Value->Shared->Prop}{A':Around}(hh:A'.handled=none)(S:SetAt w s.heap a js es ep t)
  (fin:∀(I:Addr) (fp:List Addr) (vs:List Value) (St:Nat->Heap->Prop) (h1:Heap) (d1:Drawn),Walks prog w A' I fp [I] es.size (λi v=>vs[i]?=some v) St->St 0 h1->(∀b∈fp,b=a\/s.heap.get? b=none)->vs.length=es.size->vs.Perm (es.toList.map (·.2))->
   s.heap.get? I=none->(∀b o,s.heap.get? b=some o->h1.get? b=some o)->Q (.ref I) {s with heap:=h1,drawn:=d1}) :
  wpAny (model prog w) A (pyIter (.ref a)) Q E s:=by
 obtain⟨ob,hob,hx,hdd⟩:=S.obj;have hT:s.TypeIs (.ref a) "set":=⟨ob,hob,hx.1⟩;have ha:a<s.heap.objs.size:=Yd hob
 have new:∀b,s.heap.objs.size<=b->s.heap.get? b=none:=λb hb=>by
  cases e:s.heap.get? b with
  |none=>rfl
  |some o=>exact absurd (Yd e) (Qr.mpr hb)
 refine wpAny_pyIter_slot hT F.slot_set_iter (Wy F.slot_set_iter hT HL ?_ (F.args_set_iter_1 _));unfold Builtin.«frozenset.__iter__»;show wpAny _ _ (Builtin.Frozenset.sizeOf a >>= _) _ _ s;unfold Builtin.Frozenset.sizeOf;refine ZT (ZT (wpAny_setEntries_of hob hdd S.fit (ZW ?_)));refine ZT ?_;unfold setDrawn;refine ZT (W9 hob hdd S.fit (ZT (PY (ZW ?_))))
 dsimp only
 change wpAny _ _ (if (!UC w&&(!t.plain&&decide (es.size>1)))=true then _ else _) _ _ _;cases hd:(!UC w&&(!t.plain&&decide (es.size>1)))with
 |false=>
  rw[ZZ (by decide)];refine ZT (ZW (ZT (wpAny_setEpoch_of hob hdd S.fit (ZT (YH (ZW ⟨_,rfl, "set_iterator",_,⟨_,Yi _ rfl,rfl⟩,si_slot.lookup,?_⟩))))));have hne:a≠s.heap.objs.size:=Yy ha;have S1:SetAt w (s.heap.push {cls:=.type "set_iterator",data:=.fields [rawInt 0,rawInt 0,.ref a,rawInt es.size,rawInt ep].toArray}) a js es ep t:=S.keep λo e=>ZY _ e
  have lt:∀b∈[s.heap.objs.size,a],b=a\/s.heap.get? b=none:=λb hb=>by
   rcases Yh.mp hb with rfl|hb
   ·exact .inr (new _ (Yc _))
   ·exact .inl (ZX.mp hb)
  cases hb:UC w with
  |true=>
   have hl:((pickOrder (w.params.setOrder a ep) es).toList.map (·.2)).length=es.size:=by
    rw[ZV,(CY _ _).length_eq];simp
   refine fin _ _ _ _ _ s.drawn (BN (t:=t) (js:=js) (ep:=ep) hh s.heap.objs.size a hne ((pickOrder (w.params.setOrder a ep) es).toList.map (·.2)) hl (λ_=>0) λA E s i Q hi S' q=>GE S' hb ?_) ⟨⟨_,Yi _ rfl,rfl,rfl⟩,S1⟩ lt hl ((CY _ _).map _) (new _ (Yc _)) λb o e=>ZY _ e;rw[Ye]at q;rw[←Wb];cases e:(pickOrder (w.params.setOrder a ep) es).toList[i]? with
   |none=>rw[e]at q;exact q
   |some x=>rw[e]at q;exact q
  |false=>
   have hp:(!t.plain&&decide (es.size>1))=false:=by rw[hb]at hd;simpa using hd
   refine fin _ _ _ _ _ s.drawn (BN (t:=t) (js:=js) (ep:=ep) hh s.heap.objs.size a hne (es.toList.map (·.2)) (by simp) (slotAt t) λA E s i Q hi S' q=>La S' hb hp ?_) ⟨⟨_,Yi _ rfl,rfl,rfl⟩,S1⟩ lt (by simp) (List.Perm.refl _) (new _ (Yc _)) λb o e=>ZY _ e;rw[Lc S' hi];have hz:=DM S'.fit;rw[Ye]at q;by_cases hlt:i<es.size
   ·have e1:es[i]?=some es[i]:=Wa hlt;have e2:t.place[i]?=some t.place[i]:=Wa (by omega);have e3:es.toList[i]?=some es[i]:=by rw[Wb];exact e1
    rw[e3]at q;rw[e1,e2]
    have e4:slotAt t (i+1)=t.place[i]+1:=by
     unfold slotAt;rw[ZZ (by omega)]
     have:i<t.place.size:=by omega
     simp[Array.getD,this]
    have q':Q (some (es[i].2,slotAt t (i+1))) s:=q;rw[e4]at q';exact q'
   ·have e1:es[i]?=none:=Q3 (by omega);have e3:es.toList[i]?=none:=by rw[Wb];exact e1
    rw[e3]at q;rw[e1];exact q
 |true=>
  rw[Ya rfl];refine ZT (Lz _ _ s (by simp) λps d hp=>?_);have hl:ps.length=es.size:=by rw[hp.length_eq];simp
  have hps:∀p∈ps,p<es.size:=λp hm=>List.mem_range.mp (hp.mem_iff.mp hm);refine ZT (YH ?_ (by show(ps.map λ(i:Nat)=>rawInt i).toArray.size<=sizeLine;rw[Yo,ZV,hl];exact Qx S.few));have hob1:=ZY {cls:=.type "tuple",data:=.seq (ps.map λ(i:Nat)=>rawInt i).toArray} hob;refine ZT (wpAny_setEpoch_of hob1 hdd S.fit (ZT (YH (ZW ⟨_,rfl, "set_iterator",_,⟨_,Yi _ rfl,rfl⟩,si_slot.lookup,?_⟩))));have zT:(s.heap.push {cls:=.type "tuple",data:=.seq (ps.map λ(i:Nat)=>rawInt i).toArray}).objs.size=s.heap.objs.size+1:=WW ..
  have eq1:(List.range es.size).map (λp=>((es[p]?).map (·.2)).getD Value.none)=es.toList.map (·.2):=by
   apply Ve;intro k;by_cases hk:k<es.size
   ·simp[hk]
   ·have:es.size<=k:=by omega
    simp[this]
  refine fin _ _ _ _ _ d (Md (t:=t) (js:=js) (ep:=ep) hh _ a s.heap.objs.size ?_ ?_ ps hl hps _ rfl) ⟨⟨_,Yi _ rfl,rfl,rfl⟩,S.keep λo e=>ZY _ (ZY _ e),_,ZY _ (Yi _ rfl),0,rfl⟩ (λb hb=>?_) (by rw[ZV];exact hl) ?_ (new _ ?_) λb o e=>ZY _ (ZY _ e)
  ·show a≠_;rw[zT];exact Yy (Qy ha)
  ·show s.heap.objs.size≠_;rw[zT];exact Yy (Q8 _)
  ·rcases Yh.mp hb with rfl|hb
   ·refine .inr (new _ ?_);show s.heap.objs.size<=_;rw[zT];exact WS _
   ·rcases Yh.mp hb with rfl|hb
    ·exact .inl rfl
    ·rw[ZX.mp hb];exact .inr (new _ (Yc _))
  ·rw[←eq1];exact hp.map _
  ·show s.heap.objs.size<=_;rw[zT];exact WS _
def LC{Q:Bool->Shared->Prop}(hT:s.TypeIs (.ref a) "set")(h:Q false s):wpAny (model prog w) A (Builtin.List.listLengthHint (.ref a)) Q E s:=by
 unfold Builtin.List.listLengthHint;refine ZT (wpAny_specialOf hT F.slot_set_len.lookup ?_);generalize eid:("set.__len__" : String)=z
 wp_delta
 have sp:splitId z=some ("set","__len__"):=by subst eid;decide +kernel
 rw[sp];subst eid;refine ZT (wpAny_isInstance (T:="set") (b:=true) hT (by rw[isSubtype_type];kernel_rfl) (wpAny_ite_split (λz=>absurd z (by decide)) λ_=>?_));exact wpAny_ite_split (λ_=>ZT (wpAny_typeOf hT (ZW h))) λz=>absurd (by decide +kernel) z
def Ow{R:Result->Shared->Prop}(hh:A.handled=none)(S:SetAt w s.heap a js es ep t)(D:Addr)(c:Nat)(res:Value)(hD:s.heap.get? D=some {cls:=.type "list",data:=.seq #[] c})(hne:D≠a)(fin:∀(h':Heap) (tk:Nat) (d:Drawn) (vs:List Value) (c':Nat),vs.Perm (es.toList.map (·.2))->h'.get? D=some {cls:=.type "list",dict:=none,data:=.seq vs.toArray c',slots:=#[]}->(∀b o,b≠D->s.heap.get? b=some o->h'.get? b=some o)->R (.ok (.ret res)) {s with heap:=h',toks:=tk,drawn:=d}) :
  wpAny (model prog w) A.in1 (Builtin.List.listExtendWith (.ref D) (.ref a) res) (λf s'=>match f with | .done f=>R (.ok f) s' | .again c'=>c'.quiet=true/\codeAny (model prog w) A c' R s') (λe s'=>R (.error e) s') s:=by
 obtain⟨ob,hob,hx,hdd⟩:=S.obj;have hT:s.TypeIs (.ref a) "set":=⟨ob,hob,hx.1⟩;unfold Builtin.List.listExtendWith;refine ZT (wpAny_typeOf (T:="set") hT ?_);have n1:Builtin.List.listSameRef (.ref D) (.ref a)=false:=by simp[Builtin.List.listSameRef,hne]
 have n2:(Value.type "set" == Value.type "list")=false:=by decide
 have n3:(Value.type "set" == Value.type "tuple")=false:=by decide
 simp only[n1,n2,n3,Bool.or_false,Qo,QA];refine ZT (G8 (A':=A.in1) hh S λI fp vs St h1 d1 W st0 flt hl hp hI keep=>?_);have hDI:D≠I:=λz=>by rw[←z,hD]at hI;cases hI
 have loop:∀(h:Heap) (tk c1:Nat),St 0 h->(∀b o,b≠D->s.heap.get? b=some o->h.get? b=some o)->h.get? D=some {cls:=.type "list",data:=.seq #[] c1}->D∉fp->
   codeAny (model prog w) A (.builtin "list.extend.loop" ⟨[.ref D,.ref I,res],[]⟩) R {s with heap:=h,toks:=tk,drawn:=d1}:=λh tk c1 st hk hD1 hDf=>by
  refine codeAny_extend_loopS W.toS (Qx S.few) D hDf res es.size 0 _ #[] c1 rfl (We _) st hD1 (ItemsOf.nil _) λs' acc c' hm hD' hacc=>?_
  have ev:acc.toList=vs:=by
   apply Ve;intro k;by_cases hk2:k<acc.size
   ·have e1:acc[k]?=some acc[k]:=Wa hk2;rw[Wb,e1];exact(hacc.2 k _ e1).symm
   ·rw[Wb,Q3 (by omega),WZ (by have:=hacc.1;omega)]
  have e2:acc=vs.toArray:=by rw[←ev]
  rw[e2]at hD';rw[Moved.eq_with hm];refine fin s'.heap s'.toks d1 vs c' hp hD' λb o hb e=>hm.heap b o (λhmem=>?_) (hk b o hb e);rcases Yh.mp hmem with z|z
  ·exact hb z
  ·rw[ZX.mp z,hI]at e;cases e
 have hDf:D∉fp:=λhm=>by
  rcases flt D hm with z|z
  ·exact hne z
  ·rw[hD]at z;cases z
 have hT1:Shared.TypeIs {s with heap:=h1,drawn:=d1} (.ref a) "set":=⟨ob,keep _ _ hob,hx.1⟩
 refine ZT (Ws (LC hT1 ?_));have hD1:=keep _ _ hD;refine wpAny_ite_split (λ_=>?_) λ_=>ZW ⟨Q6 F.plain_extend_loop _,loop _ _ c st0 (λb o _ e=>keep b o e) hD1 hDf⟩;refine ZT (wpAny_rule (ZT (?_:wpAny _ _ (updateSeq D (·.push .none) >>= λ_=>updateSeq D (·.pop)) _ _ _)));refine ZT (wpAny_updateSeq hD1 rfl ?_);have hD2:=YK (Obj.mapSeq (·.push Value.none)) hD1 rfl;refine wpAny_updateSeq (hz:=by seq_fits) hD2 rfl ?_;have hD3:=YK (Obj.mapSeq (·.pop)) hD2 rfl
 have oth:∀b o,b≠D->h1.get? b=some o->((h1.update D (Obj.mapSeq (·.push Value.none))).update D (Obj.mapSeq (·.pop))).get? b=some o:=λb o hb e=>
  (YS _ _ (Ne.symm hb)).trans ((YS _ _ (Ne.symm hb)).trans e)
 exact ZW ⟨Q6 F.plain_extend_loop _,loop _ _ _ (W.frame 0 _ _ st0 λb hb o e=>oth b o (λz=>hDf (z▸hb)) e) (λb o hb e=>oth b o hb (keep b o e)) hD3 hDf⟩
def OO{R:List Value->Shared->Prop}(hh:A.handled=none)(S:SetAt w s.heap a js es ep t)(fin:∀(h':Heap) (tk:Nat) (d:Drawn) (vs:List Value),vs.Perm (es.toList.map (·.2))->(∀b o,s.heap.get? b=some o->h'.get? b=some o)->s.heap.objs.size<h'.objs.size->R vs {s with heap:=h',toks:=tk,drawn:=d}) :
  wpAny (model prog w) A (collect (.ref a)) R E s:=by
 obtain⟨ob,hob,hx,hdd⟩:=S.obj;have hne:s.heap.objs.size≠a:=Vh (Yd hob);unfold collect;refine ZT (wpAny_runValue (WO entry_proto_collect' ?_));have u1:=WD (A:=A) PySem.F.plain_proto_collect ⟨[.ref a],[]⟩;rw[u1];refine(show wpAny _ A.in1 (newList [] >>= λl=>again (.builtin "list.__iadd__" ⟨[l,.ref a],[]⟩)) _ _ s from ZT (YH (ZW ⟨Q6 PySem.F.plain_list_iadd _,WO entry_list_iadd' ?_⟩)))
 have u2:=WD (A:=A) PySem.F.plain_list_iadd ⟨[.ref s.heap.objs.size,.ref a],[]⟩;rw[u2];have g1:(s.heap.push {cls:=.type "list",data:=.seq ([]:List Value).toArray}).get? s.heap.objs.size=some {cls:=.type "list",data:=.seq #[]}:=Yi _ rfl;show wpAny _ A.in1 (Builtin.List.listExtendWith (.ref s.heap.objs.size) (.ref a) (.ref s.heap.objs.size)) _ _ _
 have key:=Ow (prog:=prog) (A:=A) (s:={s with heap:=s.heap.push {cls:=.type "list",data:=.seq ([]:List Value).toArray}})
  (R:=λq s'=>∃h' tk d vs c',q=.ok (.ret (.ref s.heap.objs.size))/\s'={s with heap:=h',toks:=tk,drawn:=d}/\vs.Perm (es.toList.map (·.2))/\(∀b o,s.heap.get? b=some o->h'.get? b=some o)/\
   h'.get? s.heap.objs.size=some {cls:=.type "list",dict:=none,data:=.seq vs.toArray c',slots:=#[]}) hh (S.keep λo e=>ZY _ e) s.heap.objs.size 0 (.ref s.heap.objs.size) g1 hne
  λh' tk d vs c' hp hD hk=>⟨h',tk,d,vs,c',rfl,rfl,hp,λb o e=>hk b o (Yy (Yd e)) (ZY _ e),hD⟩
 refine YB key (λf s' x=>?_) λe s' x=>?_
 ·cases f with
  |done f=>
   obtain⟨h',tk,d,vs,c',e,rfl,hp,hk,hD⟩:=x;cases e
   refine(show wpAny _ A (load s.heap.objs.size >>= _) _ _ _ from ZT (wpAny_load hD (ZW ?_)))
   exact fin h' tk d vs hp hk (Yd hD)
  |again c1=>
   refine⟨x.1,W1 x.2 λq s2 y=>?_⟩;obtain⟨h',tk,d,vs,c',rfl,rfl,hp,hk,hD⟩:=y;refine(show wpAny _ A (load s.heap.objs.size >>= _) _ _ _ from ZT (wpAny_load hD (ZW ?_)))
   exact fin h' tk d vs hp hk (Yd hD)
 ·obtain⟨_,_,_,_,_,e',_⟩:=x;cases e'
def CS:∀{l:List (Int×Value)},(∀e∈l,Ent e)->IntsAre (l.map (·.2)) (l.map keyOf)
 |[],_=>.nil
 |e::r,h=>by
  obtain⟨k,t,rfl⟩:=h e Yz;exact .cons k t (CS λx hx=>h x (Yq _ hx))
def Mg{vs us:List Value}(p:vs.Perm us):∀{ns:List Int},IntsAre us ns->∃ms,IntsAre vs ms/\ms.Perm ns:=by
 induction p with
 |nil=>intro ns h;cases h;exact⟨[],.nil,List.Perm.refl _⟩
 |cons x _ ih=>
  intro ns h;cases h with
  |cons n t r=>
   obtain⟨ms,h1,h2⟩:=ih r;exact⟨n::ms,.cons n t h1,List.Perm.cons _ h2⟩
 |swap x y l=>
  intro ns h;cases h with
  |cons n t r=>
   cases r with
   |cons n' t' r'=>exact⟨n'::n::_,.cons n' t' (.cons n t r'),List.Perm.swap _ _ _⟩
 |trans _ _ ih1 ih2=>
  intro ns h;obtain⟨ms,h1,h2⟩:=ih2 h;obtain⟨ks,h3,h4⟩:=ih1 h1;exact⟨ks,h3,h4.trans h2⟩
def Mw{Q:Value->Shared->Prop}(hh:A.handled=none)(B:SetB w s.heap a js)(h64:js.length<64)
  (fin:∀(l:Addr) (h':Heap) (tk:Nat) (d:Drawn) (out:List Value) (ns:List Int) (e:Nat),IntsAre out ns->ns.Perm js->ns.Pairwise (·<=·)->s.heap.get? l=none->s.heap.objs.size<=l->h'.get? l=some {cls:=.type "list",data:=.seq out.toArray e}->
   (∀b o,s.heap.get? b=some o->h'.get? b=some o)->Q (.ref l) {s with heap:=h',toks:=tk,drawn:=d}) :
  wpAny (model prog w) A (call (.builtin "sorted") [.ref a]) Q E s:=by
 obtain⟨es,ep,t,S⟩:=B;refine Calls.call_function_entry kind_sorted plain_sorted entry_sorted (args_sorted1 _) ?_;unfold Builtin.«sorted»;refine ZT (m:=checkCount "sorted" 1 1 _) (ZW (ZT (OO (A:=A.in1) hh S λh1 tk d vs hp keep big=>?_)));obtain⟨ms,hI,hms⟩:=Mg hp (CS S.ent);have hms2:ms.Perm js:=hms.trans S.per;have hl:vs.length<64:=by rw[IntsAre.length hI,hms2.length_eq];exact h64
 refine ZT (wpAny_newList ?_ (by have:(64:Nat)<=sizeLine:=(by decide);omega));have g1:(h1.push (seqObj "list" vs.toArray 0)).get? h1.objs.size=some (seqObj "list" vs.toArray 0):=Yi _ rfl;refine ZT (Ws (Wy slot_list_sort ⟨_,g1,rfl⟩ entry_list_sort (list_sort_tree g1 hI hl λout ns a1 a2 a3=>⟨_,rfl,?_⟩) (args_list_sort _)));obtain⟨e,he⟩:=sortedHeap_at (out:=out) g1;have hsz:s.heap.objs.size<=h1.objs.size:=Qk big;refine ZW ⟨_,rfl,fin h1.objs.size _ tk d out.toList ns e a1 (a2.trans hms2) a3 ?_ hsz (by simpa [seqObj]using he) λb o q=>?_⟩
 ·cases q:s.heap.get? h1.objs.size with
  |none=>rfl
  |some o=>exact absurd (Yd (keep _ _ q)) (Wh _)
 ·have hlt:=Yd (keep b o q);rw[sortedHeap_old (Yy hlt) (by rw[size_push'];exact Qy hlt)];exact ZY _ (keep b o q)
end
end SetR
namespace Own
open PySem PySem.Spec PyProof.Rows L2
def SetH(w:World)(l:Addr)(js:List Int):HO:=.ext λh=>SetR.SetB w h l js
section
variable {X:Cx}
def HJ{P:Program}{w:World}{H:Hp}{h:Heap}{l:Addr}{js:List Int}(B:SetR.SetB w h l js):ObjOk P w H h l (SetH w l js):=by
 refine⟨B,?_,λh1 h2 B1 k=>B1.at k⟩;obtain⟨es,ep,t,S⟩:=B;obtain⟨o,ho,_⟩:=S.obj;exact⟨o,ho⟩
def E2(hc:X.calm=true):Uh X (.type "set") (λxs H Q=>∃(p:Addr) (ns:List Int),xs=[.ref p]/\SqL X.K H p (ns.map V.int)/\ns.length+1<4096/\∀l,H l=none->Q (.ref l) (upd H l (SetH X.w l (ns.foldl SetR.addJ [])))):=by
 intro pins s σ H xs us Q I rv h;obtain⟨p,ns,rfl,hS,hz,q⟩:=h;obtain⟨u,rfl,ru⟩:=rv.one;obtain rfl:u=Value.ref p:=ru;obtain⟨its,r,pl,_⟩:=I.list hS;refine SetR.O2 (I.ok.hd hc) pl.isList (by simpa using TB r) hz λh' tk B keep=>?_;have hf:H s.heap.objs.size=none:=I.hok.fresh (Yc _);exact⟨.ref s.heap.objs.size,upd H s.heap.objs.size (SetH X.w s.heap.objs.size _),I.laid (t':=tk) (λb o e=>keep b o (Yd e) e) (Yc _) (HJ B),rfl,q _ hf⟩
def FI(hc:X.calm=true):Uh X (.builtin "sorted") (λxs H Q=>∃(p:Addr) (js:List Int),xs=[.ref p]/\js.length<64/\(SqL X.K H p (js.map V.int)\/H p=some (SetH X.w p js))/\
  ∀(l:Addr) (ns:List Int),H l=none->ns.Perm js->ns.Pairwise (·<=·)->Q (.ref l) (upd H l (.lst (ns.map V.int)))):=by
 intro pins s σ H xs us Q I rv h;obtain⟨p,js,rfl,hz,hS,q⟩:=h;obtain⟨u,rfl,ru⟩:=rv.one;obtain rfl:u=Value.ref p:=ru
 have big:∀{ns:List Int},ns.Perm js->(ns.map V.int).length<=sizeLine:=λhp=>by
  rw[ZV,hp.length_eq]
  have:(64:Nat)<=sizeLine:=by decide
  omega
 rcases hS with hS|hS
 ·obtain⟨its,r,pl,_⟩:=I.list hS;have hI:IntsAre its js:=by simpa using TB r
  refine sorted_ints pl.isList hI (by rw[IntsAre.length hI];exact hz) λout ns a1 a2 a3=>?_;obtain⟨e,he⟩:=sortedAll_at s.heap its out;have hf:H (s.heap.objs.size+1)=none:=I.hok.fresh (WS _);refine⟨.ref (s.heap.objs.size+1),upd H (s.heap.objs.size+1) (.lst (ns.map V.int)),I.laid (t':=s.toks) (λb o e=>sortedAll_old e) (WS _) ⟨big a2,out.toList,e,PH a1,?_⟩,rfl,q _ ns hf a2 a3⟩;simpa [seqObj]using he
 ·have B:SetR.SetB X.w s.heap p js:=(show ObjOk X.prog X.w H s.heap p (SetH X.w p js)from I.hok p _ hS).1
  refine SetR.Mw (I.ok.hd hc) B hz λl h' tk d out ns e a1 a2 a3 nl hl he keep=>?_;have hf:H l=none:=I.hok.fresh hl;refine⟨.ref l,upd H l (.lst (ns.map V.int)),?_,rfl,q l ns hf a2 a3⟩;have ok:HOk X.prog X.w (upd H l (.lst (ns.map V.int))) h':=I.hok.laid keep hl ⟨big a2,out,e,PH a1,he⟩;exact I.call (ch:=[]) (h':=h') (g':=s.gens) (d':=d) (t':=tk) (Un.laid keep hl hf) ok I.bare (λb z=>absurd z (by simp))
end
section
variable {X:Cx}{K:Za}
def IJ(hK:X.K=K:=by rfl):IxR X (λx y H Q=>rIxL K x y H Q\/rIxT K x y H Q):=by subst hK;exact Bx
def IG(hK:X.K=K:=by rfl):Uh X (.builtin "len") (λxs H Q=>∃x n,xs=[x]/\LenV K x H n/\Q (.int n) H):=by subst hK;exact NW
def R0(hK:X.K=K:=by rfl):OpR X (compareOp .In) (rIn K false):=by subst hK;exact RB
def EJ(hK:X.K=K:=by rfl):OpR X (compareOp .NotIn) (rIn K true):=by subst hK;exact Mo
def XF{pos:Pos}{es:List Expr}{k:Nat}{t:TGs}{n:Nat}(hc:X.calm=true)(h:PGs X es t)(hK:X.K=K:=by rfl)(hn:(assignEach es X.env).length=n:=by rfl)(hst:(assignEach es X.env).findIdx? (·.1)=none:=by rfl):PG X (.Tuple es k pos) (gTup K n t):=by subst hK;exact HU hc h hn hst
end
section
variable {α:Type}{R:Hp->V->α->Prop}{φ:List (Option Nat)}{g:TG}{tc:TT}{te:TE}{σ:L2.St}{H1:Hp}{F:Hp->Prop}{D:Addr}
def Gg{K:Za}{a:Addr}{xs:List V}{ds:List α}(f:α->Option V)(hS:SqL K H1 a xs)(hd:xs.length=ds.length)(hD:H1 D=none)(hz:ds.length<=sizeLine)(turn:∀(i:Nat) (x:V) (d:α) (H2:Hp),xs[i]?=some x->ds[i]?=some d->Same H1 H2->∀k:Option V->Hp->Prop,k (f d) H2->g x (atStart φ σ) H2 λσ2 H4=>Sub (atStart φ σ) σ2/\tc σ2 H4 λb H5=>if b=true then te σ2 H5 λy H6=>k (some y) H6 else k none H5)(done:F (upd H1 D (.lst (ds.filterMap f)))) :
  ∃W:Nat->Nat->List V->Hp->Prop,(∃m,W 0 m [] (upd H1 D (.lst [])))/\
   ∀i m ys H2,W i m ys H2->((Itl K a).stop i H2/\F H2)\/((Itl K a).go i H2/\∀x H3,(Itl K a).yld i H2 x H3->g x (atStart φ σ) H3 λσ2 H4=>Sub (atStart φ σ) σ2/\tc σ2 H4 λb H5=>
    if b=true then te σ2 H5 λy H6=>H6 D=some (.lst ys)/\ys.length<sizeLine/\∃m',m'<m/\W (i+1) m' (ys++[y]) (upd H6 D (.lst (ys++[y])))else ∃m',m'<m/\W (i+1) m' ys H5):=by
 refine⟨λi m ys H2=>m=ds.length-i/\i<=ds.length/\ys=(ds.take i).filterMap f/\H2=upd H1 D (.lst ys),⟨ds.length,by simp,We _,by simp,rfl⟩,?_⟩;rintro i m ys H2 ⟨rfl,hi,rfl,rfl⟩;have S2:Same H1 (upd H1 D (.lst ((ds.take i).filterMap f))):=JP hD;by_cases hlt:i<ds.length
 ·refine .inr ⟨⟨xs,xs[i]'(by omega),S2.seq hS,by simp[hd,hlt]⟩,λx H3 y=>?_⟩;obtain⟨e,y⟩:=y;subst e;have hx:=y xs (S2.seq hS);have ed:ds[i]?=some ds[i]:=ZU hlt
  refine turn i x ds[i] _ hx ed S2 (λo H'=>match o with
   |some y=>H' D=some (.lst ((ds.take i).filterMap f))/\((ds.take i).filterMap f).length<sizeLine/\∃m',m'<ds.length-i/\(m'=ds.length-(i+1)/\i+1<=ds.length/\(ds.take i).filterMap f++[y]=(ds.take (i+1)).filterMap f/\upd H' D (.lst ((ds.take i).filterMap f++[y]))=upd H1 D (.lst ((ds.take i).filterMap f++[y])))
   |none=>∃m',m'<ds.length-i/\(m'=ds.length-(i+1)/\i+1<=ds.length/\(ds.take i).filterMap f=(ds.take (i+1)).filterMap f/\H'=upd H1 D (.lst ((ds.take i).filterMap f)))) ?_
  have et:ds.take (i+1)=ds.take i++[ds[i]]:=Yx hlt;cases ef:f ds[i]with
  |some y=>
   refine⟨Jw,?_,ds.length-(i+1),by omega,rfl,hlt,?_,Fi⟩
   ·have h1:=List.length_filterMap_le f (ds.take i);rw[Y7]at h1;omega
   ·rw[et,Qa];simp[ef]
  |none=>
   refine⟨ds.length-(i+1),by omega,rfl,hlt,?_,rfl⟩;rw[et,Qa];simp[ef]
 ·have e:i=ds.length:=by omega
  subst e;refine .inl ⟨⟨xs,S2.seq hS,by omega⟩,?_⟩;rw[YX];exact done
end
def eqL(xs ys:List V):Bool:=decide (xs.length=ys.length)&&(List.range xs.length).all λj=>eqV (xs.getD j .non) (ys.getD j .non)
def rEqL(K:Za)(neg:Bool):R2:=λx y H Q=>∃(p q:Addr) (xs ys:List V),x=.ref p/\y=.ref q/\SqL K H p xs/\SqL K H q ys/\xs.all Ux=true/\ys.all Ux=true/\Q (.bl (if neg then !eqL xs ys else eqL xs ys)) H
section
variable {X:Cx}
def Nw{A:Around}{s:Shared}{xs ys:List V}{us ws:List Value}(r1:Vals xs us)(r2:Vals ys ws)(f1:xs.all Ux=true)(f2:ys.all Ux=true)(j:Nat)(h1:j<us.toArray.size)(h2:j<ws.toArray.size) :
  SeqAt.EqAt A s us.toArray[j] ws.toArray[j] (eqV (xs.getD j .non) (ys.getD j .non)):=by
 have l1:=r1.length;have l2:=r2.length;have g1:j<us.length:=by simpa using h1
 have g2:j<ws.length:=by simpa using h2
 have k1:xs[j]?=some (xs[j]'(by omega)):=ZU _;have k2:ys[j]?=some (ys[j]'(by omega)):=ZU _;obtain⟨u,eu,ru⟩:=r1.get k1;obtain⟨w,ew,rw'⟩:=r2.get k2
 have e1:us.toArray[j]=u:=by
  have:us[j]?=some us[j]:=ZU g1
  rw[this]at eu;simpa using Yf eu
 have e2:ws.toArray[j]=w:=by
  have:ws[j]?=some ws[j]:=ZU g2
  rw[this]at ew;simpa using Yf ew
 have d1:xs.getD j .non=xs[j]'(by omega):=by rw[Yp,k1];rfl
 have d2:ys.getD j .non=ys[j]'(by omega):=by rw[Yp,k2];rfl
 rw[e1,e2,d1,d2];exact Fw ru rw' (WG.mp f1 _ (Yr _)) (WG.mp f2 _ (Yr _))
def O9(hu:X.A.units<cLine):OpR X (compareOp .Eq) (rEqL X.K false):=by
 intro pins s σ H x y v u Q I rx ry h;obtain⟨p,q,xs,ys,rfl,rfl,hp,hq,f1,f2,k⟩:=h;obtain rfl:v=Value.ref p:=rx;obtain rfl:u=Value.ref q:=ry;obtain⟨us,r1,p1,_⟩:=I.list hp;obtain⟨ws,r2,p2,_⟩:=I.list hq;have l1:=r1.length;have l2:=r2.length;have k':Q (.bl (eqL xs ys)) H:=k;by_cases e:xs.length=ys.length
 ·refine SeqAt.eq_listAt p1.isList p2.isList (by simp;omega) hu (λj h1 h2=>Nw r1 r2 f1 f2 j h1 h2) ⟨.bl (eqL xs ys),H,I,?_,k'⟩;show _=Value.bool (eqL xs ys);unfold eqL;rw[Yb e,WM,Yo,←l1]
 ·refine SeqAt.eq_list_lengthsAt p1.isList p2.isList (by simp;omega) hu ⟨.bl (eqL xs ys),H,I,?_,k'⟩;show _=Value.bool (eqL xs ys);unfold eqL;rw[Ym e];rfl
def Fh(hu:X.A.units<cLine):OpR X (compareOp .NotEq) (rEqL X.K true):=by
 intro pins s σ H x y v u Q I rx ry h;obtain⟨p,q,xs,ys,rfl,rfl,hp,hq,f1,f2,k⟩:=h;obtain rfl:v=Value.ref p:=rx;obtain rfl:u=Value.ref q:=ry;obtain⟨us,r1,p1,_⟩:=I.list hp;obtain⟨ws,r2,p2,_⟩:=I.list hq;have l1:=r1.length;have l2:=r2.length;have k':Q (.bl (!eqL xs ys)) H:=k;by_cases e:xs.length=ys.length
 ·refine SeqAt.RcNeAt.lists p1.isList p2.isList (by simp;omega) hu (λj h1 h2=>Nw r1 r2 f1 f2 j h1 h2) _ _ _ _ ⟨.bl (!eqL xs ys),H,I,?_,k'⟩;show _=Value.bool (!eqL xs ys);unfold eqL;rw[Yb e,WM,Yo,←l1]
 ·refine SeqAt.RcNeAt.lists_lengths p1.isList p2.isList (by simp;omega) hu _ _ _ _ ⟨.bl (!eqL xs ys),H,I,?_,k'⟩;show _=Value.bool (!eqL xs ys);unfold eqL;rw[Ym e];rfl
def KM{xs:List Int}{us:List Value}(r:Vals (xs.map V.int) us)(z:Int):∀(j:Nat) (h1:j<us.length) (h2:j<xs.length),Value.isInt z us[j]=(xs[j]==z):=by
 intro j h1 h2;obtain⟨u,eu,t,rfl⟩:=r.get (x:=V.int xs[j]) (i:=j) (by rw[Ye,ZU h2];rfl);rw[ZU h1]at eu;rw[Yf eu];simp[Value.isInt]
def Cs{xs:List Int}{us:List Value}(r:Vals (xs.map V.int) us)(z:Int)(t:Tok):∀y,y∈us.toArray->MeetsSeq.EqGives y (.int z t) (Value.isInt z y):=by
 intro y hy;obtain⟨j,hj,rfl⟩:=Y9.mp (by simpa using hy:y∈us);have l1:=r.length;rw[ZV]at l1;rw[KM r z j hj (by omega)];obtain⟨u,eu,t',rfl⟩:=r.get (x:=V.int (xs[j]'(by omega))) (i:=j) (by rw[Ye,ZU (show j<xs.length by omega)];rfl);rw[ZU hj]at eu;rw[Yf eu];exact MeetsSeq.EqGives.int _ _ _ _
def Ba(K:Za):V->List V->Hp->VK->Prop:=λx vs H Q=>∃(l:Addr) (xs:List Int) (z:Int),x=.ref l/\vs=[.int z]/\SqL K H l (xs.map V.int)/\z∈xs/\Q (.int (xs.idxOf z:Nat)) H
def Le:MtM X "list.index" (Ba X.K):=by
 intro pins s σ H x vs v us Q I rx rv h;obtain⟨l,xs,z,rfl,rfl,hS,hz,q⟩:=h;cases rx
 obtain⟨u,rfl,t,rfl⟩:=rv.one;obtain⟨its,r,p1,hsz⟩:=I.list hS;obtain⟨o,n,ho,hc,hdn,hd⟩:=p1;obtain⟨c1,d1,dt1,sl1⟩:=o;simp only at hc hdn hd;subst hc hdn hd;have l1:=r.length;rw[ZV]at l1;have hj:xs.idxOf z<xs.length:=Wn.mpr hz;have hb:xs.length<=2 ^ 24:=by rw[ZV]at hsz;exact hsz
 refine call_meets WJ ⟨_,ho,rfl⟩ PySem.F.entry_list_index (PySem.F.args_list_index_2 _ _)
  (SeqAt.list_indexAt l its.toArray n none sl1 (.int z t) (Value.isInt z) (xs.idxOf z) (by simpa [←l1]using hj) (by omega) ?_ ?_) ⟨ho,λy hy=>(Cs r z t y hy).at _ _,⟨.int (xs.idxOf z:Nat),H,I.tok _,⟨_,rfl⟩,q⟩⟩
 ·have e:=KM r z (xs.idxOf z) (by omega) hj;show Value.isInt z its[xs.idxOf z]=true;rw[e];simpa using WQ hj
 ·intro m hm hlt;have hm':m<its.length:=by simpa using hm
  have e:=KM r z m hm' (by omega);show Value.isInt z its[m]=false;rw[e]
  have:=List.not_of_lt_findIdx (p:=(· == z)) (xs:=xs) (i:=m) hlt
  simpa using this
def CV{α β:Type}(f:α->β):∀(xs:List α) (k:Nat),(xs.eraseIdx k).map f=(xs.map f).eraseIdx k
 |[],_=>rfl
 |_::_,0=>rfl
 |x::r,k+1=>by
  show f x::(r.eraseIdx k).map f=f x::(r.map f).eraseIdx k;rw[CV f r k]
def Eo:V->List V->Hp->VK->Prop:=λx vs H Q=>∃(l:Addr) (xs:List Int) (z:Int),x=.ref l/\vs=[.int z]/\H l=some (.lst (xs.map V.int))/\z∈xs/\Q .non (upd H l (.lst ((xs.eraseIdx (xs.idxOf z)).map V.int)))
def MR:MtM X "list.remove" Eo:=by
 intro pins s σ H x vs v us Q I rx rv h;obtain⟨l,xs,z,rfl,rfl,hH,hz,q⟩:=h;cases rx
 obtain⟨u,rfl,t,rfl⟩:=rv.one;obtain⟨hsz,its,n,r,hl,e⟩:=I.lstM hH;have l1:=r.length;rw[ZV]at l1;have hj:xs.idxOf z<xs.length:=Wn.mpr hz
 refine call_meets PySem.F.slot_list_remove ⟨_,e,rfl⟩ PySem.F.entry_list_remove (PySem.F.args_list_remove_2 _ _)
  (MeetsSeq.list_remove l its.toArray n (.int z t) (Value.isInt z) (Cs r z t) (xs.idxOf z) (by simpa [←l1]using hj) ?_ ?_ (by rw[Yo,←hl];exact hsz)) ⟨e,?_⟩
 ·have e:=KM r z (xs.idxOf z) (by omega) hj;show Value.isInt z its[xs.idxOf z]=true;rw[e];simpa using WQ hj
 ·intro m hm hlt;have hm':m<its.length:=by simpa using hm
  have e:=KM r z m hm' (by omega);show Value.isInt z its[m]=false;rw[e]
  have:=List.not_of_lt_findIdx (p:=(· == z)) (xs:=xs) (i:=m) hlt
  simpa using this
 ·refine⟨.non,_,I.lset (its':=its.eraseIdx (xs.idxOf z)) hH e ?_ ?_ ?_,rfl,q⟩
  ·show its.toArray.eraseIdxIfInBounds (xs.idxOf z)=_;rw[List.eraseIdxIfInBounds_toArray]
  ·rw[CV];exact r.eraseIdx _
  ·rw[ZV,List.length_eraseIdx];rw[ZV]at hsz;split<;>omega
end
section
variable {X:Cx}{K:Za}
def SK(hK:X.K=K:=by rfl):MtM X "list.index" (Ba K):=by subst hK;exact Le
def Be{o e:Expr}{es:List Expr}{to:TE}{t:TA}{name:Str}{apos cpos:Pos}{T id:String}{r:V->List V->Hp->VK->Prop}(pa:PlainAttrs T)(slot:Slot T name id)(hty:typeOf (.builtin id)=pure (.type "method_descriptor"))(hm:MtM X id r)(ho:PE X o to)(ha:PA X (e::es) t)(hK:X.K=K:=by rfl)(hbase:attributeBase o name X.env (eval o X.env)=eval o X.env:=by rfl)
  (hfew:((backTo cpos (starEach (e::es) X.env)).all (λx=>!x.1)&&(backToKw cpos (keywordEach [] X.env)).all (λx=>x.1.isSome)
   && decide ((e::es).length+([]:List Keyword).length+(if ([]:List Keyword).isEmpty then 0 else 1)<30))=true:=by rfl)
  (hline:(apos.endLine==cpos.line)=true:=by rfl) (hs:starEach (e::es) X.env=(false,eval e X.env)::starEach es X.env:=by rfl) (hplain:(backTo cpos (starEach es X.env)).any (·.1)=false:=by rfl) :
  PE X (.Call (.Attribute o name apos) (e::es) [] cpos) (tBM K T r to t):=by
 subst hK;exact UP pa slot hty hm ho ha hbase hfew hline hs hplain
end
def PK(xs ys:List Int):eqL (xs.map V.int) (ys.map V.int)=decide (xs=ys):=by
 unfold eqL;rw[ZV,ZV];by_cases e:xs=ys
 ·subst e;rw[Yb rfl,Yb rfl,WM,WG];intro j hj;have hj':j<xs.length:=by simpa using hj
  rw[Yp,Ye,ZU hj'];show(xs[j]==xs[j])=true;simp
 ·rw[Ym e];by_cases hl:xs.length=ys.length
  ·rw[Yb hl,WM,Wq];intro hall;apply e;apply List.ext_getElem hl;intro j h1 h2
   have:=WG.mp hall j (by simpa using h1)
   rw[Yp,Ye,ZU h1,Yp,Ye,ZU h2]at this;have h3:(xs[j]==ys[j])=true:=this;simpa using h3
  ·rw[Ym hl];rfl
def Xg(xs:List Int):(xs.map V.int).all Ux=true:=by
 rw[List.all_map];exact WG.mpr λ_ _=>rfl
end Own
namespace M
open PySem PySem.Spec PyProof.Rows L2 Own
def LV{α:Type}(R:Hp->V->α->Prop)(H:Hp)(vs:List V)(xs:List α):Prop:=
 vs.length=xs.length/\∀(i:Nat) (x:α),xs[i]?=some x->∃v,vs[i]?=some v/\R H v x
def LAt{α:Type}(R:Hp->V->α->Prop)(H:Hp)(l:Addr)(xs:List α):Prop:=∃vs,H l=some (.lst vs)/\LV R H vs xs
def U7(H:Hp)(v:V)(q:Int×Int):Prop:=∃a,v=.ref a/\H a=some (.tup [.int q.1,.int q.2])
section
variable {α:Type}{R:Hp->V->α->Prop}{H H':Hp}{vs:List V}{xs:List α}{l:Addr}
def LV.get {i:Nat}{v:V} (h:LV R H vs xs) (e:vs[i]?=some v):∃x,xs[i]?=some x/\R H v x:=by
 have hi:i<xs.length:=by rw[←h.1];exact(Yk.mp e).1
 obtain⟨v',e',r⟩:=h.2 i xs[i] (by simp[hi]);rw[e]at e';cases e';exact⟨_,by simp[hi],r⟩
end
def Menu(m:List Int):Prop:=∃a b c d e:Int,m=[a,b,c,d,e]/\(1<=a/\a<=10)/\(1<=b/\b<=9/\(b=1\/b=3\/b=7\/b=9))/\(0<=c/\c<=9)/\(1<=d/\d<=1000)/\(1<=e/\e+d<=1001)
def Field(ps:List (Int×Int)):Prop:=∀q∈ps,1<=q.1/\q.1<=10/\1<=q.2/\q.2<=1000
def OF(js:List Int)(k z:Int):z∈SetR.addJ js k↔z∈js\/z=k:=by
 unfold SetR.addJ;split
 ·rename_i h;constructor
  ·exact λx=>.inl x
  ·rintro(x|rfl)
   ·exact x
   ·exact h
 ·simp
def Da:∀(ns js:List Int) (z:Int),z∈ns.foldl SetR.addJ js↔z∈js\/z∈ns
 |[],js,z=>by simp
 |n::r,js,z=>by
  rw[List.foldl_cons,Da r,OF,Yh];constructor
  ·rintro((h|h)|h)
   ·exact .inl h
   ·exact .inr (.inl h)
   ·exact .inr (.inr h)
  ·rintro(h|h|h)
   ·exact .inl (.inl h)
   ·exact .inl (.inr h)
   ·exact .inr h
def Rq{js:List Int}(k:Int)(h:js.Nodup):(SetR.addJ js k).Nodup:=by
 unfold SetR.addJ;split
 ·exact h
 ·rename_i hk;exact YV.mpr ⟨h,by simp,λx hx y hy=>by rw[ZX.mp hy];rintro rfl;exact hk hx⟩
def AQ:∀(ns:List Int) {js:List Int},js.Nodup->(ns.foldl SetR.addJ js).Nodup
 |[],_,h=>h
 |n::r,js,h=>AQ r (Rq n h)
def FA:∀(ns js:List Int),(ns.foldl SetR.addJ js).length<=js.length+ns.length
 |[],js=>by simp
 |n::r,js=>by
  have h1:=FA r (SetR.addJ js n)
  have h2:(SetR.addJ js n).length<=js.length+1:=by
   unfold SetR.addJ;split
   ·omega
   ·simp
  rw[List.foldl_cons,Y1];omega
def T5{l:List Int}(h:l.Pairwise (·<=·))(n:l.Nodup):l.Pairwise (· < ·):=by
 have:=h.and n
 exact this.imp λ{a b} h=>by have:=h.1;have:=h.2;omega
def AH{l₁ l₂:List Int}(h1:l₁.Pairwise (· < ·))(h2:l₂.Pairwise (· < ·))(h:∀z,z∈l₁↔z∈l₂):l₁=l₂:=by
 have n1:l₁.Nodup:=h1.imp λ{a b} h=>by omega
 have n2:l₂.Nodup:=h2.imp λ{a b} h=>by omega
 have p:l₁.Perm l₂:=(List.perm_ext_iff_of_nodup n1 n2).mpr h;exact p.eq_of_pairwise (le:=(· < ·)) (λa b _ _ x y=>by omega) h1 h2
def tenL:List Int:=[1,2,3,4,5,6,7,8,9,10]
def IE{z:Int}:z∈tenL↔1<=z/\z<=10:=by
 unfold tenL;constructor
 ·intro h;simp only[Yh,QB,or_false]at h;omega
 ·rintro⟨h1,h2⟩;simp only[Yh,QB,or_false];omega
def Js(ps:List (Int×Int)):List Int:=tenL.filter λh=>decide (h∈ps.map (·.1))
def Xc(ps:List (Int×Int)):(Js ps).Pairwise (· < ·):=List.Pairwise.filter _ (by unfold tenL;decide)
def T8{ps:List (Int×Int)}(hF:Field ps){z:Int}:z∈Js ps↔z∈ps.map (·.1):=by
 unfold Js;rw[Y2,WA,IE];constructor
 ·exact λh=>h.2
 ·intro h;obtain⟨q,hq,rfl⟩:=Y4.mp h
  have:=hF q hq
  exact⟨⟨this.1,this.2.1⟩,h⟩
def X2(ps:List (Int×Int)):(Js ps).length<=10:=by
 have:=YG (λh=>decide (h∈ps.map (·.1))) tenL
 exact this
def Gi{ps:List (Int×Int)}{ns:List Int}(hF:Field ps)(p:ns.Perm ((ps.map (·.1)).foldl SetR.addJ []))(h:ns.Pairwise (·<=·)):ns=Js ps:=by
 have nd:ns.Nodup:=p.symm.nodup (AQ _ Wx);refine AH (T5 h nd) (Xc ps) λz=>?_;rw[p.mem_iff,Da,T8 hF];simp
def AZ(z:Int)(xs:List Int):inV (.int z) (xs.map V.int)=decide (z∈xs):=by
 unfold inV;rw[List.any_map]
 induction xs with
 |nil=>simp
 |cons x r ih=>
  rw[WL,ih];show((x==z) || _)=_;by_cases e:x=z
  ·subst e;simp
  ·have:(x==z)=false:=by simpa using e
   rw[this];simp only[Bool.false_or];by_cases h:z∈r
   ·rw[Yb h,Yb (Yq _ h)]
   ·rw[Ym h,Ym];intro hz;rcases Yh.mp hz with hz|hz
    ·exact e hz.symm
    ·exact h hz
def GR:tenL=(List.range 10).map λ(i:Nat)=>(1:Int)+(i:Int):=by decide
section
variable (ps:List (Int×Int))
def tpM(y:Int):Nat->Int
 | 0=>0
 |j+1=>tpM y j+(if (ps.getD j (0,0)).1=y then(ps.getD j (0,0)).2 else 0)
def pcM(x y:Int):Nat->Int
 | 0=>0
 |k+1=>pcM x y k+(if x≠y/\(ps.getD k (0,0)).1=x then tpM ps y k*(ps.getD k (0,0)).2 else 0)
def ordM(n:Nat):List Int->Int
 |[]=>0
 |a::r=>(r.map λb=>pcM ps a b n).sum+ordM n r
def aftM(n:Nat)(h:Int):List Int->Int
 |[]=>0
 |a::r=>if a=h then(r.map λb=>tpM ps b n).sum else aftM n h r
def rsM(os:List Int)(h:Int):Nat->Int
 | 0=>0
 |j+1=>rsM os h j+(if os.idxOf h<os.idxOf (ps.getD j (0,0)).1 then(ps.getD j (0,0)).2 else 0)
def priM(os:List Int):Nat->Int
 | 0=>0
 |k+1=>priM os k+rsM ps os (ps.getD k (0,0)).1 k*(ps.getD k (0,0)).2
end
def NT{a b:Int}{r:List Int}(h:a≠b):(a::r).idxOf b=r.idxOf b+1:=by
 rw[List.idxOf_cons]
 have:(a==b)=false:=by simpa using h
 rw[this];rfl
def Ay(f g:Int->Int)(l:List Int):(l.map λb=>f b+g b).sum=(l.map f).sum+(l.map g).sum:=by
 induction l with
 |nil=>rfl
 |cons b r ih=>
  simp only[Ys,W6];rw[ih];omega
def Po{f g:Int->Int}{l:List Int}(h:∀b∈l,f b=g b):(l.map f).sum=(l.map g).sum:=by
 rw[QO h]
def CI(l:List Int):(l.map λ_=>(0:Int)).sum=0:=by
 induction l with
 |nil=>rfl
 |cons b r ih=>simp only[Ys,W6,ih];rfl
def GX(f:Int->Int)(w:Int)(l:List Int):(l.map λb=>f b*w).sum=(l.map f).sum*w:=by
 induction l with
 |nil=>simp
 |cons b r ih=>
  simp only[Ys,W6];rw[ih,Int.add_mul]
def El{l:List Int}(h:Int)(w:Int)(nd:l.Nodup):(l.map λb=>if h=b then w else 0).sum=if h∈l then w else 0:=by
 induction l with
 |nil=>simp
 |cons b r ih=>
  simp only[Ys,W6];have hb:=(Y8.mp nd).1;rw[ih (Y8.mp nd).2];by_cases e:h=b
  ·subst e;rw[Ya rfl,ZZ hb,Ya Yz];omega
  ·rw[ZZ e];by_cases hm:h∈r
   ·rw[Ya hm,Ya (Yq _ hm)];omega
   ·rw[ZZ hm,ZZ]
    ·omega
    ·intro z;rcases Yh.mp z with z|z
     ·exact e z
     ·exact hm z
section
variable {ps:List (Int×Int)}
def FD{n:Nat}:∀{os:List Int},(ps.getD n (0,0)).1∉os->ordM ps (n+1) os=ordM ps n os
 |[],_=>rfl
 |a::r,h=>by
  have h1:(ps.getD n (0,0)).1≠a:=λz=>h (by rw[z];exact Yz);have h2:(ps.getD n (0,0)).1∉r:=λz=>h (Yq _ z);simp only[ordM];rw[FD h2];congr 1;apply Po;intro b _;simp only[pcM];rw[ZZ (λz=>h1 z.2)];omega
def Aq{n:Nat}:∀{os:List Int},os.Nodup->(ps.getD n (0,0)).1∈os->ordM ps (n+1) os=ordM ps n os+aftM ps n (ps.getD n (0,0)).1 os*(ps.getD n (0,0)).2
 |[],_,h=>by cases h
 |a::r,nd,h=>by
  obtain⟨na,nr⟩:=Y8.mp nd;simp only[ordM,aftM];by_cases e:a=(ps.getD n (0,0)).1
  ·rw[Ya e];have hr:(ps.getD n (0,0)).1∉r:=by rw[←e];exact na
   rw[FD hr,←GX]
   have e2:(r.map λb=>pcM ps a b (n+1)).sum=(r.map λb=>pcM ps a b n+tpM ps b n*(ps.getD n (0,0)).2).sum:=by
    apply Po;intro b hb;simp only[pcM];rw[Ya ⟨λz=>na (by rw[z];exact hb),e.symm⟩]
   rw[e2,Ay];omega
  ·rw[ZZ e]
   have hr:(ps.getD n (0,0)).1∈r:=by
    rcases Yh.mp h with z|z
    ·exact absurd z.symm e
    ·exact z
   rw[Aq nr hr]
   have e2:(r.map λb=>pcM ps a b (n+1)).sum=(r.map λb=>pcM ps a b n).sum:=by
    apply Po;intro b _;simp only[pcM];rw[ZZ (λz=>e z.2.symm)];omega
   rw[e2];omega
def BQ{n:Nat}{h:Int}:∀{os:List Int},(ps.getD n (0,0)).1∉os->aftM ps (n+1) h os=aftM ps n h os
 |[],_=>rfl
 |a::r,hn=>by
  have h2:(ps.getD n (0,0)).1∉r:=λz=>hn (Yq _ z);simp only[aftM];rw[BQ h2]
  have e2:(r.map λb=>tpM ps b (n+1)).sum=(r.map λb=>tpM ps b n).sum:=by
   apply Po;intro b hb;simp only[tpM];rw[ZZ (λz=>h2 (by rw[z];exact hb))];omega
  rw[e2]
def CM{n:Nat}{h:Int}:∀{os:List Int},os.Nodup->h∈os->(ps.getD n (0,0)).1∈os->
  aftM ps (n+1) h os=aftM ps n h os+(if os.idxOf h<os.idxOf (ps.getD n (0,0)).1 then(ps.getD n (0,0)).2 else 0)
 |[],_,hh,_=>by cases hh
 |a::r,nd,hh,hm=>by
  obtain⟨na,nr⟩:=Y8.mp nd;generalize eg:(ps.getD n (0,0)).1=g at hm ⊢;generalize ew:(ps.getD n (0,0)).2=w at ⊢;simp only[aftM];by_cases e:a=h
  ·subst e;rw[Ya rfl,Ya rfl]
   have e2:(r.map λb=>tpM ps b (n+1)).sum=(r.map λb=>tpM ps b n+(if g=b then w else 0)).sum:=by
    apply Po;intro b _;simp only[tpM];rw[eg,ew]
   rw[e2,Ay,El g w nr];have i0:(a::r).idxOf a=0:=by simp
   rw[i0];by_cases eq:g=a
   ·subst eq;rw[i0,ZZ na,ZZ (by omega)]
   ·have gr:g∈r:=by
     rcases Yh.mp hm with z|z
     ·exact absurd z eq
     ·exact z
    have:(a::r).idxOf g=r.idxOf g+1:=NT (Ne.symm eq)
    rw[this,Ya gr,Ya (by omega)]
  ·rw[ZZ e,ZZ e]
   have hr:h∈r:=by
    rcases Yh.mp hh with z|z
    ·exact absurd z.symm e
    ·exact z
   have ih1:(a::r).idxOf h=r.idxOf h+1:=NT e;by_cases eq:g=a
   ·subst eq;have i0:(g::r).idxOf g=0:=by simp
    rw[BQ (by rw[eg];exact na),i0,ZZ (by omega)];omega
   ·have gr:g∈r:=by
     rcases Yh.mp hm with z|z
     ·exact absurd z eq
     ·exact z
    have ih2:(a::r).idxOf g=r.idxOf g+1:=NT (Ne.symm eq);rw[CM nr hr (by rw[eg];exact gr),eg,ew,ih1,ih2];congr 1;by_cases hlt:r.idxOf h<r.idxOf g
    ·rw[Ya hlt,Ya (by omega)]
    ·rw[ZZ hlt,ZZ (by omega)]
def Dm{os:List Int}{h:Int}(nd:os.Nodup)(hh:h∈os):∀(n:Nat),(∀j,j<n->(ps.getD j (0,0)).1∈os)->aftM ps n h os=rsM ps os h n
 | 0,_=>by
  have:∀l:List Int,aftM ps 0 h l=0:=by
   intro l
   induction l with
   |nil=>rfl
   |cons a r ih=>
    simp only[aftM,tpM];rw[CI,ih];split<;>rfl
  rw[this];rfl
 |n+1,hm=>by
  rw[CM nd hh (hm n (by omega)),Dm nd hh n λj hj=>hm j (by omega)];rfl
def FV{os:List Int}(nd:os.Nodup):∀(n:Nat),(∀j,j<n->(ps.getD j (0,0)).1∈os)->ordM ps n os=priM ps os n
 | 0,_=>by
  have:∀l:List Int,ordM ps 0 l=0:=by
   intro l
   induction l with
   |nil=>rfl
   |cons a r ih=>
    simp only[ordM,pcM];rw[CI,ih];rfl
  rw[this];rfl
 |n+1,hm=>by
  rw[Aq nd (hm n (by omega)),FV nd n (λj hj=>hm j (by omega)),Dm nd (hm n (by omega)) n λj hj=>hm j (by omega)];rfl
end
end M
namespace ExcR
open PySem PySem.Spec PyProof.Rows L2
structure KeepX (fs ex:List Addr) (h h':Heap):Prop where
 keep:∀b o,h.get? b=some o->b∉fs->b∉ex->h'.get? b=some o
 slot:∀b o,h.get? b=some o->b∉ex->∃sl,h'.get? b=some {o with slots:=sl}
 size:h.objs.size<=h'.objs.size
def KeepX.trans {fs ex:List Addr}{h1 h2 h3:Heap} (a:KeepX fs ex h1 h2) (b:KeepX fs ex h2 h3):KeepX fs ex h1 h3:=
 ⟨λc o e n m=>b.keep c o (a.keep c o e n m) n m,λc o e m=>by
  obtain⟨s1,e1⟩:=a.slot c o e m;obtain⟨s2,e2⟩:=b.slot c _ e1 m;exact⟨s2,e2⟩,Yn a.size b.size⟩
def KeepX.mono {fs fs' ex ex':List Addr}{h1 h2:Heap} (a:KeepX fs ex h1 h2) (hf:∀b∈fs,b∈fs') (hx:∀b∈ex,b∈ex'):KeepX fs' ex' h1 h2:=
 ⟨λc o e n m=>a.keep c o e (λz=>n (hf c z)) (λz=>m (hx c z)),λc o e m=>a.slot c o e λz=>m (hx c z),a.size⟩
def Ga(o:Obj)(f):(o.mapFields f).dict=o.dict:=by
 obtain⟨c,d,dt,sl⟩:=o;cases dt<;>rfl
structure Trc (h:Heap) (e T:Addr) (cls:Value×Option Addr) (fl:Value):Prop where
 ne:T≠e
 exc:∃oe vs,h.get? e=some oe/\(oe.cls,oe.dict)=cls/\oe.data=.fields vs/\vs[1]?=some (.ref T)
 ent:∃oT ts,h.get? T=some oT/\oT.data=.fields ts/\ts[3]?=some fl
section
variable {M:Model}{A:Around}{E:Value->Shared->Prop}{s:Shared}{base:Heap}{env:Env}{outer:List Env}{L e:Addr}
def CG{oe:Obj}{vs:Array Value}{head:Value}{hadNext:Bool}{Q:Unit->Shared->Prop}(hfr:A.frames=some (env::outer))(hl:s.heap.FunFrames base (env::outer))(hf:env.frame=some L)(he:s.heap.get? e=some oe)(hd:oe.data=.fields vs)(hsz:1<vs.size)(h:∀h' T,s.heap.objs.size<=T->Trc h' e T (oe.cls,oe.dict) (rawInt L)->KeepX (frs (env::outer)) [e] s.heap h'->Q () {s with heap:=h'}) :
  wpAny M A (do let a ←frameOf env;let pl ←entryPlaceOf L hadNext;let b ←EntryCells.newEntry head a .none (rawInt L) .none pl;setField (.ref e) 1 b) Q E s:=by
 have hene:e∉frs (env::outer):=λhm=>by
  obtain⟨_,o,ho,hnf⟩:=hl.mem hm;rw[he]at ho;cases ho
  exact hnf vs hd
 refine ZT (wpAny_frameOf_fun hfr hl hf λh1 s1=>ZT (wpAny_entryPlaceOf λpl hpl=>?_));unfold EntryCells.newEntry newFields;refine ZT (YH ?_ (hpl.sizeOk5 _ _ _ _ _));have he1:h1.get? e=some oe:=(s1.2.1 e hene).trans he;generalize eo:({cls:=.type "traceback",dict:=none,data:=.fields ([head,.ref L,.none,rawInt L,.none]++(if pl.isEmpty then List.replicate 6 Value.none else pl)).toArray}:Obj)=ot;have he2:=ZY (h:=h1) ot he1;refine Wk he2 hd hsz (h _ h1.objs.size (Wz s1.1.symm) ?_ ?_)
 ·have ne1:h1.objs.size≠e:=Vh (Yd he1);have d3:=YR hd (·.setIfInBounds 1 (Value.ref h1.objs.size));refine⟨ne1,⟨_,_,YK _ he2 (Wl d3),by rw[Qz,Ga],d3,by simp[hsz]⟩,ot,_,?_,by rw[←eo],?_⟩
  ·exact(YS _ _ (Ne.symm ne1)).trans (Yi h1 (by rw[←eo];rfl))
  ·first
    |(simp;done)
    |(rcases hpl with rfl|⟨_,_,_,_,_,_,_,rfl⟩<;>simp)
 ·refine⟨λb o q nb nx=>?_,λb o q nx=>?_,?_⟩
  ·have hbe:b≠e:=λz=>nx (by simp[z]);rw[YS _ _ (Ne.symm hbe)];exact ZY _ ((s1.2.1 b nb).trans q)
  ·have hbe:b≠e:=λz=>nx (by simp[z]);obtain⟨sl,q1⟩:=s1.2.2 b o q;exact⟨sl,by rw[YS _ _ (Ne.symm hbe)];exact ZY _ q1⟩
  ·rw[Heap.size_update,WW,s1.1];exact WS _
def Iv{oe:Obj}{vs:Array Value}{Q:Unit->Shared->Prop}(hfr:A.frames=some (env::outer))(hl:s.heap.FunFrames base (env::outer))(hf:env.frame=some L)(he:s.heap.get? e=some oe)(hd:oe.data=.fields vs)(h1:vs[1]?=some .none)(h:∀h' T,s.heap.objs.size<=T->Trc h' e T (oe.cls,oe.dict) (rawInt L)->KeepX (frs (env::outer)) [e] s.heap h'->Q () {s with heap:=h'}):wpAny M A (noteFrame (.ref e) env) Q E s:=by
 unfold noteFrame;simp only[hf];refine ZT (QW he hd h1 ?_);rw[ZZ (by decide)];exact CG hfr hl hf he hd (Qh.mp h1).1 h
def F0{T:Addr}{cls:Value×Option Addr}{fl:Value}{Q:Unit->Shared->Prop}(x:Trc s.heap e T cls fl)(h:∀h',Trc h' e T cls .none->KeepX [] [T] s.heap h'->Q () {s with heap:=h'}) :
  wpAny M A (setField (.ref T) 3 .none) Q E s:=by
 obtain⟨ne,⟨oe,vs,g1,g2,g3,g4⟩,oT,ts,k1,k2,k3⟩:=x;have hz:=(Qh.mp k3).1;refine Wk k1 k2 hz (h _ ?_ ?_)
 ·have d3:=YR k2 (·.setIfInBounds 3 Value.none);exact⟨ne,⟨oe,vs,(YS _ _ ne).trans g1,g2,g3,g4⟩,_,_,YK _ k1 (Wl d3),d3,by simp[hz]⟩
 ·have ot:∀b,b≠T->(s.heap.update T (Obj.mapFields (·.setIfInBounds 3 Value.none))).get? b=s.heap.get? b:=λb hb=>YS _ _ (Ne.symm hb);exact⟨λb o q _ nx=>(ot b λz=>nx (by simp[z])).trans q,λb o q nx=>⟨o.slots,(ot b λz=>nx (by simp[z])).trans q⟩,Wz (Heap.size_update ..).symm⟩
def D2{T:Addr}{cls:Value×Option Addr}{Q:Unit->Shared->Prop}(hfr:A.frames=some (env::outer))(hl:s.heap.FunFrames base (env::outer))(hf:env.frame=some L)(x:Trc s.heap e T cls .none)(h:∀h' T',s.heap.objs.size<=T'->Trc h' e T' cls (rawInt L)->KeepX (frs (env::outer)) [e,T] s.heap h'->Q () {s with heap:=h'}):wpAny M A (noteFrame (.ref e) env) Q E s:=by
 obtain⟨ne,⟨oe,vs,g1,g2,g3,g4⟩,oT,ts,k1,k2,k3⟩:=id x;unfold noteFrame;simp only[hf];refine ZT (QW g1 g3 g4 ?_);rw[Ya (show(Value.ref T != Value.none)=true from by simp)]
 refine ZT (QW k1 k2 k3 ?_);rw[ZZ (show ¬((Value.none==rawInt L)=true)from by simp[rawInt])]
 refine ZT (F0 x λh1 x1 K1=>?_)
 have hTf:T∉frs (env::outer):=λhm=>by
  obtain⟨_,o,ho,hnf⟩:=hl.mem hm;rw[k1]at ho;cases ho
  exact hnf ts k2
 have hl1:h1.FunFrames base (env::outer):=hl.of_keeps λb o q hnf=>⟨o,K1.keep b o q (by simp) (λz=>by
  rw[ZX.mp z,k1]at q;cases q
  exact hnf ts k2),rfl⟩
 obtain⟨_,⟨oe1,vs1,p1,p2,p3,p4⟩,_⟩:=id x1;refine CG (s:={s with heap:=h1}) hfr hl1 hf p1 p3 (Qh.mp p4).1 λh2 T' hT' x2 K2=>h h2 T' (Yn K1.size hT') (by rw[←p2];exact x2) ?_
 exact(K1.mono (by simp) (by simp)).trans (K2.mono (λ_ z=>z) (by simp))
def T9{T:Addr}{cls:Value×Option Addr}{fl:Value}{Q:Unit->Shared->Prop}(x:Trc s.heap e T cls fl)(h:∀h',Trc h' e T cls .none->KeepX [] [T] s.heap h'->Q () {s with heap:=h'}) :
  wpAny M A (setFlight (.ref e) none) Q E s:=by
 obtain⟨ne,⟨oe,vs,g1,g2,g3,g4⟩,_⟩:=id x;unfold setFlight;refine ZT (QW g1 g3 g4 ?_);rw[Ya (show(Value.ref T != Value.none)=true from by simp)]
 exact F0 x h
def GP{oe:Obj}{vs:Array Value}{Q:Unit->Shared->Prop}(hfr:A.frames=some (env::outer))(hl:s.heap.FunFrames base (env::outer))(hf:env.frame=some L)(he:s.heap.get? e=some oe)(hd:oe.data=.fields vs)(h1:vs[1]?=some .none)(h:∀h' T,s.heap.objs.size<=T->Trc h' e T (oe.cls,oe.dict) .none->KeepX (frs (env::outer)) [e] s.heap h'->Q () {s with heap:=h'}):wpAny M A (leaving env (.ref e)) Q E s:=by
 unfold leaving;refine ZT (Iv hfr hl hf he hd h1 λh2 T hT x K=>T9 x λh3 x3 K3=>h h3 T hT x3 ?_);refine⟨λb o q nb nx=>K3.keep b o (K.keep b o q nb nx) (by simp) (λz=>?_),λb o q nx=>?_,Yn K.size K3.size⟩
 ·rw[ZX.mp z]at q;exact absurd (Yd q) (Qr.mpr hT)
 ·obtain⟨sl,q2⟩:=K.slot b o q nx;exact⟨sl,K3.keep b _ q2 (by simp) (λz=>by rw[ZX.mp z]at q;exact absurd (Yd q) (Qr.mpr hT))⟩
def Hc{T:Addr}{cls:Value×Option Addr}{Q:Unit->Shared->Prop}(hfr:A.frames=some (env::outer))(hl:s.heap.FunFrames base (env::outer))(hf:env.frame=some L)(x:Trc s.heap e T cls .none)(h:∀h' T',s.heap.objs.size<=T'->Trc h' e T' cls .none->KeepX (frs (env::outer)) [e,T] s.heap h'->Q () {s with heap:=h'}):wpAny M A (leaving env (.ref e)) Q E s:=by
 unfold leaving;refine ZT (D2 hfr hl hf x λh2 T' hT x2 K=>T9 x2 λh3 x3 K3=>h h3 T' hT x3 ?_);refine⟨λb o q nb nx=>K3.keep b o (K.keep b o q nb nx) (by simp) (λz=>?_),λb o q nx=>?_,Yn K.size K3.size⟩
 ·rw[ZX.mp z]at q;exact absurd (Yd q) (Qr.mpr hT)
 ·obtain⟨sl,q2⟩:=K.slot b o q nx;exact⟨sl,K3.keep b _ q2 (by simp) (λz=>by rw[ZX.mp z]at q;exact absurd (Yd q) (Qr.mpr hT))⟩
end
section
variable {P:Program}{w:World}{H H':Hp}{h h':Heap}{a:Addr}{o:HO}{fs ex:List Addr}
def has(x:ObjOk P w H h a o):∃u,h.get? a=some u:=by
 cases o with
 |lst xs=>exact let ⟨_,_,_,_,e⟩:=x;⟨_,e⟩
 |tup xs=>exact let ⟨_,_,_,u,e,_⟩:=x;⟨u,e⟩
 |dK kvs=>exact let ⟨_,_,_,_,u,_,_,e,_⟩:=x;⟨u,e⟩
 |dT kvs=>exact let ⟨_,_,_,_,u,_,_,e,_⟩:=x;⟨u,e⟩
 |set S n=>exact let ⟨u,_,_,_,e,_⟩:=x;⟨u,e⟩
 |ins C dx fs=>exact let ⟨_,_,_,e,_⟩:=x;⟨_,e⟩
 |own y=>exact x
 |xd fs=>exact let ⟨_,⟨u,_,_,e,_⟩,_⟩:=x;⟨u,e⟩
 |rng lo hi=>exact let ⟨_,_,_,e⟩:=x;⟨_,e⟩
 |frz ob u=>exact⟨_,x.1⟩
 |tbl ps=>exact⟨_,x⟩
 |met f y=>exact⟨_,x⟩
 |ext φ=>exact x.2.1
def Tt(ok:HOk P w H h)(e:h.get? a=none):H a=none:=by
 cases q:H a with
 |none=>rfl
 |some o=>
  obtain⟨u,z⟩:=has (ok a o q);rw[e]at z;cases z
def KW(ok:HOk P w H h)(k:KeepX fs ex h h')(hf:∀b∈fs,H b=none)(hx:∀b∈ex,H b=none):HOk P w H h':=λa o e=>by
 refine(ok a o e).stay (λb u hb q=>?_) (λ_ q=>q) (λ_ _ q=>q)
 have hn:H b≠none:=by
  rcases hb with rfl|hb
  ·rw[e];simp
  ·rw[hb];simp
 exact k.keep b u q (λz=>hn (hf b z)) λz=>hn (hx b z)
end
structure XAt (P:Program) (w:World) (outer:List Env) (H H':Hp) (s s':Shared) (a T C:Addr) (dx:Option Addr):Prop where
 os:s'.os=s.os
 bare:AllBare s'.gens
 un:Un (frs outer) [] H H' s.heap s'.heap
 hok:HOk P w H' s'.heap
 na:s.heap.get? a=none
 nT:s.heap.get? T=none
 fa:H' a=none
 fT:H' T=none
 tr:Trc s'.heap a T (.ref C,dx) .none
def CXe(P:Program)(w:World):CXT:=λouter H s E e s'=>∃a T C dx H',e=.ref a/\XAt P w outer H H' s s' a T C dx/\E (.ref C) dx H'
section
variable {X:Cx}{pins:List (Addr×Obj)}{σ:L2.St}{H H':Hp}{s s':Shared}{a T C:Addr}{dx:Option Addr}
def Cq{ex:List Addr}{h':Heap}(I:Inv X pins σ H s)(hex:X.ex=[])(k:KeepX (frs X.stack) ex s.heap h')(hx:∀b∈ex,X.s₀.heap.get? b=none):Un X.fs [] X.H₀ H X.s₀.heap h':=by
 have B:=I.base;rw[hex]at B;have out:∀b o,X.s₀.heap.get? b=some o->b∉ex:=λb o q z=>by rw[hx b z]at q;cases q
 have nl:∀b o,X.s₀.heap.get? b=some o->b∉X.fs->b∉frs X.stack:=λb o q nf z=>by
  rcases Yh.mp (I.stkSub b z)with e|e
  ·have h1:=Yd q;have h2:=I.ok.above;rw[e]at h1;exact absurd h1 (Qr.mpr h2)
  ·exact nf e
 refine⟨λb o q n nf ne=>k.keep b o (B.keep b o q n nf ne) (nl b o q nf) (out b o q),λb o q n hf ne=>?_,λb o q n ne=>B.free b o q n ne,λb o q ne=>?_,B.tups,B.frzs,B.tbls⟩
 ·obtain⟨sl,q1⟩:=B.slot b o q n hf ne;obtain⟨sl2,q2⟩:=k.slot b _ q1 (out b o q);exact⟨sl2,q2⟩
 ·obtain⟨o1,q1⟩:=B.there b o q ne;obtain⟨sl2,q2⟩:=k.slot b _ q1 (out b o q);exact⟨_,q2⟩
def KO{b:Addr}(I:Inv X pins σ H s)(hex:X.ex=[])(e:s.heap.get? b=none):X.s₀.heap.get? b=none:=by
 cases q:X.s₀.heap.get? b with
 |none=>rfl
 |some o=>
  obtain⟨u,z⟩:=I.base.there b o q (by rw[hex];simp);rw[e]at z;cases z
variable {E:Value->Shared->Prop}
def Oz(I:Inv X pins σ H s)(hex:X.ex=[])(hst:X.stack=X.env::X.outer)(hfr:X.env.frame=some X.env.locals)(x:XAt X.prog X.w X.stack H H' s s' a T C dx) :
  wpAny (model X.prog X.w) X.A (leaving X.env (.ref a)) (λ_ s2=>∃T2,XAt X.prog X.w X.outer X.H₀ H' X.s₀ s2 a T2 C dx) E s':=by
 have J:Inv X pins σ H' s':=I.call' (ch:=[]) x.os x.un x.hok x.bare λb z=>absurd z (by simp);have hF:=J.stack;have hA:=J.ok.frames;rw[hst]at hF hA;refine Hc hA hF hfr x.tr λh2 T2 hT2 tr k=>⟨T2,J.os,J.bare,?_,?_,KO I hex x.na,?_,x.fa,x.hok.fresh hT2,tr⟩
 ·exact Cq J hex (by rw[hst];exact k) λb hb=>by
   rcases Yh.mp hb with rfl|hb
   ·exact KO I hex x.na
   ·rw[ZX.mp hb];exact KO I hex x.nT
 ·refine KW x.hok k (λb hb=>J.stkFree b (by rw[hst];exact hb)) λb hb=>?_;rcases Yh.mp hb with rfl|hb
  ·exact x.fa
  ·rw[ZX.mp hb];exact x.fT
 ·exact WB (Yn J.sz hT2)
def Cd{oe:Obj}{vs:Array Value}(J:Inv X pins σ H s)(hex:X.ex=[])(hst:X.stack=X.env::X.outer)(hfr:X.env.frame=some X.env.locals)(na:X.s₀.heap.get? a=none)(fa:H a=none)(he:s.heap.get? a=some oe)(hc:oe.cls=.ref C)(hdx:oe.dict=dx)(hd:oe.data=.fields vs)(h1:vs[1]?=some .none) :
  wpAny (model X.prog X.w) X.A (leaving X.env (.ref a)) (λ_ s2=>∃T2,XAt X.prog X.w X.outer X.H₀ H X.s₀ s2 a T2 C dx) E s:=by
 have hF:=J.stack;have hA:=J.ok.frames;rw[hst]at hF hA;refine GP hA hF hfr he hd h1 λh2 T2 hT2 tr k=>⟨T2,J.os,J.bare,?_,?_,na,?_,fa,J.hok.fresh hT2,by rw[←hc,←hdx];exact tr⟩
 ·exact Cq J hex (by rw[hst];exact k) λb hb=>by rw[ZX.mp hb];exact na
 ·exact KW J.hok k (λb hb=>J.stkFree b (by rw[hst];exact hb)) λb hb=>by rw[ZX.mp hb];exact fa
 ·exact WB (Yn J.sz hT2)
def EO{h':Heap}{oe:Obj}{vs:Array Value}(I:Inv X pins σ H s)(hex:X.ex=[])(hst:X.stack=X.env::X.outer)(hfr:X.env.frame=some X.env.locals)(keeps:∀b o,s.heap.get? b=some o->h'.get? b=some o)(new:s.heap.get? a=none)(he:h'.get? a=some oe)(hc:oe.cls=.ref C)(hdx:oe.dict=dx)(hd:oe.data=.fields vs)(h1:vs[1]?=some .none) :
  wpAny (model X.prog X.w) X.A (leaving X.env (.ref a)) (λ_ s2=>∃T2,XAt X.prog X.w X.outer X.H₀ H X.s₀ s2 a T2 C dx) E {s with heap:=h'}:=
 Cd (s:={s with heap:=h'}) (I.call' (s':={s with heap:=h'}) (ch:=[]) rfl (Un.kept keeps) (I.hok.kept keeps) I.bare λb z=>absurd z (by simp)) hex hst hfr (KO I hex new) (Tt I.hok new) he hc hdx hd h1
end
structure ErrCls (K:Za) (C:Addr):Prop where
 q:PySem.W.excIn K C [.type "ValueError",.type "Exception",.type "BaseException",.type "object"] "ValueError.__new__"=true
def ErrCls.obj {K:Za}{C:Addr}{h:Heap} (c:ErrCls K C) (k:K.In h):∃bm N nm q bs hdct sn sub ab col dd k0 k1 k2 k3 k5 mN,h.get? C=some (excClassObj nm q C N bs bm hdct sn sub ab col dd k0 k1 k2 k3 k5 "ValueError.__new__")/\h.Ns N mN/\mN "__init__"=none/\
  OwnTail h [.type "ValueError",.type "Exception",.type "BaseException",.type "object"] bm:=by
 have e:=c.q;unfold PySem.W.excIn at e;split at e
 next dd cd sl ho=>
  split at e
  next C1 bm k0 k1 k2 k3 n k5 hm hs=>
   simp only[Y5,beq_iff_eq,Q0]at e;obtain⟨⟨⟨⟨⟨e1,e2⟩,e3⟩,e4⟩,e5⟩,e6⟩:=e;subst e1 e2;have hg:=k _ _ ho;cases cd with
   |mk nm bs mro ns qn hd sn sub ab col del=>
    simp only at hm e3 e5 e6
    have hsl:sl=#[k0,k1,k2,k3,some (.builtin "ValueError.__new__"),k5]:=by
     cases sl with
     |mk l=>simp only at hs;rw[hs]
    rw[hm,e3,hsl]at hg;exact⟨bm,ns,nm,qn,bs,hd,sn,sub,ab,col,dd,k0,k1,k2,k3,k5,_,hg,.of_isNs (Vb k e5),PySem.W.nsMap_none_of_in k e5 e6,PySem.W.tail_of_in k e4⟩
  next=>cases e
 next=>cases e
abbrev TF:=L2.St->Hp->Str->(Str->Hp->Prop)->Prop
def PF(X:Cx)(es:List Expr)(t:TF):Prop:=
 ∀(pins:List (Addr×Obj)) (s:Shared) (σ:L2.St) (H:Hp) (out:Str) (Q:Str->Hp->Prop),Inv X pins σ H s->t σ H out Q->
  wpAny (model X.prog X.w) X.A (joinParts out (evalEach es X.env)) (λu s'=>∃x H',Inv X pins σ H' s'/\RelV (.str x) u/\Q x H') X.xe s
section
variable {X:Cx}{e e1 e2:Expr}{es:List Expr}{t:TF}{tv:TE}{pos:Pos}
def fNil:TF:=λ_ H out Q=>out.length<=sizeLine/\Q out H
def fStr(x:Str)(t:TF):TF:=λσ H out Q=>(out++x).length<=sizeLine/\t σ H (out++x) Q
def fVal(tv:TE)(t:TF):TF:=λσ H out Q=>tv σ H λv H1=>(∃i:Int,v=.int i/\i.natAbs.log2<1920/\(out++(Str.ofString (toString i))).length<=sizeLine/\t σ H1 (out++Str.ofString (toString i)) Q)\/
 ∃x:Str,v=.str x/\x.length<=sizeLine/\(out++x).length<=sizeLine/\t σ H1 (out++x) Q
def KU:PF X [] fNil:=λpins s σ H out Q I h=>joinParts_nilE (joinParts_nil ⟨out,H,I.tok _,⟨_,rfl⟩,h.2⟩ h.1)
def X8{x:Str}{j}(h:PF X es t):PF X (.Constant (.str x) j pos::es) (fStr x t):=λpins s σ H out Q I q=>
 joinParts_consE (joinParts_cons (Calls.Constant_str ⟨q.1,h pins _ σ H _ Q (I.tok _) q.2⟩))
def KS(hv:PE X e tv)(h:PF X es t):PF X (.FormattedValue e (-1) none pos::es) (fVal tv t):=λpins s σ H out Q I q=>by
 refine joinParts_consE (joinParts_cons (FormattedValue_plain (thn (hv pins s σ H _ I q) λu s1 ⟨v,H1,I1,r,q1⟩=>?_)));rcases q1 with⟨i,rfl,hs,hz,q2⟩|⟨x,rfl,hx,hz,q2⟩
 ·obtain⟨tk,rfl⟩:=r;exact formatField_int_small hs ⟨hz,h pins _ σ H1 _ Q (I1.tok _) q2⟩
 ·obtain⟨tk,rfl⟩:=r;exact formatField_str (λt' tk'=>⟨hz,h pins _ σ H1 _ Q (I1.tok _) q2⟩) hx
def tF(t:TF):TE:=λσ H Q=>t σ H Str.empty λx H'=>Q (.str x) H'
def pe_f(h:PF X (e1::e2::es) t):PE X (.JoinedStr (e1::e2::es) pos) (tF t):=λpins s σ H Q I q=>
 JoinedStr_many (thn (h pins s σ H _ _ I q) λu s1 ⟨x,H1,I1,r,q1⟩=>⟨.str x,H1,I1,r,q1⟩)
end
def A3(X:Cx)(E:XK):Prop:=∀(pins:List (Addr×Obj)) (σ:L2.St) (H:Hp) (s:Shared) (C a:Addr) (h':Heap) (args:List Value),Inv X pins σ H s->Heap.MadeExcOf s.heap h' a (.ref C) args->E (.ref C) none H->X.xe (.ref a) {s with heap:=h'}
def BP(C:Addr)(E:XK)(t:TA):TS:=λ_ σ H=>t σ H λvs H1=>vs.length<=sizeLine/\E (.ref C) none H1
section
variable {X:Cx}{x:Str}{C:Addr}{E:XK}{e:Expr}{es:List Expr}{t:TA}{p cpos pos:Pos}
def Xv(c:ErrCls X.K C)(hm:X.mg x=some (.ref C))(hR:A3 X E)(hc:X.calm=true)(ha:PA X (e::es) t)(hg:Gl X x:=by rfl)(hdb:(x==("__debug__" : Str))=false:=by decide)(he:starEach (e::es) X.env=(false,eval e X.env)::starEach es X.env:=by rfl)(hpl:(backTo cpos (starEach es X.env)).any (·.1)=false:=by rfl):PS X (.Raise (some (.Call (.Name x p) (e::es) [] cpos)) none pos) (BP C E t):=by
 intro pins s σ H D I h;obtain⟨bm,N,nm,q,bs,hdct,sn,sub,ab,col,dd,k0,k1,k2,k3,k5,mN,hC,hN,hni,hT⟩:=c.obj I.ok.mod.kin
 have hpl':(backTo cpos (starEach (e::es) X.env)).any (·.1)=false:=by
  rw[he];show(false || (backTo cpos (starEach es X.env)).any (·.1))=false;rw[hpl];rfl
 refine wpAny_Raise_call_subU (C:=C) (nm:=nm) (q:=q) (N:=N) (bs:=bs) (bm:=bm) (hdct:=hdct) (sn:=sn) (sub:=sub) (ab:=ab) (col:=col) (dd:=dd) (k0:=k0) (k1:=k1) (k2:=k2) (k3:=k3) (k5:=k5)
  W7 (by decide +kernel) W7 (hT.hasType (by decide +kernel)) (I.ok.hd hc) hpl' hni (K9 I hg hm ⟨rfl,?_⟩ hdb)
 have hA:=ha cpos pins s σ H _ I h;rw[he]at hA ⊢;refine QH (thn hA λus s2 ⟨vs,H2,I2,r2,q1,q2⟩=>⟨rfl,by rw[←r2.length];exact q1,I2.bk _ _ hC,hN.keeps I2.bk,hT.keeps I2.bk,λh' a hm'=>?_⟩);exact hR pins σ H2 s2 C a h' us I2 hm' q2
end
section
variable {P:Program}{w:World}{K:Za}{mg:Str->Option Value}{base:Heap}{N ps:List Str}{qual x:Str}{scope:Scope}{f:Addr}{cd:Value}{A:Around}{outer:List Env}{s:Shared}{H:Hp}{E:XK}
def X0:A3 (cxOf (CXe P w) P w K mg base N qual scope f cd A outer s H E) E:=by
 intro pins σ H1 s1 C a h' args I m q;obtain⟨t,ht,_,_⟩:=m.there;exact YB (EO I rfl rfl rfl m.keeps m.new ht rfl rfl rfl rfl) (λ_ s3 ⟨T2,y⟩=>⟨a,T2,C,none,H1,rfl,y,q⟩) λ_ _ z=>z
def U8:UE (CXe P w) (cxOf (CXe P w) P w K mg base N qual scope f cd A outer s H E) E:=by
 rintro pins σ H1 s1 e s2 I ⟨a,T,C,dx,H',rfl,y,q⟩;exact YB (Oz I rfl rfl rfl y) (λ_ s3 ⟨T2,z⟩=>⟨a,T2,C,dx,H',rfl,z,q⟩) λ_ _ z=>z
def D8:PassesOwn (model P w) (cxOf (CXe P w) P w K mg base N qual scope f cd A outer s H E).A (cxOf (CXe P w) P w K mg base N qual scope f cd A outer s H E).env (cxOf (CXe P w) P w K mg base N qual scope f cd A outer s H E).xe:=PassesOwn.leaving
def Def.okX {st:Stmt}{k:Nat}{sp:Sp} (D:Own.Def K mg x st ps) (S:FnScope N ps (Jk st)) (len:∀vs H Q E,sp vs H Q E->vs.length=ps.length)
  (hbody:∀(f:Addr) (cdv:Value) (A:Around) (outer:List Env) (s:Shared) (H:Hp) (vs:List V) (Q:VK) (E:XK),Room k (A.deeper (envOfC x (Jk st) s.heap.objs.size f cdv))->sp vs H Q E->
   ∃t,PSs (cxOf (CXe P w) P w K mg base N x (Jk st) f cdv A outer s H E) (JV st) t/\t {nx:=λ_ H'=>Q .non H',rt:=Q} (start N vs) H):Own.Callee P w K mg base (CXe P w) (k+1) x ps sp:=by
 obtain⟨f,fd,F,hm,hb⟩:=D.ex;have kp:=F.kp;obtain⟨oc,od,kV,doc,pm,an,cdv,ct,osl,rfl,lk,hcd⟩:=F.ex;exact⟨f,_,NO lk hcd S len λA outer s H vs Q E hr hsp=>hbody f cdv A outer s H vs Q E hr hsp,hm,kp,⟨_,lk,rfl⟩,hb⟩
end
end ExcR
namespace ExcR
open PySem PySem.Spec PyProof.Rows L2
open Sem (wp)
structure ErrGet (K:Za) (C:Addr):Prop where
 c:ErrCls K C
 ga:PySem.W.findIn K (.ref C) "__getattribute__"=some (some (.builtin "BaseException.__getattribute__"))
 gt:PySem.W.findIn K (.ref C) "__getattr__"=some none
 cl:PySem.W.findIn K (.ref C) "__class__"=some (some (.builtin "object.__class__"))
 is:(PySem.W.clsIn K C).isSome=true
end ExcR
namespace ExcR
open PySem PySem.Spec PyProof.Rows L2
def ErrD(a C:Addr)(dx:Option Addr):HO:=.ext λh=>∃o,h.get? a=some o/\(o.cls,o.dict)=(.ref C,dx)/\∃vs,o.data=.fields vs
abbrev ErrH(a C:Addr):HO:=ErrD a C none
def Rj{P:Program}{w:World}{H:Hp}{h:Heap}{a T C:Addr}{dx:Option Addr}{fl:Value}(x:Trc h a T (.ref C,dx) fl):ObjOk P w H h a (ErrD a C dx):=by
 obtain⟨_,⟨o,vs,e1,e2,e3,_⟩,_⟩:=x;exact⟨⟨o,e1,e2,vs,e3⟩,⟨o,e1⟩,λh1 h2 ⟨o1,q1,q2⟩ k=>⟨o1,k o1 q1,q2⟩⟩
def NN{fs ex:List Addr}{H H':Hp}{h h1 h2:Heap}(u:Un fs [] H H' h h1)(k:KeepX fs ex h1 h2)(hx:∀b∈ex,h.get? b=none):Un fs [] H H' h h2:=by
 have out:∀b o,h.get? b=some o->b∉ex:=λb o q z=>by rw[hx b z]at q;cases q
 refine⟨λb o q n nf ne=>k.keep b o (u.keep b o q n nf ne) nf (out b o q),λb o q n hf ne=>?_,u.free,λb o q ne=>?_,u.tups,u.frzs,u.tbls⟩
 ·obtain⟨sl,q1⟩:=u.slot b o q n hf ne;obtain⟨sl2,q2⟩:=k.slot b _ q1 (out b o q);exact⟨sl2,q2⟩
 ·obtain⟨o1,q1⟩:=u.there b o q ne;obtain⟨sl2,q2⟩:=k.slot b _ q1 (out b o q);exact⟨_,q2⟩
def sufX(X:Cx)(a:Addr):Cx:={X with A:=X.A.mark (some (.ref a)),calm:=false,xe:=λ_ _=>False}
def tryX(X:Cx)(pins:List (Addr×Obj))(D:Ends)(h0:ExceptHandler):Cx:=
 {X with pn:=X.pn++pins,xe:=λe s1=>wpAny (model X.prog X.w) X.A (noteFrame e X.env) (λ_ s2=>wpAny (model X.prog X.w) X.A (setFlight e none) (λ_ s3=>wpAny (model X.prog X.w) X.A (handleBy e X.env [h0]) (SP X pins D) X.xe s3) X.xe s2) X.xe s1}
section
variable {X:Cx}{pins pins1:List (Addr×Obj)}{σ:L2.St}{H H':Hp}{s s':Shared}{a T C:Addr}{D:Ends}{h0:ExceptHandler}
def Ij(o:X.Ok):(sufX X a).Ok:=⟨o.mod,o.kind,o.glob,o.blt,o.above,o.inj,o.has,o.cab,(λz=>nomatch z),o.frames,o.stk,o.exf,o.bs,o.bsz,o.noex,o.exfs,o.funs,o.frf⟩
def DE(I:Inv X pins σ H s):Inv (sufX X a) pins σ H s:=⟨Ij I.ok,I.os,I.bare,I.base,I.loc,I.cell,I.free,I.freeC,I.pin,I.hok,I.len⟩
def Gm(o:X.Ok)(I:Inv (sufX X a) pins σ H s):Inv X pins σ H s:=⟨o,I.os,I.bare,I.base,I.loc,I.cell,I.free,I.freeC,I.pin,I.hok,I.len⟩
def Rm(o:X.Ok):(tryX X pins D h0).Ok:=⟨o.mod,o.kind,o.glob,o.blt,o.above,o.inj,o.has,o.cab,o.hd,o.frames,o.stk,o.exf,o.bs,o.bsz,o.noex,o.exfs,o.funs,o.frf⟩
def OC(o:(tryX X pins D h0).Ok):X.Ok:=⟨o.mod,o.kind,o.glob,o.blt,o.above,o.inj,o.has,o.cab,o.hd,o.frames,o.stk,o.exf,o.bs,o.bsz,o.noex,o.exfs,o.funs,o.frf⟩
def GY(I:Inv X pins σ H s):Inv (tryX X pins D h0) [] σ H s:=⟨Rm I.ok,I.os,I.bare,I.base,I.loc,I.cell,I.free,I.freeC,λp hp=>I.pin p (by simpa [tryX]using hp),I.hok,I.len⟩
def P9(I:Inv (tryX X pins D h0) pins1 σ H s):Inv X pins σ H s:=⟨OC I.ok,I.os,I.bare,I.base,I.loc,I.cell,I.free,I.freeC,λp hp=>I.pin p (Wm _ hp),I.hok,I.len⟩
def Hd{i:Nat}{n:Str}{m:Str->Option Value}{v:Option Value}{h':Heap}{tk:Nat}(I:Inv X pins σ H s)(hN:X.N.Nodup)(hi:X.N[i]?=some n)(hk:X.env.scope.names.lookup n=some .local)(hm:∀(i:Nat) (x:Str) (v:V),X.N[i]?=some x->σ[i]?=some (some v)->Vis X.env.scope x->∃u,RelV v u/\Look X.env s.heap m x u)(hn:s.heap.Ns X.env.locals m)(hn':h'.Ns X.env.locals (λx=>if x=n then v else m x))(hs:Heap.SameBut X.env.locals s.heap h'):Inv X pins (σ.set i none) H {s with heap:=h',toks:=tk}:=by
 have cne:=I.cne;have nl:∀{b o},X.s₀.heap.get? b=some o->b≠X.env.locals:=λe=>Yy (Y3 (Yd e) I.ok.above);refine⟨I.ok,I.os,I.bare,⟨λb o e n hb hx=>(hs.2 b (nl e)).trans (I.base.keep b o e n hb hx),λb o e n hb hx=>?_,I.base.free,λb o e hx=>?_,I.base.tups,I.base.frzs,I.base.tbls⟩,⟨_,hn',λj y v' e1 e2 e3=>?_⟩,λy c e=>?_,I.free,I.freeC,λp hp=>?_,λb ob e=>?_,by simpa using I.len⟩
 ·obtain⟨sl,e1⟩:=I.base.slot b o e n hb hx;exact⟨sl,(hs.2 b (nl e)).trans e1⟩
 ·obtain⟨o',e1⟩:=I.base.there b o e hx;exact⟨o',(hs.2 b (nl e)).trans e1⟩
 ·by_cases hj:j=i
  ·subst hj;have hz:j<σ.length:=by rw[I.len];exact(Yk.mp hi).1
   rw[WR hz]at e2;cases e2
  ·rw[Qd (Ne.symm hj)]at e2;obtain⟨u',r',q⟩:=hm j y v' e1 e2 e3;refine⟨u',r',?_⟩;rcases q with⟨k,e⟩|⟨k,c,e,z⟩
   ·have hy:y≠n:=λz=>hj (NC hN e1 (z▸hi));exact .inl ⟨k,by simp[hy,e]⟩
   ·exact .inr ⟨k,c,e,z.sameBut hs (cne y c e)⟩
 ·obtain⟨w',z⟩:=I.cell y c e;exact⟨w',z.sameBut hs (cne y c e)⟩
 ·obtain⟨e,n,ne,nf,d⟩:=I.pin p hp;exact⟨(hs.2 p.1 ne).trans e,n,ne,nf,d⟩
 ·refine(I.hok b ob e).stay (λc u hc q=>(hs.2 c ?_).trans q) (λ_ q=>q) λ_ _ q=>q;rintro rfl;have hf:=I.free;rcases hc with z|z
  ·rw[←z,hf]at e;cases e
  ·rw[hf]at z;cases z
end
def sufD(i:Nat)(D:Ends):Ends:={nx:=λσ H=>D.nx (σ.set i none) H,rt:=D.rt,bk:=λσ H=>D.bk (σ.set i none) H,ct:=λσ H=>D.ct (σ.set i none) H}
def hx(K:Za)(C0:Addr)(i:Nat)(ts:TS)(D:Ends):L2.St->XK:=λσ c dx H=>∃C,c=.ref C/\PySem.W.exmOne K (.ref C) (.ref C0)=some true/\
 ∀a,H a=none->ts (sufD i D) (σ.set i (some (.ref a))) (upd H a (ErrD a C dx))
def By(CX:CXT)(X:Cx)(E:L2.St->XK):Prop:=∀(pins:List (Addr×Obj)) (σ:L2.St) (H:Hp) (s:Shared) (e:Value) (s':Shared),Inv X pins σ H s->CX X.stack H s (E σ) e s'->X.xe e s'
section
variable {X:Cx}{pins:List (Addr×Obj)}{D:Ends}{x n:Str}{np hpos pos:Pos}{b0:Stmt}{suite body:List Stmt}{C0:Addr}{i:Nat}{ts:TS}
def LO(hst:X.stack=X.env::X.outer)(hfr:X.env.frame=some X.env.locals)(hN:X.N.Nodup)(hi:X.N[i]?=some n)(hk:X.env.scope.names.lookup n=some .local)(hg:Gl X x)(hm:X.mg x=some (.ref C0))(hdb:(x==("__debug__" : Str))=false)(hs:∀a,PSs (sufX X a) (b0::suite) ts):By (CXe X.prog X.w) (tryX X pins D (.ExceptHandler (some (.Name x np)) (some n) (b0::suite) hpos)) (hx X.K C0 i ts D):=by
 rintro pins1 σ H s e s' I ⟨a,T,C,dx,H',rfl,y,C',ec,em,q⟩;obtain rfl:C=C':=Value.ref.inj ec;have I:=P9 I;have J:Inv X pins σ H' s':=I.call' (ch:=[]) y.os y.un y.hok y.bare λb z=>absurd z (by simp);have hF:=J.stack;have hA:=J.ok.frames;rw[hst]at hF hA;refine D2 hA hF hfr y.tr λh2 T2 hT2 tr2 k2=>?_
 have nT2:s.heap.get? T2=none:=by
  cases z:s.heap.get? T2 with
  |none=>rfl
  |some o=>
   obtain⟨o1,z1⟩:=y.un.there T2 o z (by simp);exact absurd (Yd z1) (Qr.mpr hT2)
 have fT2:H' T2=none:=y.hok.fresh hT2
 have u2:Un (frs X.stack) [] H H' s.heap h2:=NN y.un (by rw[hst];exact k2) λb hb=>by
  rcases Yh.mp hb with rfl|hb
  ·exact y.na
  ·rw[ZX.mp hb];exact y.nT
 have ok2:HOk X.prog X.w H' h2:=KW y.hok k2 (λb hb=>J.stkFree b (by rw[hst];exact hb)) λb hb=>by
  rcases Yh.mp hb with rfl|hb
  ·exact y.fa
  ·rw[ZX.mp hb];exact y.fT
 refine T9 (s:={s' with heap:=h2}) tr2 λh3 tr3 k3=>?_
 have u3:Un (frs X.stack) [] H H' s.heap h3:=NN u2 (k3.mono (by simp) λ_ z=>z) λb hb=>by rw[ZX.mp hb];exact nT2
 have ok3:HOk X.prog X.w H' h3:=KW ok2 k3 (by simp) λb hb=>by rw[ZX.mp hb];exact fT2
 have J3:Inv X pins σ H' {s' with heap:=h3}:=I.call' (s':={s' with heap:=h3}) (ch:=[]) y.os u3 ok3 y.bare λb z=>absurd z (by simp)
 have S3:Inv (sufX X a) pins σ H' {s' with heap:=h3}:=DE J3
 refine wpAny_handleBy_cons (codeAny_handlers_test (K9 S3 hg hm ?_ hdb)) (by intro z;cases z);obtain⟨_,⟨oe,vs,g1,g2,g3,g4⟩,_⟩:=id tr3;refine(PySem.W.exm_one (M:=model X.prog X.w) (cls:=.ref C) J3.kIn ((show oe.cls=Value.ref C from YD Prod.fst g2)▸(PySem.W.Looks.ld g1).andThen .now) em).here ?_
 refine codeAny_handlers_suite_as (T9 (s:={s' with heap:=h3}) tr3 λh4 tr4 k4=>?_)
 have u4:Un (frs X.stack) [] H H' s.heap h4:=NN u3 (k4.mono (by simp) λ_ z=>z) λb hb=>by rw[ZX.mp hb];exact nT2
 have ok4:HOk X.prog X.w H' h4:=KW ok3 k4 (by simp) λb hb=>by rw[ZX.mp hb];exact fT2
 have fr4:∀b,b=a->H b=none:=λb z=>by rw[z];exact Tt I.hok y.na
 have u5:Un (frs X.stack) [] H (upd H' a (ErrD a C dx)) s.heap h4:=by
  have ne:∀b o,s.heap.get? b=some o->b≠a:=λb o z w=>by rw[w,y.na]at z;cases z
  have ne2:∀b o,H' b=some o->b≠a:=λb o z w=>by rw[w,y.fa]at z;cases z
  refine⟨u4.keep,u4.slot,λb o z n m=>by rw[Jn (ne b o z)];exact u4.free b o z n m,u4.there,λb xs z=>?_,λb o u z=>?_,λb ps z=>?_⟩
  ·rw[Jn (ne2 b _ (u4.tups b xs z))];exact u4.tups b xs z
  ·rw[Jn (ne2 b _ (u4.frzs b o u z))];exact u4.frzs b o u z
  ·obtain⟨more,z1⟩:=u4.tbls b ps z;exact⟨more,by rw[Jn (ne2 b _ z1)];exact z1⟩
 have ok5:HOk X.prog X.w (upd H' a (ErrD a C dx)) h4:=λb ob e=>by
  by_cases hb:b=a
  ·subst hb;rw[Jw]at e;cases e
   exact Rj tr4
  ·rw[Jn hb]at e;refine(ok4 b ob e).stay (λ_ _ _ z=>z) (λc z=>?_) λc xs z=>?_
   ·rw[Jn λw=>by rw[w,y.fa]at z;cases z];exact z
   ·rw[Jn λw=>by rw[w,y.fa]at z;cases z];exact z
 have J5:Inv X pins σ (upd H' a (ErrD a C dx)) {s' with heap:=h4}:=I.call' (s':={s' with heap:=h4}) (ch:=[]) y.os u5 ok5 y.bare λb z=>absurd z (by simp)
 have S5:Inv (sufX X a) pins σ (upd H' a (ErrD a C dx)) {s' with heap:=h4}:=DE J5
 refine Ka (X:=sufX X a) S5 hN hi (.inl hk) (v:=.ref a) rfl (λs6 S6=>?_) (.inr hk);refine YB (hs a pins s6 _ _ _ S6 (q a y.fa)) (λf s7 h7=>?_) λ_ _ z=>z.elim
 have gone:∀{σ':L2.St} {H7:Hp} {R:Unit->Shared->Prop},Inv (sufX X a) pins σ' H7 s7->(∀s8,Inv X pins (σ'.set i none) H7 s8->R () s8)->wpAny (model X.prog X.w) X.A (do bindName X.env n .none;unbindBehindTheSuite X.env n hpos) R X.xe s7:=λ{σ' H7 R} S7 hR=>by
  obtain⟨m,hn,hl⟩:=id S7.loc;exact wpAny_nameGoes_keeps hk hn (by rw[show X.env.scope.kind=.function from J5.ok.kind];rfl) λh8 v hn8 hs8=>hR _ (Hd (Gm J5.ok S7) hN hi hk hl hn hn8 hs8)
 cases f with
 |next=>obtain⟨σ',H7,S7,q7⟩:=h7;exact gone S7 λs8 I8=>⟨_,_,I8,q7⟩
 |brk=>obtain⟨σ',H7,S7,q7⟩:=h7;exact gone S7 λs8 I8=>⟨_,_,I8,q7⟩
 |cont=>obtain⟨σ',H7,S7,q7⟩:=h7;exact gone S7 λs8 I8=>⟨_,_,I8,q7⟩
 |ret u=>obtain⟨v,σ',H7,S7,rv,q7⟩:=h7;exact gone S7 λs8 I8=>⟨v,_,_,I8,rv,q7⟩
def Ih{tb:Ends->TS}(hb:∀pins D,PSs (tryX X pins D (.ExceptHandler (some (.Name x np)) (some n) (b0::suite) hpos)) body (tb D)) :
  PS X (.Try body [.ExceptHandler (some (.Name x np)) (some n) (b0::suite) hpos] [] [] pos) (λD σ H=>tb D D σ H):=by
 intro pins s σ H D I h;refine wpAny_Try_except (YB (hb pins D [] s σ H D (GY I) h) (λf s1 h1=>?_) λ_ _ z=>z);cases f with
 |next=>
  obtain⟨σ',H',J,q⟩:=h1;exact ZW ⟨σ',H',P9 J,q⟩
 |brk=>obtain⟨σ',H',J,q⟩:=h1;exact⟨σ',H',P9 J,q⟩
 |cont=>obtain⟨σ',H',J,q⟩:=h1;exact⟨σ',H',P9 J,q⟩
 |ret u=>obtain⟨v,σ',H',J,r,q⟩:=h1;exact⟨v,σ',H',P9 J,r,q⟩
end
def Jm(mg:Str->Option Value)(x:Str):Addr:=match mg x with
 |some (.ref C)=>C
 |_=>0
def Su{mg:Str->Option Value}{x:Str}{C:Addr}(h:mg x=some (.ref C)):Jm mg x=C:=by unfold Jm;rw[h]
def UW{X:Cx}{x:Str}{v:V}{pos:Pos}(h:∃u,X.mg x=some u/\RelV v u)(hg:Gl X x:=by rfl)(hd:(x==("__debug__" : Str))=false:=by decide):PE X (.Name x pos) (tC v):=by
 obtain⟨u,h1,h2⟩:=h;exact OV hg h1 h2 hd
end ExcR
namespace Own
open PySem PySem.Spec PyProof.Rows L2 M
section
variable {X:Cx}{pins:List (Addr×Obj)}{σ:L2.St}{H:Hp}{s:Shared}
def DF{p:Int×Int}{its:List Value}(r:Vals [V.int p.1,V.int p.2] its):∃t1 t2,its=[.int p.1 t1,.int p.2 t2]:=by
 cases r with
 |cons r1 rr=>
  cases rr with
  |cons r2 r3=>
   cases r3
   obtain⟨t1,rfl⟩:=r1;obtain⟨t2,rfl⟩:=r2;exact⟨t1,t2,rfl⟩
def Ik{A:Around}{x y:V}{p q:Int×Int}{u v:Value}(I:Inv X pins σ H s)(hu:A.units<cLine)(rx:RelV x u)(ry:RelV y v)(hp:U7 H x p)(hq:U7 H y q):SeqAt.EqAt A s u v (decide (p=q)):=by
 obtain⟨a,rfl,ha⟩:=hp;obtain⟨b,rfl,hb⟩:=hq;obtain rfl:u=Value.ref a:=rx;obtain rfl:v=Value.ref b:=ry;by_cases hab:a=b
 ·subst hab;rw[ha]at hb
  have e:p=q:=by
   injection hb with hb;injection hb with hb;injection hb with h1 h2;injection h2 with h2 _;exact Prod.ext (V.int.inj h1) (V.int.inj h2)
  rw[Yb e];exact SeqAt.EqAt.same _
 ·obtain⟨_,its,r1,t1⟩:=(show ObjOk X.prog X.w H s.heap a (.tup [.int p.1,.int p.2])from I.hok a _ ha)
  obtain⟨_,jts,r2,t2⟩:=(show ObjOk X.prog X.w H s.heap b (.tup [.int q.1,.int q.2])from I.hok b _ hb)
  obtain⟨k1,k2,rfl⟩:=DF r1;obtain⟨k3,k4,rfl⟩:=DF r2
  have h:=SeqAt.RcAt.tuples (A:=A) (s:=s) (e:=λj=>if j=0 then p.1==q.1 else p.2==q.2) t1 t2 hu (λj h1 h2=>by
   have hj:j=0\/j=1:=by
    have h1':j<2:=h1;omega
   rcases hj with rfl|rfl
   ·exact SeqAt.EqAt.int_int _ _ _ _
   ·exact SeqAt.EqAt.int_int _ _ _ _)
  have e:((List.range (min ([Value.int p.1 k1,Value.int p.2 k2].toArray).size ([Value.int q.1 k3,Value.int q.2 k4].toArray).size)).all (λj=>if j=0 then p.1==q.1 else p.2==q.2)&&([Value.int p.1 k1,Value.int p.2 k2].toArray).size==([Value.int q.1 k3,Value.int q.2 k4].toArray).size)=decide (p=q):=by
   show((List.range 2).all (λj=>if j=0 then p.1==q.1 else p.2==q.2)&&true)=decide (p=q);rw[Bool.and_true];have e2:(List.range 2).all (λj=>if j=0 then p.1==q.1 else p.2==q.2)=((p.1==q.1)&&(p.2==q.2)):=by simp[List.range,List.range.loop]
   rw[e2];by_cases h1:p.1=q.1
   ·by_cases h2:p.2=q.2
    ·rw[Yb (Prod.ext h1 h2)];simp[h1,h2]
    ·rw[Ym (λz=>h2 (by rw[z]))];simp[h2]
   ·rw[Ym (λz=>h1 (by rw[z]))];simp[h1]
  rw[e]at h;exact SeqAt.EqAt.of_refs hab h
def eP(H:Hp)(q:Int×Int)(u:Value):Bool:=match u with
 | .ref a=>(match H a with
  |some (.tup [.int i,.int j])=>decide ((i,j)=q)
  |_=>false)
 |_=>false
def F1{v:V}{u:Value}{p q:Int×Int}(h:U7 H v p)(r:RelV v u):eP H q u=decide (p=q):=by
 obtain⟨a,rfl,ha⟩:=h;obtain rfl:u=Value.ref a:=r;unfold eP;simp only[ha]
def N5{q:Int×Int}:∀{vs:List V}{us:List Value}{ps:List (Int×Int)},Vals vs us->LV U7 H vs ps->us.any (eP H q)=decide (q∈ps)
 |_,_,[],.nil,_=>rfl
 |_,_,_::_,.nil,h=>absurd h.1 (by simp)
 |v::vs,u::us,[],.cons _ _,h=>absurd h.1 (by simp)
 |v::vs,u::us,p::ps,.cons r t,h=>by
  obtain⟨v',e,hv⟩:=h.2 0 p rfl;cases e
  have ht:LV U7 H vs ps:=⟨by simpa using h.1,λi x e=>h.2 (i+1) x e⟩;rw[WL,F1 hv r,N5 t ht];by_cases e1:p=q
  ·subst e1;simp
  ·by_cases e2:q∈ps
   ·simp[e1,e2]
   ·have:¬q=p:=λz=>e1 z.symm
    simp[e1,e2,this]
def rInP(neg:Bool):R2:=λx y H Q=>∃(l:Addr) (ps:List (Int×Int)) (q:Int×Int),y=.ref l/\U7 H x q/\LAt U7 H l ps/\Q (.bl (if neg then !decide (q∈ps)else decide (q∈ps))) H
def SZ{A:Around}{x:V}{v:Value}{q:Int×Int}(I:Inv X pins σ H s)(hu:A.units<cLine)(rx:RelV x v)(hx:U7 H x q):∀{vs:List V}{us:List Value}{ps:List (Int×Int)},Vals vs us->LV U7 H vs ps->∀u∈us,SeqAt.EqAt A s u v (eP H q u)
 |_,_,_,.nil,_,u,hu'=>by cases hu'
 |w::vs,u::us,[],.cons _ _,h,_,_=>absurd h.1 (by simp)
 |w::vs,u::us,p::ps,.cons r t,h,u',hu'=>by
  obtain⟨w',e,hw⟩:=h.2 0 p rfl;cases e
  have ht:LV U7 H vs ps:=⟨by simpa using h.1,λi x e=>h.2 (i+1) x e⟩;rcases Yh.mp hu' with rfl|hu'
  ·rw[F1 hw r];exact Ik I hu r rx hw hx
  ·exact SZ I hu rx hx t ht u' hu'
def Hz(hu:X.A.in1.units<cLine):OpR X (compareOp .In) (rInP false):=by
 intro pins s σ H x y v u Q I rx ry h;obtain⟨l,ps,q,rfl,hx,⟨vs,hl,hv⟩,k⟩:=h;cases ry
 obtain⟨its,r,pl,hz⟩:=I.list (SqL.of hl);refine SeqAt.in_listAt (eP H q) pl.isList (λw hw=>SZ I hu rx hx r hv w (by simpa using hw)) ⟨.bl _,H,I,rfl,?_⟩;rw[show its.toArray.any (eP H q)=its.any (eP H q) by simp,N5 r hv];exact k
def Lj(hu:X.A.in1.units<cLine):OpR X (compareOp .NotIn) (rInP true):=by
 intro pins s σ H x y v u Q I rx ry h;obtain⟨l,ps,q,rfl,hx,⟨vs,hl,hv⟩,k⟩:=h;cases ry
 obtain⟨its,r,pl,hz⟩:=I.list (SqL.of hl);refine SeqAt.notIn_listAt (eP H q) pl.isList (λw hw=>SZ I hu rx hx r hv w (by simpa using hw)) ⟨.bl _,H,I,rfl,?_⟩;rw[show its.toArray.any (eP H q)=its.any (eP H q) by simp,N5 r hv];exact k
end
end Own
namespace M
open PySem PySem.Spec PyProof.Rows L2 Own
section
variable {α:Type}{R:Hp->V->α->Prop}{H:Hp}
def pick(c:α->Bool)(d:V×α):Option V:=if c d.2=true then some d.1 else none
end
end M
namespace Own
open PySem PySem.Spec PyProof.Rows L2
section
variable {X:Cx}{K:Za}
def Al(hc:X.calm=true)(hK:X.K=K:=by rfl):Uh X (.builtin "sum") (λxs H Q=>∃(p:Addr) (ns:List Int),xs=[.ref p]/\SqL K H p (ns.map V.int)/\Q (.int ns.sum) H):=by
 subst hK;intro pins s σ H xs us Q I rv h;obtain⟨p,ns,rfl,hS,q⟩:=h;obtain⟨u,rfl,ru⟩:=rv.one;obtain rfl:u=Value.ref p:=ru;obtain⟨its,r,pl,_⟩:=I.list hS;have hi:IntsAre its ns:=by simpa using TB r
 obtain⟨ys,hx⟩:=hi.allInts.items;have hl:=pl.isList;rw[hx]at hl;refine sum_intListG (I.ok.hd hc) hl λh' tk t' hk=>?_
 have e1:ns=ys.toList.map (·.1):=by
  rw[←nums_intItems,←hx];exact(show numsOf its.toArray.toList=ns from hi.numsOf).symm
 have e2:preSum (numAt ys) ys.size=ns.sum:=by
  rw[preSum_eq,WT (by simp),e1]
 rw[e2];exact⟨.int ns.sum,H,I.kept (t':=tk) hk,⟨_,rfl⟩,q⟩
def MN(hc:X.calm=true)(hK:X.K=K:=by rfl):Uh X (.builtin "min") (λxs H Q=>∃(p:Addr) (ns:List Int),xs=[.ref p]/\SqL K H p (ns.map V.int)/\0<ns.length/\∀M,M∈ns->(∀a∈ns,M<=a)->Q (.int M) H):=by
 subst hK;intro pins s σ H xs us Q I rv h;obtain⟨p,ns,rfl,hS,hne,q⟩:=h;obtain⟨u,rfl,ru⟩:=rv.one;obtain rfl:u=Value.ref p:=ru;obtain⟨its,r,pl,_⟩:=I.list hS;have hi:IntsAre its ns:=by simpa using TB r
 obtain⟨ys,e⟩:=hi.allInts.items;have hl:=pl.isList;rw[e]at hl;have hns:ns=ys.toList.map (·.1):=by rw[←hi.numsOf,←nums_intItems,←e]
 have hsz:0<ys.size:=by
  have h3:=hne;rw[hns,ZV,YE]at h3;exact h3
 refine min_intList (I.ok.hd hc) hl hsz λv h' tk hv hk=>?_;obtain⟨t,rfl⟩:=intItems_at hv;obtain⟨h1,h2⟩:=argBest_lt (numAt ys) (ys.size-1);refine⟨.int _,H,I.kept (t':=tk) hk,⟨_,rfl⟩,q _ ?_ λa ha=>?_⟩
 ·rw[hns,numAt_eq];exact getD_mem (by rw[ZV,YE];omega)
 ·rw[hns]at ha;obtain⟨j,hj,rfl⟩:=Y9.mp ha;rw[ZV,YE]at hj
  have:=h2 j (by omega)
  rw[numAt_eq ys j]at this;rw[Yp,ZU (by rw[ZV,YE];exact hj)]at this;exact this
def Cp:∀{bs:List Bool}{us:List Value},Vals (bs.map V.bl) us->LSm.BoolsAre us bs
 |[],_,.nil=>.nil
 |b::r,_,.cons h t=>by
  cases (show _=Value.bool b from h)
  exact .cons b (Cp t)
def Cy(hc:X.calm=true)(hK:X.K=K:=by rfl):Uh X (.builtin "any") (λxs H Q=>∃(p:Addr) (bs:List Bool),xs=[.ref p]/\SqL K H p (bs.map V.bl)/\Q (.bl (bs.any id)) H):=by
 subst hK;intro pins s σ H xs us Q I rv h;obtain⟨p,bs,rfl,hS,q⟩:=h;obtain⟨u,rfl,ru⟩:=rv.one;obtain rfl:u=Value.ref p:=ru;obtain⟨its,r,pl,_⟩:=I.list hS;have hb:=Cp r;have hl:=pl.isList;have hlt:p<s.heap.objs.size:=by obtain⟨_,e,_⟩:=hl;exact Yd e
 refine call_any_walk (wpAny_pyIter_list hl ?_)
 refine⟨s.heap.objs.size,[s.heap.objs.size,p],[s.heap.objs.size],its.toArray.size,_,_,λi=>(bs[i]?).getD false,rfl,Walks.list (A:=X.A.in1) (I.ok.hd hc) _ p (Yy hlt) its.toArray,
  ⟨⟨_,Yi _ rfl,rfl,rfl⟩,hl.push _⟩,λi v s' Q' E' hP hQ=>?_,λh' tk hk=>?_⟩
 ·obtain⟨b,e,rfl⟩:=hb.get i v (by simpa using hP);simp only[e,Option.getD_some]at hQ;exact W8 hQ
 ·have e:((List.range its.toArray.size).any λi=>(bs[i]?).getD false)=bs.any id:=by
   rw[Yo,hb.length];exact LSm.range_any bs
  rw[e];exact⟨.bl (bs.any id),H,I.kept (t':=tk) (LSm.kept_iter hk),rfl,q⟩
def rEqE(K:Za)(neg:Bool):R2:=λx y H Q=>∃(p q:Addr) (xs:List V),x=.ref p/\y=.ref q/\SqL K H p xs/\SqL K H q []/\Q (.bl (if neg then !xs.isEmpty else xs.isEmpty)) H
def Gs(hu:X.A.units<cLine)(hK:X.K=K:=by rfl):OpR X (compareOp .Eq) (rEqE K false):=by
 subst hK;intro pins s σ H x y v u Q I rx ry h;obtain⟨p,q,xs,rfl,rfl,hp,hq,k⟩:=h;obtain rfl:v=Value.ref p:=rx;obtain rfl:u=Value.ref q:=ry;obtain⟨us,r1,p1,_⟩:=I.list hp;obtain⟨ws,r2,p2,_⟩:=I.list hq;have l1:=r1.length;have l2:0=ws.length:=r2.length;have k':Q (.bl xs.isEmpty) H:=k;by_cases e:xs.length=0
 ·refine SeqAt.eq_listAt (e:=λ_=>true) p1.isList p2.isList (by simp;omega) hu (λj h1 h2=>by simp at h2;omega) ⟨.bl xs.isEmpty,H,I,?_,k'⟩;show _=Value.bool xs.isEmpty
  have:xs=[]:=Wu.mp e
  subst this;rw[Yo,←l1];rfl
 ·refine SeqAt.eq_list_lengthsAt p1.isList p2.isList (by simp;omega) hu ⟨.bl xs.isEmpty,H,I,?_,k'⟩;show _=Value.bool xs.isEmpty;cases xs with
  |nil=>exact absurd rfl e
  |cons a r=>rfl
end
end Own
namespace M
open PySem PySem.Spec PyProof.Rows L2 Own
def X6(ws:List (Int×Int))(ls:List Int):List (Int×Int):=ws.filter λq=>decide (q.1∈ls)&&decide (q.2∈ls)
def UB(ws:List (Int×Int))(ls:List Int):List Int:=ls.filter λh=>decide (h∈(X6 ws ls).map (·.2))
def JB(ws:List (Int×Int))(ls:List Int):Nat->List Int
 | 0=>ls
 |n+1=>UB ws (JB ws ls n)
def KG(ws:List (Int×Int))(r:List Int):Prop:=∀(i:Nat) (x y:Int),r[i]?=some x->r[i+1]?=some y->(x,y)∈ws
structure Ring (hs:List Int) (ws:List (Int×Int)) (r:List Int):Prop where
 two:2<=r.length
 nodup:r.Nodup
 sub:∀x∈r,x∈hs
 chain:KG ws r
 last:∀x y,r[0]?=some x->r[r.length-1]?=some y->(y,x)∈ws
def Ring.ahead {hs:List Int}{ws:List (Int×Int)}{r:List Int} (R:Ring hs ws r) {x:Int} (hx:x∈r):∃y∈r,(y,x)∈ws:=by
 obtain⟨i,hi,e⟩:=Y9.mp hx;have two:=R.two;cases i with
 |zero=>
  have hl:r.length-1<r.length:=by omega
  exact⟨r[r.length-1],Yr hl,R.last x _ (by rw[ZU hi,e]) (ZU hl)⟩
 |succ i=>
  have hl:i<r.length:=by omega
  exact⟨r[i],Yr hl,R.chain i _ x (ZU hl) (by rw[ZU hi,e])⟩
def mem_peel{ws:List (Int×Int)}{ls:List Int}{x:Int}:x∈UB ws ls↔x∈ls/\∃y∈ls,(y,x)∈ws:=by
 unfold UB X6;rw[Y2];constructor
 ·rintro⟨h1,h2⟩;obtain⟨q,hq,e⟩:=Y4.mp (Yg h2);obtain⟨h3,h4⟩:=Y2.mp hq;rw[Y5]at h4;refine⟨h1,q.1,Yg h4.1,?_⟩;rw[←e];exact h3
 ·rintro⟨h1,y,h2,h3⟩;refine⟨h1,Yb (Y4.mpr ⟨(y,x),Y2.mpr ⟨h3,?_⟩,rfl⟩)⟩;rw[Yb h2,Yb h1];rfl
def Nv{hs:List Int}{ws:List (Int×Int)}{r:List Int}(R:Ring hs ws r):∀(n:Nat) (x:Int),x∈r->x∈JB ws hs n
 | 0,x,hx=>R.sub x hx
 |n+1,x,hx=>by
  obtain⟨y,hy,h⟩:=R.ahead hx;exact mem_peel.mpr ⟨Nv R n x hx,y,Nv R n y hy,h⟩
def Sq(ws:List (Int×Int))(ls:List Int):(UB ws ls).Sublist ls:=QP
def Cj(ws:List (Int×Int))(hs:List Int):∀n,(JB ws hs n).Sublist hs
 | 0=>List.Sublist.refl _
 |n+1=>(Sq ws _).trans (Cj ws hs n)
def Ag(ws:List (Int×Int))(hs:List Int):∀n,(∃k,k<n/\UB ws (JB ws hs k)=JB ws hs k)\/(JB ws hs n).length+n<=hs.length
 | 0=>.inr (Yc _)
 |n+1=>by
  rcases Ag ws hs n with⟨k,hk,e⟩|h
  ·exact .inl ⟨k,by omega,e⟩
  ·by_cases e:UB ws (JB ws hs n)=JB ws hs n
   ·exact .inl ⟨n,by omega,e⟩
   ·have hl:(UB ws (JB ws hs n)).length<(JB ws hs n).length:=by
     have h1:=(Sq ws (JB ws hs n)).length_le;rcases Nat.lt_or_ge (UB ws (JB ws hs n)).length (JB ws hs n).length with h2|h2
     ·exact h2
     ·exact absurd ((Sq ws (JB ws hs n)).eq_of_length (by omega)) e
    refine .inr ?_;show(UB ws (JB ws hs n)).length+(n+1)<=hs.length;omega
def AA(ws:List (Int×Int))(hs:List Int){k:Nat}(e:UB ws (JB ws hs k)=JB ws hs k):∀n,JB ws hs (k+n)=JB ws hs k
 | 0=>rfl
 |n+1=>by
  show UB ws (JB ws hs (k+n))=_;rw[AA ws hs e n,e]
def KZ:∀{xs ys:List Int},xs.Nodup->(∀x∈xs,x∈ys)->xs.length<=ys.length
 |[],_,_,_=>We _
 |x::xs,ys,nd,h=>by
  obtain⟨h1,h2⟩:=Y8.mp nd;have hx:x∈ys:=h x (Yz ..);have ih:=KZ (ys:=ys.erase x) h2 λz hz=>(List.mem_erase_of_ne (λe:z=x=>h1 (e▸hz))).mpr (h z (Yq _ hz));rw[List.length_erase_of_mem hx]at ih
  have:0<ys.length:=List.length_pos_of_mem hx
  rw[Y1];omega
def DR{ws:List (Int×Int)}{ls:List Int}(hu:∀q∈ws,q.1≠q.2)(hne:ls≠[])(h:∀x∈ls,∃y∈ls,(y,x)∈ws):∃r,Ring ls ws r:=by
 have grow:∀(n:Nat) (r:List Int),r≠[]->r.Nodup->(∀x∈r,x∈ls)->KG ws r->ls.length<r.length+n->∃r,Ring ls ws r:=by
  intro n
  induction n with
  |zero=>
   intro r hr nd sub ch hl
   have:=KZ nd sub
   omega
  |succ n ih=>
   intro r hr nd sub ch hl;cases r with
   |nil=>exact absurd rfl hr
   |cons x t=>
    obtain⟨y,hy,hw⟩:=h x (sub x (Yz ..));by_cases hm:y∈x::t
    ·obtain⟨i,hi,e⟩:=Y9.mp hm
     have hi0:i≠0:=λz=>by
      subst z;have e':x=y:=e;exact hu _ hw e'.symm
     have hlen:((x::t).take (i+1)).length=i+1:=by
      rw[Y7];omega
     refine⟨(x::t).take (i+1),by omega,nd.sublist (WU _ _),λz hz=>sub z (QL hz),λk a b h1 h2=>?_,λa b h1 h2=>?_⟩
     ·have hk:k+1<i+1:=by
       have:=(Yk.mp h2).1
       omega
      rw[Wc (by omega)]at h1;rw[Wc hk]at h2;exact ch k a b h1 h2
     ·rw[hlen,Nat.add_sub_cancel,Wc (by omega),ZU hi,e]at h2;rw[Wc (by omega)]at h1;cases h1
      cases h2
      exact hw
    ·refine ih (y::x::t) (by simp) (Y8.mpr ⟨hm,nd⟩) (λz hz=>?_) (λk a b h1 h2=>?_) (by rw[Y1];omega)
     ·rcases Yh.mp hz with rfl|hz
      ·exact hy
      ·exact sub z hz
     ·cases k with
      |zero=>
       cases h1
       cases h2
       exact hw
      |succ k=>exact ch k a b h1 h2
 obtain⟨x,hx⟩:=List.exists_mem_of_ne_nil ls hne;exact grow (ls.length+1) [x] (by simp) (by simp) (λy hy=>by rw[ZX.mp hy];exact hx) (λi a b h1 h2=>by simp at h2) (by show ls.length<1+(ls.length+1);omega)
def T7{ws:List (Int×Int)}{hs:List Int}(hu:∀q∈ws,q.1≠q.2):JB ws hs hs.length=[]↔¬ ∃r,Ring hs ws r:=by
 constructor
 ·rintro h ⟨r,R⟩;have two:=R.two;have h0:0<r.length:=by omega
  have:=Nv R hs.length r[0] (Yr h0)
  rw[h]at this;cases this
 ·intro h;rcases Ag ws hs hs.length with⟨k,hk,e⟩|hl
  ·have e2:=AA ws hs e (hs.length-k);rw[show k+(hs.length-k)=hs.length by omega]at e2;rw[e2];by_cases hne:JB ws hs k=[]
   ·exact hne
   ·obtain⟨r,R⟩:=DR hu hne (λx hx=>by
     rw[←e]at hx;exact(mem_peel.mp hx).2)
    exact absurd ⟨r,R.two,R.nodup,λx hx=>(Cj ws hs k).subset (R.sub x hx),R.chain,R.last⟩ h
  ·exact Wu.mp (by omega)
end M
namespace M
def sl:List Int->List Int->Prop
 |x::xs,y::ys=>x<y\/(x=y/\sl xs ys)
 |_,_=>False
def sl_cons{l:Int}{a b:List Int}:sl (l::a) (l::b)↔sl a b:=by
 show(l<l\/(l=l/\sl a b))↔sl a b;constructor
 ·rintro(h|⟨_,h⟩)
  ·omega
  ·exact h
 ·exact λh=>.inr ⟨rfl,h⟩
def Ny:∀{a b:List Int} (x y:Int),sl a b->sl (a++[x]) (b++[y])
 |[],[],_,_,h=>by unfold sl at h;exact h.elim
 |[],_::_,_,_,h=>by unfold sl at h;exact h.elim
 |_::_,[],_,_,h=>by unfold sl at h;exact h.elim
 |p::a,q::b,x,y,h=>by
  rw[Wi,Wi];unfold sl at h ⊢;rcases h with h|⟨h1,h2⟩
  ·exact .inl h
  ·exact .inr ⟨h1,Ny x y h2⟩
def D6:∀{a:List Int}{x y:Int},x<y->sl (a++[x]) (a++[y])
 |[],x,y,h=>.inl h
 |p::a,x,y,h=>by
  rw[Wi,Wi];exact .inr ⟨rfl,D6 h⟩
def SA:∀{a b c:List Int},sl a b->sl b c->sl a c
 |[],b,c,h,_=>by unfold sl at h;exact h.elim
 |_::_,[],_,h,_=>by unfold sl at h;exact h.elim
 |_::_,_::_,[],_,h=>by unfold sl at h;exact h.elim
 |x::a,y::b,z::c,h1,h2=>by
  unfold sl at h1 h2 ⊢;rcases h1 with h1|⟨h1,k1⟩
  ·rcases h2 with h2|⟨h2,k2⟩
   ·exact .inl (by omega)
   ·exact .inl (by omega)
  ·rcases h2 with h2|⟨h2,k2⟩
   ·exact .inl (by omega)
   ·exact .inr ⟨by omega,SA k1 k2⟩
def Jq(g:Int):List Int->Int
 |[]=>g
 |x::t=>Jq x t
def U2(g:Int):∀(a b:List Int),Jq g (a++b)=Jq (Jq g a) b
 |[],b=>rfl
 |x::a,b=>U2 x a b
def TC(g:Int):∀(t:List Int),(g::t)[t.length]?=some (Jq g t)
 |[]=>rfl
 |x::t=>by
  rw[Y1,WK];exact TC x t
def Path(C:Int->Prop)(ws:List (Int×Int)):Int->List Int->Prop
 |_,[]=>True
 |g,x::t=>C x/\(g,x)∈ws/\Path C ws x t
section
variable {C:Int->Prop}{ws:List (Int×Int)}
def path_app:∀{g:Int}{a b:List Int},Path C ws g (a++b)↔Path C ws g a/\Path C ws (Jq g a) b
 |g,[],b=>⟨λh=>⟨trivial,h⟩,λh=>h.2⟩
 |g,x::a,b=>by
  rw[Wi];constructor
  ·rintro⟨h1,h2,h3⟩
   have:=path_app.mp h3
   exact⟨⟨h1,h2,this.1⟩,this.2⟩
  ·rintro⟨⟨h1,h2,h3⟩,h4⟩;exact⟨h1,h2,path_app.mpr ⟨h3,h4⟩⟩
def Se:∀{g:Int}{t:List Int},Path C ws g t->∀x∈t,C x
 |g,[],_,x,h=>by cases h
 |g,y::t,⟨h1,_,h3⟩,x,h=>by
  rcases Yh.mp h with rfl|h
  ·exact h1
  ·exact Se h3 x h
def CZ:∀{g:Int}{t:List Int},Path C ws g t->KG ws (g::t)
 |g,[],_=>λi x y h1 h2=>by simp at h2
 |g,z::t,⟨h1,h2,h3⟩=>λi x y k1 k2=>by
  cases i with
  |zero=>
   cases k1
   cases k2
   exact h2
  |succ i=>exact CZ h3 i x y k1 k2
def BO:∀{g:Int}{t:List Int},KG ws (g::t)->(∀x∈t,C x)->Path C ws g t
 |g,[],_,_=>trivial
 |g,z::t,h,hc=>⟨hc z Yz,h 0 g z rfl rfl,BO (λi x y k1 k2=>h (i+1) x y k1 k2) λx hx=>hc x (Yq _ hx)⟩
end
def Gr(hs:List Int)(l:Int):Int->Prop:=λx=>x∈hs/\l<x
def Uw(hs:List Int)(ws:List (Int×Int))(l:Int)(t:List Int):Prop:=Path (Gr hs l) ws l t/\(Jq l t,l)∈ws
def RF(hs:List Int)(ws:List (Int×Int))(l:Int)(r:List Int):Prop:=
 (r=[]/\∀t,¬Uw hs ws l t)\/∃t,r=l::t/\Uw hs ws l t/\∀u,Uw hs ws l u->t.length<u.length\/(t.length=u.length/\(t=u\/sl t u))
structure Lev (hs:List Int) (ws:List (Int×Int)) (l:Int) (k:Nat) (ps:List (List Int)) (ls:List Int):Prop where
 way:∀p∈ps,p.length=k/\Path (Gr hs l) ws l p
 srt:ps.Pairwise sl
 lin:∀h∈ls,Gr hs l h
 lsrt:ls.Pairwise (· < ·)
 cover:∀t,t.length<=k->Path (Gr hs l) ws l t->Jq l t∉ls
 first:∀t,t.length=k->Path (Gr hs l) ws l t->(∃p∈ps,Jq l p=Jq l t/\(p=t\/sl p t))\/∃u,u.length<k/\Path (Gr hs l) ws l u/\Jq l u=Jq l t
 none:∀t,t.length<k->¬Uw hs ws l t
 comp:∀h,Gr hs l h->h∉ls->∃t,t.length<=k/\Path (Gr hs l) ws l t/\Jq l t=h
section
variable {hs:List Int}{ws:List (Int×Int)}{l:Int}{k:Nat}{ps:List (List Int)}{ls:List Int}
def Lev.start (hl:ls.Pairwise (· < ·)) (hm:∀h,h∈ls↔Gr hs l h):Lev hs ws l 0 [[]] ls:=by
 have nil:∀t:List Int,t.length=0->t=[]:=λt h=>Wu.mp h;refine⟨λp hp=>?_,by simp,λh hh=>(hm h).mp hh,hl,λt ht _ h=>?_,λt ht _=>.inl ⟨[],by simp,by rw[nil t ht],.inl (nil t ht).symm⟩,λt ht=>by omega,λh hh hn=>absurd ((hm h).mpr hh) hn⟩
 ·rw[ZX.mp hp];exact⟨rfl,trivial⟩
 ·rw[nil t (by omega)]at h
  have:=((hm _).mp h).2
  exact absurd this (by show ¬l<l;omega)
def Lev.found (L:Lev hs ws l k ps ls) {p:List Int}{i:Nat} (hi:i<ps.length) (ep:ps[i]=p) (hc:(Jq l p,l)∈ws) (hf:∀j (hj:j<ps.length),j<i->(Jq l ps[j],l)∉ws):RF hs ws l (l::p):=by
 have hp:p∈ps:=by rw[←ep];exact Yr hi
 obtain⟨w1,w2⟩:=L.way p hp;refine .inr ⟨p,rfl,⟨w2,hc⟩,λu hu=>?_⟩;by_cases h1:u.length<k
 ·exact absurd hu (L.none u h1)
 ·by_cases h2:u.length=k
  ·rcases L.first u h2 hu.1 with⟨q,hq,e1,e2⟩|⟨v,v1,v2,v3⟩
   ·refine .inr ⟨by omega,?_⟩;obtain⟨j,hj,ej⟩:=Y9.mp hq;have hcq:(Jq l ps[j],l)∈ws:=by rw[ej,e1];exact hu.2
    have hij:i<=j:=Nat.le_of_not_lt λz=>hf j hj z hcq
    have hpq:p=q\/sl p q:=by
     by_cases e:i=j
     ·subst e;exact .inl (ep.symm.trans ej)
     ·have:=YN.mp L.srt i j hi hj (by omega)
      rw[ep,ej]at this;exact .inr this
    rcases hpq with rfl|hpq
    ·exact e2
    ·rcases e2 with rfl|e2
     ·exact .inr hpq
     ·exact .inr (SA hpq e2)
   ·exact absurd ⟨v2,by rw[v3];exact hu.2⟩ (L.none v v1)
  ·exact .inl (by omega)
def Lev.none_here (L:Lev hs ws l k ps ls) (h:∀p∈ps,(Jq l p,l)∉ws):∀t,t.length<k+1->¬Uw hs ws l t:=λt ht hc=>by
 by_cases h1:t.length<k
 ·exact L.none t h1 hc
 ·rcases L.first t (by omega) hc.1 with⟨q,hq,e1,e2⟩|⟨v,v1,v2,v3⟩
  ·exact h q hq (by rw[e1];exact hc.2)
  ·exact L.none v v1 ⟨v2,by rw[v3];exact hc.2⟩
def Lev.over (L:Lev hs ws l k [] ls):RF hs ws l []:=by
 refine .inl ⟨rfl,?_⟩
 have early:∀(n:Nat) (t:List Int),t.length=n->Path (Gr hs l) ws l t->∃u,u.length<k/\Path (Gr hs l) ws l u/\Jq l u=Jq l t:=by
  intro n
  induction n with
  |zero=>
   intro t ht hp;by_cases hk:0<k
   ·exact⟨t,by omega,hp,rfl⟩
   ·rcases L.first t (by omega) hp with⟨q,hq,_⟩|⟨v,v1,_⟩
    ·cases hq
    ·omega
  |succ n ih=>
   intro t ht hp;have ne:t≠[]:=λz=>by rw[z]at ht;cases ht
   have et:t=t.dropLast++[t.getLast ne]:=(Qb ne).symm;generalize t.getLast ne=x at et;generalize t.dropLast=s at et;subst et;obtain⟨p1,p2⟩:=path_app.mp hp;obtain⟨u,u1,u2,u3⟩:=ih s (by simpa using ht) p1;have pu:Path (Gr hs l) ws l (u++[x]):=path_app.mpr ⟨u2,by rw[u3];exact p2⟩;have lu:Jq l (u++[x])=Jq l (s++[x]):=by rw[U2,U2];rfl
   by_cases h1:(u++[x]).length<k
   ·exact⟨_,h1,pu,lu⟩
   ·rcases L.first (u++[x]) (by rw[Yl]at h1 ⊢;simp at h1 ⊢;omega) pu with⟨q,hq,_⟩|⟨v,v1,v2,v3⟩
    ·cases hq
    ·exact⟨v,v1,v2,v3.trans lu⟩
 intro t hc;obtain⟨u,u1,u2,u3⟩:=early t.length t rfl hc.1;exact L.none u u1 ⟨u2,by rw[u3];exact hc.2⟩
structure LG (ws:List (Int×Int)) (l:Int) (P:List Int->Int->Prop) (lg:List (List Int)):Prop where
 mem:∀q∈lg,∃p h,P p h/\q=p++[h]/\(Jq l p,h)∈ws
 srt:lg.Pairwise sl
 has:∀p h,P p h->(Jq l p,h)∈ws->∃p',p'++[h]∈lg/\(p'=p\/sl p' p)
def Lev.next {lg:List (List Int)}{ls':List Int} (L:Lev hs ws l k ps ls) (hn:∀p∈ps,(Jq l p,l)∉ws) (G:LG ws l (λp h=>p∈ps/\h∈ls) lg)
  (e:ls'=ls.filter λh=>decide (¬h∈lg.map (Jq l))):Lev hs ws l (k+1) lg ls':=by
 have mem':∀h,h∈ls'↔h∈ls/\¬h∈lg.map (Jq l):=λh=>by rw[e,Y2,WA]
 have way':∀q∈lg,q.length=k+1/\Path (Gr hs l) ws l q:=λq hq=>by
  obtain⟨p,h,⟨h1,h2⟩,rfl,h3⟩:=G.mem q hq;obtain⟨w1,w2⟩:=L.way p h1;exact⟨by simp[w1],path_app.mpr ⟨w2,L.lin h h2,h3,trivial⟩⟩
 have reach:∀(s:List Int) (x:Int),s.length=k->Path (Gr hs l) ws l s->Gr hs l x->(Jq l s,x)∈ws->x∈ls->∃p∈ps,Jq l p=Jq l s/\(p=s\/sl p s):=λs x h1 h2 h3 h4 h5=>by
  rcases L.first s h1 h2 with z|⟨v,v1,v2,v3⟩
  ·exact z
  ·have:=L.cover (v++[x]) (by simp;omega) (path_app.mpr ⟨v2,h3,by rw[v3];exact h4,trivial⟩)
   rw[U2]at this;exact absurd h5 this
 refine⟨way',G.srt,λh hh=>L.lin h ((mem' h).mp hh).1,?_,λt ht hp hl=>?_,λt ht hp=>?_,L.none_here hn,λh hg hnl=>?_⟩
 ·rw[e];exact L.lsrt.filter _
 ·obtain⟨m1,m2⟩:=(mem' _).mp hl;by_cases h1:t.length<=k
  ·exact L.cover t h1 hp m1
  ·have ne:t≠[]:=λz=>by rw[z]at h1;simp at h1
   have et:t=t.dropLast++[t.getLast ne]:=(Qb ne).symm;generalize t.getLast ne=x at et;generalize t.dropLast=s at et;subst et;obtain⟨p1,p2,p3,_⟩:=path_app.mp hp;rw[U2]at m1 m2;obtain⟨p,hp',e1,_⟩:=reach s x (by simp at ht h1;omega) p1 p2 p3 m1;obtain⟨p',k1,_⟩:=G.has p x ⟨hp',m1⟩ (by rw[e1];exact p3);exact m2 (Y4.mpr ⟨_,k1,by rw[U2];rfl⟩)
 ·have ne:t≠[]:=λz=>by rw[z]at ht;simp at ht
  have et:t=t.dropLast++[t.getLast ne]:=(Qb ne).symm;generalize t.getLast ne=x at et;generalize t.dropLast=s at et;subst et;obtain⟨p1,p2,p3,_⟩:=path_app.mp hp;have hs':s.length=k:=by simpa using ht
  by_cases hx:x∈ls
  ·obtain⟨p,hp',e1,e2⟩:=reach s x hs' p1 p2 p3 hx;obtain⟨p',k1,k2⟩:=G.has p x ⟨hp',hx⟩ (by rw[e1];exact p3);refine .inl ⟨_,k1,by rw[U2,U2];rfl,?_⟩
   have:p'=s\/sl p' s:=by
    rcases k2 with rfl|k2
    ·exact e2
    ·rcases e2 with rfl|e2
     ·exact .inr k2
     ·exact .inr (SA k2 e2)
   rcases this with rfl|h
   ·exact .inl rfl
   ·exact .inr (Ny x x h)
  ·obtain⟨u,u1,u2,u3⟩:=L.comp x p2 hx;exact .inr ⟨u,by omega,u2,by rw[u3,U2];rfl⟩
 ·by_cases hx:h∈ls
  ·have:h∈lg.map (Jq l):=YC λz=>hnl ((mem' h).mpr ⟨hx,z⟩)
   obtain⟨q,hq,e1⟩:=Y4.mp this;obtain⟨w1,w2⟩:=way' q hq;exact⟨q,by omega,w2,e1⟩
  ·obtain⟨u,u1,u2,u3⟩:=L.comp h hg hx;exact⟨u,by omega,u2,u3⟩
end
def FR(hs:List Int)(ws:List (Int×Int))(r:List Int):Prop:=
 (r=[]/\∀l∈hs,∀t,¬Uw hs ws l t)\/∃l t,r=l::t/\l∈hs/\Uw hs ws l t/\∀m∈hs,∀u,Uw hs ws m u->t.length<u.length\/(t.length=u.length/\(l<m\/(l=m/\(t=u\/sl t u))))
def DT:∀(r:List Int),r≠[]->∃i,∃h:i<r.length,∀x∈r,r[i]<=x
 |[],h=>absurd rfl h
 |[a],_=>⟨0,by simp,λx hx=>by rw[ZX.mp hx];exact Int.le_refl _⟩
 |a::b::r,_=>by
  obtain⟨i,hi,h⟩:=DT (b::r) (by simp);by_cases c:a<=(b::r)[i]
  ·refine⟨0,by simp,λx hx=>?_⟩;rcases Yh.mp hx with rfl|hx
   ·exact Int.le_refl _
   ·exact Int.le_trans c (h x hx)
  ·refine⟨i+1,by simpa using hi,λx hx=>?_⟩;have e:(a::b::r)[i+1]'(by simpa using hi)=(b::r)[i]:=rfl;rw[e];rcases Yh.mp hx with rfl|hx
   ·omega
   ·exact h x hx
def Dr(r:List Int){i j:Nat}(hi:i<=r.length):(r.drop i++r.take i)[j]?=if i+j<r.length then r[i+j]? else if j<r.length then r[i+j-r.length]? else none:=by
 rw[List.getElem?_append,Q9,List.getElem?_drop];by_cases h:i+j<r.length
 ·rw[Ya (by omega),Ya h]
 ·rw[ZZ (by omega),ZZ h,List.getElem?_take];by_cases h2:j<r.length
  ·rw[Ya (by omega),Ya h2];congr 1;omega
  ·rw[ZZ (by omega),ZZ h2]
def Mt{hs:List Int}{ws:List (Int×Int)}{r:List Int}(R:Ring hs ws r):∃l∈hs,∃t,Uw hs ws l t/\t.length+1=r.length:=by
 have two:=R.two;obtain⟨i,hi,hmin⟩:=DT r (λz=>by rw[z]at two;simp at two);have erot:r.drop i++r.take i=r[i]::(r.drop (i+1)++r.take i):=by rw[Qi hi];rfl
 have hlen:(r.drop (i+1)++r.take i).length+1=r.length:=by rw[Yl,Q9,Y7];omega
 have ch:KG ws (r[i]::(r.drop (i+1)++r.take i)):=by
  rw[←erot];intro j x y h1 h2;rw[Dr r (by omega)]at h1 h2;by_cases c1:i+(j+1)<r.length
  ·rw[Ya c1]at h2;rw[Ya (by omega)]at h1;exact R.chain (i+j) x y h1 h2
  ·rw[ZZ c1]at h2;by_cases c2:j+1<r.length
   ·rw[Ya c2]at h2;by_cases c3:i+j<r.length
    ·rw[Ya c3]at h1;have e1:i+j=r.length-1:=by omega
     have e2:i+(j+1)-r.length=0:=by omega
     rw[e1]at h1;rw[e2]at h2;exact R.last y x h2 h1
    ·rw[ZZ c3,Ya (by omega)]at h1;have e:i+(j+1)-r.length=(i+j-r.length)+1:=by omega
     rw[e]at h2;exact R.chain _ x y h1 h2
   ·rw[ZZ c2]at h2;cases h2
 refine⟨r[i],R.sub _ (Yr hi),r.drop (i+1)++r.take i,⟨BO ch λx hx=>?_,?_⟩,hlen⟩
 ·have hxr:x∈r:=(Yt.mp hx).elim List.mem_of_mem_drop QL;refine⟨R.sub x hxr,Int.lt_iff_le_and_ne.mpr ⟨hmin x hxr,λz=>?_⟩⟩
  have nd:(r.drop i++r.take i).Nodup:=by
   have:(r.take i++r.drop i).Perm (r.drop i++r.take i):=List.perm_append_comm
   rw[←this.nodup_iff,List.take_append_drop];exact R.nodup
  rw[erot]at nd;exact(Y8.mp nd).1 (by rw[z];exact hx)
 ·have e1:=TC r[i] (r.drop (i+1)++r.take i);rw[←erot,Dr r (by omega)]at e1;have e2:(r.drop (i+1)++r.take i).length=r.length-1:=by omega
  rw[e2]at e1;by_cases c:i=0
  ·subst c;rw[Ya (by omega)]at e1;exact R.last _ _ (ZU hi) (by simpa using e1)
  ·rw[ZZ (by omega),Ya (by omega)]at e1;have e3:i+(r.length-1)-r.length=i-1:=by omega
   rw[e3]at e1;exact R.chain (i-1) _ _ e1 (by rw[show i-1+1=i by omega];exact ZU hi)
def AI:∀{t:List Int},¬t.Nodup->∃a x b c,t=a++x::(b++x::c)
 |[],h=>absurd Wx h
 |y::t,h=>by
  by_cases hy:y∈t
  ·obtain⟨b,c,e⟩:=List.append_of_mem hy;exact⟨[],y,b,c,by rw[e];rfl⟩
  ·obtain⟨a,x,b,c,e⟩:=AI (t:=t) λz=>h (Y8.mpr ⟨hy,z⟩);exact⟨y::a,x,b,c,by rw[e];rfl⟩
def Du{hs:List Int}{ws:List (Int×Int)}{l:Int}{t:List Int}(hu:∀q∈ws,q.1≠q.2)(hl:l∈hs)(hc:Uw hs ws l t)(hmin:∀u,Uw hs ws l u->t.length<=u.length):Ring hs ws (l::t):=by
 have hne:t≠[]:=λz=>by
  have h2:=hc.2;rw[z]at h2;exact hu _ h2 rfl
 have hg:=Se hc.1;refine⟨by have:=QR.mpr hne;simp;omega,Y8.mpr ⟨λz=>absurd (hg l z).2 (by omega),?_⟩,λx hx=>?_,CZ hc.1,λx y h1 h2=>?_⟩
 ·refine YC λz=>?_;obtain⟨a,x,b,c,e⟩:=AI z;have h1:=hc.1;rw[e]at h1;obtain⟨p1,p2⟩:=path_app.mp h1;have p3:=(path_app (a:=x::b) (b:=x::c) (g:=Jq l a)).mp p2
  have cl:Uw hs ws l (a++x::c):=by
   refine⟨path_app.mpr ⟨p1,p2.1,p2.2.1,p3.2.2.2⟩,?_⟩
   have e2:Jq l (a++x::c)=Jq l t:=by
    rw[e,U2,U2];show Jq x c=Jq x (b++x::c);rw[U2];rfl
   rw[e2];exact hc.2
  have:=hmin _ cl
  rw[e]at this;simp at this;omega
 ·rcases Yh.mp hx with rfl|hx
  ·exact hl
  ·exact(hg x hx).1
 ·cases h1
  have e:=TC l t;simp only[Y1,Nat.add_sub_cancel]at h2;rw[e]at h2;cases h2
  exact hc.2
def FR.none_iff {hs:List Int}{ws:List (Int×Int)}{r:List Int} (hu:∀q∈ws,q.1≠q.2) (F:FR hs ws r):r=[]↔¬ ∃r,Ring hs ws r:=by
 constructor
 ·rintro rfl ⟨r,R⟩;obtain⟨l,hl,t,hc,_⟩:=Mt R;rcases F with⟨_,F⟩|⟨_,_,e,_⟩
  ·exact F l hl t hc
  ·cases e
 ·intro h;rcases F with⟨e,_⟩|⟨l,t,rfl,hl,hc,hm⟩
  ·exact e
  ·refine absurd ⟨_,Du hu hl hc λu hu'=>?_⟩ h;rcases hm l hl u hu' with z|⟨z,_⟩<;>omega
def FR.ring {hs:List Int}{ws:List (Int×Int)}{r:List Int} (hu:∀q∈ws,q.1≠q.2) (F:FR hs ws r) (h:r≠[]):Ring hs ws r/\∃l t,r=l::t/\∀x∈t,l<x:=by
 rcases F with⟨e,_⟩|⟨l,t,rfl,hl,hc,hm⟩
 ·exact absurd e h
 ·refine⟨Du hu hl hc λu hu'=>?_,l,t,rfl,λx hx=>(Se hc.1 x hx).2⟩;rcases hm l hl u hu' with z|⟨z,_⟩<;>omega
def UI(ws:List (Int×Int)):Prop:=ws.length<=20/\ws.Nodup/\∀q∈ws,(1<=q.1/\q.1<=10/\1<=q.2/\q.2<=10)/\q.1≠q.2
end M
namespace Pu
open PySem PySem.Spec PyProof.Rows L2 Own
inductive D where
 |int (i:Int)|bl (b:Bool)|non|str (x:Str)|ty (n:String)|tup (ds:List D)|lst (ds:List D)|scr (ns:List Int)|dK (kvs:List (Key×V))|dT (kvs:List (List Key×V))|loc (a:Addr) (d:D)|err (C:Addr)|ref (a:Addr)|ins (C:Addr) (xs:List Str) (ds:List D)|dF (kvs:List (List Key×V))|erM (C:Addr) (r:List Int)|fL (ns:List Int)
mutual
inductive Rp (K:Za) (H:Hp):D->V->Prop
 |int (i:Int):Rp K H (.int i) (.int i)
 |bl (b:Bool):Rp K H (.bl b) (.bl b)
 |non:Rp K H .non .non
 |str (x:Str):Rp K H (.str x) (.str x)
 |ty (n:String):Rp K H (.ty n) (.ty n)
 |tup {ds:List D} {vs:List V} {a:Addr}:H a=some (.tup vs)->Rps K H ds vs->Rp K H (.tup ds) (.ref a)
 |lst {ds:List D} {vs:List V} {a:Addr}:H a=some (.lst vs)->Rps K H ds vs->Rp K H (.lst ds) (.ref a)
 |scr {ns:List Int} {a:Addr}:SqL K H a (ns.map V.int)->Rp K H (.scr ns) (.ref a)
 |dK {kvs:List (Key×V)} {a:Addr}:H a=some (.dK kvs)->Rp K H (.dK kvs) (.ref a)
 |dT {kvs:List (List Key×V)} {a:Addr}:H a=some (.dT kvs)->Rp K H (.dT kvs) (.ref a)
 |dF {kvs:List (List Key×V)} {o:Obj} {a:Addr}:H a=some (.frz o (.dT kvs))->Rp K H (.dF kvs) (.ref a)
 |loc {d:D} {a:Addr}:Rp K H d (.ref a)->Rp K H (.loc a d) (.ref a)
 |err {C a:Addr}:H a=some (ExcR.ErrH a C)->Rp K H (.err C) (.ref a)
 |ref (a:Addr):Rp K H (.ref a) (.ref a)
 |erM {C a dx l:Addr} {o:Obj} {r:List Int}:H a=some (ExcR.ErrD a C (some dx))->H dx=some (.xd [("members",.ref l)])->H l=some (.frz o (.lst (r.map V.int)))->Rp K H (.erM C r) (.ref a)
 |fL {a:Addr} {o:Obj} {ns:List Int}:H a=some (.frz o (.lst (ns.map V.int)))->Rp K H (.fL ns) (.ref a)
 |ins {C a dx:Addr} {xs:List Str} {ds:List D} {vs:List V}:H a=some (.ins C dx (xs.zip vs))->xs.length=vs.length->Rps K H ds vs->Rp K H (.ins C xs ds) (.ref a)
inductive Rps (K:Za) (H:Hp):List D->List V->Prop
 |nil:Rps K H [] []
 |cons {d:D} {v:V} {ds:List D} {vs:List V}:Rp K H d v->Rps K H ds vs->Rps K H (d::ds) (v::vs)
end
section
variable {K:Za}{H H':Hp}
mutual
def Rp.mono (S:Same H H'):∀{d:D}{v:V},Rp K H d v->Rp K H' d v
 |_,_,.int i=>.int i
 |_,_,.bl b=>.bl b
 |_,_,.non=>.non
 |_,_,.str x=>.str x
 |_,_,.ty n=>.ty n
 |_,_,.tup h r=>.tup (S _ _ h) (Rps.mono S r)
 |_,_,.lst h r=>.lst (S _ _ h) (Rps.mono S r)
 |_,_,.scr h=>.scr (S.seq h)
 |_,_,.dK h=>.dK (S _ _ h)
 |_,_,.dT h=>.dT (S _ _ h)
 |_,_,.loc h=>.loc (Rp.mono S h)
 |_,_,.dF h=>.dF (S _ _ h)
 |_,_,.err h=>.err (S _ _ h)
 |_,_,.ref a=>.ref a
 |_,_,.erM h1 h2 h3=>.erM (S _ _ h1) (S _ _ h2) (S _ _ h3)
 |_,_,.fL h=>.fL (S _ _ h)
 |_,_,.ins h e r=>.ins (S _ _ h) e (Rps.mono S r)
def Rps.mono (S:Same H H'):∀{ds:List D}{vs:List V},Rps K H ds vs->Rps K H' ds vs
 |_,_,.nil=>.nil
 |_,_,.cons h r=>.cons (Rp.mono S h) (Rps.mono S r)
end
def Rps.len:∀{ds:List D}{vs:List V},Rps K H ds vs->vs.length=ds.length
 |_,_,.nil=>rfl
 |_,_,.cons _ r=>YD (· + 1) (Rps.len r)
def Rps.get:∀{ds:List D}{vs:List V}{i:Nat}{d:D},Rps K H ds vs->ds[i]?=some d->∃v,vs[i]?=some v/\Rp K H d v
 |_,_,_,_,.nil,e=>by simp at e
 |_,_,0,_,.cons h _,e=>by simp at e;subst e;exact⟨_,rfl,h⟩
 |_,_,i+1,d,.cons _ r,e=>by
  obtain⟨v,h1,h2⟩:=Rps.get (i:=i) (d:=d) r (by simpa using e);exact⟨v,by simpa using h1,h2⟩
def Rps.append:∀{ds es:List D}{vs us:List V},Rps K H ds vs->Rps K H es us->Rps K H (ds++es) (vs++us)
 |_,_,_,_,.nil,s=>s
 |_,_,_,_,.cons h r,s=>.cons h (Rps.append r s)
def Rps.drop:∀{ds:List D}{vs:List V} (n:Nat),Rps K H ds vs->Rps K H (ds.drop n) (vs.drop n)
 |_,_,0,r=>r
 |_,_,_+1,.nil=>.nil
 |_,_,n+1,.cons _ r=>Rps.drop n r
def Rps.take:∀{ds:List D}{vs:List V} (n:Nat),Rps K H ds vs->Rps K H (ds.take n) (vs.take n)
 |_,_,0,_=>.nil
 |_,_,_+1,.nil=>.nil
 |_,_,n+1,.cons h r=>.cons h (Rps.take n r)
end
mutual
def imm:D->Bool
 | .tup ds=>imms ds
 | .lst _=>false
 | .scr _=>false
 | .dK _=>false
 | .dT _=>false
 | .loc _ _=>false
 | .err _=>false
 | .erM _ _=>false
 | .ins _ _ _=>false
 |_=>true
def imms:List D->Bool
 |[]=>true
 |d::r=>imm d&&imms r
end
open Classical in
noncomputable def off(Z:Addr->Prop)(H:Hp):Hp:=λb=>if Z b then none else H b
section
variable {K:Za}{H H':Hp}{Z Z':Addr->Prop}
def UV{b:Addr}{o:HO}(h:off Z H b=some o):H b=some o/\¬Z b:=by
 unfold off at h;by_cases z:Z b
 ·rw[Ya z]at h;cases h
 ·rw[ZZ z]at h;exact⟨h,z⟩
def JK{b:Addr}{o:HO}(h:H b=some o)(z:¬Z b):off Z H b=some o:=by
 unfold off;rw[ZZ z];exact h
def Jy(S:Same H H')(hz:∀b o,H b=some o->¬Z b->¬Z' b):Same (off Z H) (off Z' H'):=λb o h=>by
 obtain⟨h1,h2⟩:=UV h;exact JK (S b o h1) (hz b o h1 h2)
def off_sub:Same (off Z H) H:=λ_ _ h=>(UV h).1
mutual
def Rp.off (hm:∀b,Z b->Mut (H b)):∀{d:D}{v:V},Rp K H d v->imm d=true->Rp K (off Z H) d v
 |_,_,.int i,_=>.int i
 |_,_,.bl b,_=>.bl b
 |_,_,.non,_=>.non
 |_,_,.str x,_=>.str x
 |_,_,.ty n,_=>.ty n
 |_,_,.tup h r,e=>.tup (JK h λz=>by have:=hm _ z;rw[h]at this;exact this) (Rps.off hm r (by unfold imm at e;exact e))
 |_,_,.lst _ _,e=>by unfold imm at e;cases e
 |_,_,.scr _,e=>by unfold imm at e;cases e
 |_,_,.dK _,e=>by unfold imm at e;cases e
 |_,_,.dT _,e=>by unfold imm at e;cases e
 |_,_,.loc _,e=>by unfold imm at e;cases e
 |_,_,.dF h,_=>.dF (JK h λz=>by have:=hm _ z;rw[h]at this;exact this)
 |_,_,.err _,e=>by unfold imm at e;cases e
 |_,_,.ref a,_=>.ref a
 |_,_,.erM _ _ _,e=>by unfold imm at e;cases e
 |_,_,.fL h,_=>.fL (JK h λz=>by have:=hm _ z;rw[h]at this;exact this)
 |_,_,.ins _ _ _,e=>by unfold imm at e;cases e
def Rps.off (hm:∀b,Z b->Mut (H b)):∀{ds:List D}{vs:List V},Rps K H ds vs->imms ds=true->Rps K (off Z H) ds vs
 |_,_,.nil,_=>.nil
 |_,_,.cons h r,e=>by
  unfold imms at e;rw[Y5]at e;exact .cons (Rp.off hm h e.1) (Rps.off hm r e.2)
end
end
inductive O where
 |lst (ds:List D)|dK (kvs:List (Key×V))|dT (kvs:List (List Key×V))|ins (a C:Addr) (xs:List Str) (cs:List (Addr×List D))|lsA (a:Addr) (ds:List D)|nst (cs:List (Addr×List D))|nsl (a:Addr) (cs:List (Addr×List D))
instance:Coe (List D) O:=⟨O.lst⟩
def O.d:O->D
 | .lst ds=>.lst ds | .dK kvs=>.dK kvs | .dT kvs=>.dT kvs | .ins _ C xs cs=>.ins C xs (cs.map λc=>.lst c.2) | .lsA _ ds=>.lst ds | .nst cs=>.tup (cs.map λc=>.lst c.2) | .nsl _ cs=>.lst (cs.map λc=>.lst c.2)
def O.adr (a:Addr):O->Addr->Prop
 | .lst _=>λb=>b=a
 | .dK _=>λb=>b=a
 | .dT _=>λb=>b=a
 | .ins x _ _ cs=>λb=>b=x\/∃c∈cs,b=c.1
 | .lsA x _=>λb=>b=x
 | .nst cs=>λb=>∃c∈cs,b=c.1
 | .nsl x cs=>λb=>b=x\/∃c∈cs,b=c.1
def OR(K:Za)(F H:Hp)(a:Addr):O->Prop
 | .lst ds=>∃vs,H a=some (.lst vs)/\Rps K F ds vs
 | .dK kvs=>H a=some (.dK kvs)
 | .dT kvs=>H a=some (.dT kvs)
 | .lsA x ds=>a=x/\∃vs,H a=some (.lst vs)/\Rps K F ds vs
 | .ins x C xs cs=>a=x/\xs.length=cs.length/\(∃dx,H a=some (.ins C dx (xs.zip (cs.map λc=>V.ref c.1))))/\(∀c∈cs,∃vs,H c.1=some (.lst vs)/\Rps K F c.2 vs)/\(cs.map (·.1)).Nodup
 | .nsl x cs=>a=x/\H a=some (.lst (cs.map λc=>V.ref c.1))/\(∀c∈cs,∃vs,H c.1=some (.lst vs)/\Rps K F c.2 vs)/\(x::cs.map (·.1)).Nodup
 | .nst cs=>F a=some (.tup (cs.map λc=>V.ref c.1))/\(∀c∈cs,∃vs,H c.1=some (.lst vs)/\Rps K F c.2 vs)/\(cs.map (·.1)).Nodup
def OR.mono {K:Za}{F F' H H':Hp}{a:Addr}{o:O} (S1:Same F F') (S2:∀b,o.adr a b->∀x,H b=some x->H' b=some x) (h:OR K F H a o):OR K F' H' a o:=by
 cases o with
 |lst ds=>obtain⟨vs,h1,h2⟩:=h;exact⟨vs,S2 _ rfl _ h1,Rps.mono S1 h2⟩
 |dK kvs=>exact S2 _ rfl _ h
 |dT kvs=>exact S2 _ rfl _ h
 |lsA x ds=>obtain⟨rfl,vs,h1,h2⟩:=h;exact⟨rfl,vs,S2 _ rfl _ h1,Rps.mono S1 h2⟩
 |nsl x cs=>
  obtain⟨e,h1,h2,h3⟩:=h;exact⟨e,S2 _ (.inl e) _ h1,λc hc=>let ⟨vs,q1,q2⟩:=h2 c hc;⟨vs,S2 _ (.inr ⟨c,hc,rfl⟩) _ q1,Rps.mono S1 q2⟩,h3⟩
 |nst cs=>
  obtain⟨h1,h2,h3⟩:=h;exact⟨S1 _ _ h1,λc hc=>let ⟨vs,q1,q2⟩:=h2 c hc;⟨vs,S2 _ ⟨c,hc,rfl⟩ _ q1,Rps.mono S1 q2⟩,h3⟩
 |ins x C xs cs=>
  obtain⟨e,l,⟨dx,h1⟩,h2,h3⟩:=h;exact⟨e,l,⟨dx,S2 _ (.inl e) _ h1⟩,λc hc=>let ⟨vs,q1,q2⟩:=h2 c hc;⟨vs,S2 _ (.inr ⟨c,hc,rfl⟩) _ q1,Rps.mono S1 q2⟩,h3⟩
def Xw{K:Za}{F:Hp}:∀{cs:List (Addr×List D)},(∀c∈cs,∃vs,F c.1=some (.lst vs)/\Rps K F c.2 vs)->Rps K F (cs.map λc=>.lst c.2) (cs.map λc=>V.ref c.1)
 |[],_=>.nil
 |c::cs,h=>let ⟨_,q1,q2⟩:=h c Yz;.cons (.lst q1 q2) (Xw λc' hc=>h c' (Yq _ hc))
def OR.rpIn {K:Za}{F F' H:Hp}{a:Addr}{o:O} (S1:Same F F') (S2:∀b,o.adr a b->∀x,H b=some x->F' b=some x) (h:OR K F H a o):Rp K F' o.d (.ref a):=by
 cases o with
 |lst ds=>obtain⟨vs,h1,h2⟩:=h;exact .lst (S2 _ rfl _ h1) (Rps.mono S1 h2)
 |dK kvs=>exact .dK (S2 _ rfl _ h)
 |dT kvs=>exact .dT (S2 _ rfl _ h)
 |lsA x ds=>obtain⟨rfl,vs,h1,h2⟩:=h;exact .lst (S2 _ rfl _ h1) (Rps.mono S1 h2)
 |nsl x cs=>
  obtain⟨e,h1,h2,h3⟩:=h;exact .lst (S2 _ (.inl e) _ h1) (Xw λc hc=>let ⟨vs,q1,q2⟩:=h2 c hc;⟨vs,S2 _ (.inr ⟨c,hc,rfl⟩) _ q1,Rps.mono S1 q2⟩)
 |nst cs=>
  obtain⟨h1,h2,h3⟩:=h;exact .tup (S1 _ _ h1) (Xw λc hc=>let ⟨vs,q1,q2⟩:=h2 c hc;⟨vs,S2 _ ⟨c,hc,rfl⟩ _ q1,Rps.mono S1 q2⟩)
 |ins x C xs cs=>
  obtain⟨e,l,⟨dx,h1⟩,h2,h3⟩:=h;exact .ins (S2 _ (.inl e) _ h1) (by rw[ZV];exact l) (Xw λc hc=>let ⟨vs,q1,q2⟩:=h2 c hc;⟨vs,S2 _ (.inr ⟨c,hc,rfl⟩) _ q1,Rps.mono S1 q2⟩)
def OR.rp {K:Za}{F H:Hp}{a:Addr}{o:O} (S1:Same F H) (h:OR K F H a o):Rp K H o.d (.ref a):=h.rpIn S1 λ_ _ _ e=>e
def OR.mut {K:Za}{F H:Hp}{a:Addr}{o:O} (h:OR K F H a o):∀b,o.adr a b->Mut (H b):=by
 cases o with
 |lst ds=>obtain⟨vs,h1,h2⟩:=h;intro b e;rw[show b=a from e,h1];trivial
 |dK kvs=>intro b e;rw[show b=a from e,show H a=some (.dK kvs)from h];trivial
 |dT kvs=>intro b e;rw[show b=a from e,show H a=some (.dT kvs)from h];trivial
 |lsA x ds=>obtain⟨rfl,vs,h1,h2⟩:=h;intro b e;rw[show b=a from e,h1];trivial
 |nsl x cs=>
  obtain⟨e,h1,h2,h3⟩:=h;intro b hb;rcases hb with hb|⟨c,hc,hb⟩
  ·rw[show b=a from hb.trans e.symm,h1];trivial
  ·obtain⟨vs,q1,_⟩:=h2 c hc;rw[hb,q1];trivial
 |nst cs=>
  obtain⟨h1,h2,h3⟩:=h;rintro b ⟨c,hc,hb⟩;obtain⟨vs,q1,_⟩:=h2 c hc;rw[hb,q1];trivial
 |ins x C xs cs=>
  obtain⟨e,l,⟨dx,h1⟩,h2,h3⟩:=h;intro b hb;rcases hb with hb|⟨c,hc,hb⟩
  ·rw[show b=a from hb.trans e.symm,h1];trivial
  ·obtain⟨vs,q1,_⟩:=h2 c hc;rw[hb,q1];trivial
inductive S where
 |bor (d:D)|sh (d:D)|own (o:O)|view (o:O)|tmp (d:D)
abbrev Γ:=List (Option S)
def D.strip:D->D
 | .loc _ d=>d|d=>d
def Rp.strip {K:Za}{H:Hp}{d:D}{v:V} (h:Rp K H d v):Rp K H d.strip v:=by
 cases h with
 |loc h=>exact h
 |int i=>exact .int i
 |bl b=>exact .bl b
 |non=>exact .non
 |str x=>exact .str x
 |ty n=>exact .ty n
 |tup h r=>exact .tup h r
 |lst h r=>exact .lst h r
 |scr h=>exact .scr h
 |dK h=>exact .dK h
 |dT h=>exact .dT h
 |dF h=>exact .dF h
 |err h=>exact .err h
 |ref a=>exact .ref a
 |erM h1 h2 h3=>exact .erM h1 h2 h3
 |fL h=>exact .fL h
 |ins h e r=>exact .ins h e r
def S.d:S->D
 | .bor d=>d.strip | .sh d=>d | .own o=>o.d | .view o=>o.d | .tmp d=>d
def arg(d:D):S:=match imm d with|true=>.sh d|false=>.bor d
def argT(d:D):S:=match imm d with|true=>.sh d|false=>.tmp d
def S.sub:S->D->S
 | .bor _,e=>arg e | .tmp _,e=>argT e | .own (.nst _),e=>argT e | .view (.nst _),e=>argT e | .own (.nsl _ _),e=>argT e | .view (.nsl _ _),e=>argT e|_,e=>.sh e
def S.shd:S->Option D
 | .sh d=>some d | .own o=>some o.d
 | .bor d=>match imm d with|true=>some d|false=>none
 | .tmp d=>match imm d with|true=>some d|false=>none
 | .view _=>none
def S.slot:S->Option S
 | .view _=>none | .bor d=>some (.bor d) | .sh d=>some (.sh d) | .own ds=>some (.own ds)
 | .tmp d=>match imm d with|true=>some (.sh d)|false=>none
def EG(γ:Γ)(σ:L2.St)(b:Addr):Prop:=∃(i:Nat) (ds:O) (a:Addr),γ[i]?=some (some (.own ds))/\σ[i]?=some (some (.ref a))/\ds.adr a b
def zof(B:Addr->Prop)(γ:Γ)(σ:L2.St):Addr->Prop:=λb=>B b\/EG γ σ b
def SV(K:Za)(Z:Addr->Prop)(H0 H:Hp):S->V->Prop
 | .bor d,v=>Rp K H0 d v
 | .sh d,v=>Rp K (off Z H) d v
 | .own o,v=>∃a,v=.ref a/\(∀b,o.adr a b->H0 b=none)/\OR K (off Z H) H a o
 |_,_=>False
def TV(K:Za)(Z:Addr->Prop)(H0 H H':Hp):S->V->Prop
 | .bor d,v=>Rp K H0 d v
 | .sh d,v=>Rp K (off Z H') d v
 | .own o,v=>∃a,v=.ref a/\(∀b,o.adr a b->H b=none)/\OR K (off (λb=>Z b\/o.adr a b) H') H' a o
 | .view o,v=>∃a,v=.ref a/\OR K (off Z H') H' a o
 | .tmp d,v=>Rp K H' d v
structure EnvR (K:Za) (H0:Hp) (B:Addr->Prop) (H:Hp) (σ:L2.St) (γ:Γ):Prop where
 same:Same H0 H
 len:σ.length=γ.length
 bm:∀b,B b->Mut (H b)
 own:∀(i j:Nat) (a a':Addr) (ds es:O) (b:Addr),γ[i]?=some (some (.own ds))->γ[j]?=some (some (.own es))->σ[i]?=some (some (.ref a))->σ[j]?=some (some (.ref a'))->ds.adr a b->es.adr a' b->i=j
 slot:∀(i:Nat) (s:S),γ[i]?=some (some s)->∃v,σ[i]?=some (some v)/\SV K (zof B γ σ) H0 H s v
section
variable {K:Za}{H0 H H1 H':Hp}{B Z Z':Addr->Prop}{σ:L2.St}{γ:Γ}
def Xi(S:Same H H'){b:Addr}(h:Mut (H b)):Mut (H' b):=by
 cases e:H b with
 |none=>rw[e]at h;exact h.elim
 |some o=>rw[S b o e,←e];exact h
def P4{b:Addr}(h:Mut (H b)):∃o,H b=some o:=by
 cases e:H b with
 |none=>rw[e]at h;exact h.elim
 |some o=>exact⟨o,rfl⟩
def EnvR.grow (E:EnvR K H0 B H σ γ) (S:Same H H'):EnvR K H0 B H' σ γ where
 same:=E.same.trans S
 len:=E.len
 bm b h:=Xi S (E.bm b h)
 own:=E.own
 slot i s h:=by
  obtain⟨v,h1,h2⟩:=E.slot i s h;refine⟨v,h1,?_⟩;cases s with
  |bor d=>exact h2
  |sh d=>exact Rp.mono (Jy S λ_ _ _ z=>z) h2
  |own ds=>
   obtain⟨a,e1,e3,e4⟩:=h2;exact⟨a,e1,e3,e4.mono (Jy S λ_ _ _ z=>z) λb _ x=>S b x⟩
  |view ds=>exact h2
  |tmp d=>exact h2
def EnvR.zm (E:EnvR K H0 B H σ γ):∀b,zof B γ σ b->Mut (H b):=λb h=>by
 rcases h with h|⟨i,ds,x,h1,h2,hb⟩
 ·exact E.bm b h
 ·obtain⟨v,e1,a,e2,e3,e4⟩:=E.slot i _ h1;rw[h2]at e1;cases e1
  cases e2
  exact e4.mut b hb
def TV.rp {s:S}{v:V} (h0:Same H0 H') (h:TV K Z H0 H H' s v):Rp K H' s.d v:=by
 cases s with
 |bor d=>exact(Rp.mono h0 h).strip
 |sh d=>exact Rp.mono off_sub h
 |own ds=>
  obtain⟨a,rfl,_,r⟩:=h;exact r.rp off_sub
 |view ds=>
  obtain⟨a,rfl,r⟩:=h;exact r.rp off_sub
 |tmp d=>exact h
def TV.grow {s:S}{v:V} (S1:Same H' H1) (h:TV K Z H0 H H' s v):TV K Z H0 H H1 s v:=by
 cases s with
 |bor d=>exact h
 |sh d=>exact Rp.mono (Jy S1 λ_ _ _ z=>z) h
 |own ds=>
  obtain⟨a,rfl,e0,r⟩:=h;exact⟨a,rfl,e0,r.mono (Jy S1 λ_ _ _ z=>z) λb _ x=>S1 b x⟩
 |view ds=>
  obtain⟨a,rfl,r⟩:=h;exact⟨a,rfl,r.mono (Jy S1 λ_ _ _ z=>z) λb _ x=>S1 b x⟩
 |tmp d=>exact Rp.mono S1 h
def TV.weak {s:S}{v:V} (S1:Same H H1) (hz:∀b,Z b->Z' b) (h:TV K Z' H0 H1 H' s v):TV K Z H0 H H' s v:=by
 cases s with
 |bor d=>exact h
 |sh d=>exact Rp.mono (Jy (Same.refl _) λb _ _ z y=>z (hz b y)) h
 |own ds=>
  obtain⟨a,rfl,e0,r⟩:=h;exact⟨a,rfl,λb hb=>S1.free (e0 b hb),r.mono (Jy (Same.refl _) λb _ _ z y=>z (y.imp (hz b) id)) λ_ _ _ q=>q⟩
 |view ds=>
  obtain⟨a,rfl,r⟩:=h;exact⟨a,rfl,r.mono (Jy (Same.refl _) λb _ _ z y=>z (hz b y)) λ_ _ _ q=>q⟩
 |tmp d=>exact h
def TV.shd {s:S}{v:V}{d:D} (h0:Same H0 H') (hm:∀b,Z b->Mut (H b)) (S1:Same H H') (h:TV K Z H0 H H' s v) (e:s.shd=some d):Rp K (off Z H') d v:=by
 have hm':∀b,Z b->Mut (H' b):=λb z=>Xi S1 (hm b z);cases s with
 |bor d'=>
  unfold S.shd at e;cases q:imm d' with
  |false=>simp[q]at e
  |true=>
   simp[q]at e;subst e;exact Rp.off hm' (Rp.mono h0 h) q
 |sh d'=>cases e;exact h
 |own ds=>
  cases e
  obtain⟨a,rfl,e0,r⟩:=h;exact r.rpIn (Jy (Same.refl _) λb _ _ z y=>z (.inl y)) λb hb x e=>JK e λz=>by have:=hm _ z;rw[e0 b hb]at this;exact this
 |view ds=>cases e
 |tmp d'=>
  unfold S.shd at e;cases q:imm d' with
  |false=>simp[q]at e
  |true=>
   simp[q]at e;subst e;exact Rp.off hm' h q
def argR{d:D}{v:V}(hm:∀b,Z b->Mut (H' b))(h0:Same H0 H')(h:Rp K H0 d v):TV K Z H0 H H' (arg d) v:=by
 unfold arg;cases q:imm d with
 |true=>exact Rp.off hm (Rp.mono h0 h) q
 |false=>exact h
def Xf{d:D}{v:V}(hm:∀b,Z b->Mut (H' b))(h:Rp K H' d v):TV K Z H0 H H' (argT d) v:=by
 unfold argT;cases q:imm d with
 |true=>exact Rp.off hm h q
 |false=>exact h
def Rp.lst_inv {ds:List D}{v:V} (h:Rp K H (.lst ds) v):∃a vs,v=.ref a/\H a=some (.lst vs)/\Rps K H ds vs:=by
 cases h with
 |lst h r=>exact⟨_,_,rfl,h,r⟩
def Rp.tup_inv {ds:List D}{v:V} (h:Rp K H (.tup ds) v):∃a vs,v=.ref a/\H a=some (.tup vs)/\Rps K H ds vs:=by
 cases h with
 |tup h r=>exact⟨_,_,rfl,h,r⟩
def TV.part {s:S}{v:V} (h0:Same H0 H') (hm:∀b,Z b->Mut (H b)) (S1:Same H H') (h:TV K Z H0 H H' s v) :
  (∀ds,s.d=.lst ds->∃a vs,v=.ref a/\H' a=some (.lst vs)/\vs.length=ds.length/\∀(i:Nat) d,ds[i]?=some d->∃u,vs[i]?=some u/\TV K Z H0 H H' (s.sub d) u)/\
  (∀ds,s.d=.tup ds->∃a vs,v=.ref a/\H' a=some (.tup vs)/\vs.length=ds.length/\∀(i:Nat) d,ds[i]?=some d->∃u,vs[i]?=some u/\TV K Z H0 H H' (s.sub d) u):=by
 have hm':∀b,Z b->Mut (H' b):=λb z=>Xi S1 (hm b z);cases s with
 |bor d=>
  have h:=Rp.strip h;refine⟨λds e=>?_,λds e=>?_⟩<;>rw[show d.strip=_ from e]at h
  ·obtain⟨a,vs,rfl,h,r⟩:=Rp.lst_inv h;exact⟨_,_,rfl,h0 _ _ h,r.len,λi d e=>let ⟨u,h1,h2⟩:=r.get e;⟨u,h1,argR hm' h0 h2⟩⟩
  ·obtain⟨a,vs,rfl,h,r⟩:=Rp.tup_inv h;exact⟨_,_,rfl,h0 _ _ h,r.len,λi d e=>let ⟨u,h1,h2⟩:=r.get e;⟨u,h1,argR hm' h0 h2⟩⟩
 |sh d=>
  refine⟨λds e=>?_,λds e=>?_⟩<;>(have e':d=_:=e;subst e')
  ·obtain⟨a,vs,rfl,h,r⟩:=Rp.lst_inv h;exact⟨_,_,rfl,off_sub _ _ h,r.len,λi d e=>r.get e⟩
  ·obtain⟨a,vs,rfl,h,r⟩:=Rp.tup_inv h;exact⟨_,_,rfl,off_sub _ _ h,r.len,λi d e=>r.get e⟩
 |own es=>
  cases es with
  |lst es=>
   refine⟨λds e=>?_,λds e=>by cases e⟩;cases e
   obtain⟨a,rfl,e0,vs,e,r⟩:=h;exact⟨a,vs,rfl,e,r.len,λi d e=>let ⟨u,h1,h2⟩:=r.get e;⟨u,h1,Rp.mono (Jy (Same.refl _) λb _ _ z y=>z (.inl y)) h2⟩⟩
  |lsA x es=>
   refine⟨λds e=>?_,λds e=>by cases e⟩;cases e
   obtain⟨a,rfl,e0,_,vs,e,r⟩:=h;exact⟨a,vs,rfl,e,r.len,λi d e=>let ⟨u,h1,h2⟩:=r.get e;⟨u,h1,Rp.mono (Jy (Same.refl _) λb _ _ z y=>z (.inl y)) h2⟩⟩
  |dK es=>exact⟨(λds e=>by cases e),(λds e=>by cases e)⟩
  |dT es=>exact⟨(λds e=>by cases e),(λds e=>by cases e)⟩
  |nsl x cs=>
   refine⟨λds e=>?_,λds e=>by cases e⟩;cases e
   obtain⟨a,rfl,e0,_,e1,e2,e3⟩:=h;have r:Rps K H' (cs.map λc=>D.lst c.2) (cs.map λc=>V.ref c.1):=Xw λc hc=>let ⟨vs,q1,q2⟩:=e2 c hc;⟨vs,q1,Rps.mono off_sub q2⟩;exact⟨a,_,rfl,e1,r.len,λi d e=>let ⟨u,h1,h2⟩:=r.get e;⟨u,h1,Xf hm' h2⟩⟩
  |nst cs=>
   refine⟨(λds e=>by cases e),λds e=>?_⟩;cases e
   obtain⟨a,rfl,e0,e1,e2,e3⟩:=h;have r:Rps K H' (cs.map λc=>D.lst c.2) (cs.map λc=>V.ref c.1):=Xw λc hc=>let ⟨vs,q1,q2⟩:=e2 c hc;⟨vs,q1,Rps.mono off_sub q2⟩;exact⟨a,_,rfl,off_sub _ _ e1,r.len,λi d e=>let ⟨u,h1,h2⟩:=r.get e;⟨u,h1,Xf hm' h2⟩⟩
  |ins x C xs cs=>exact⟨(λds e=>by cases e),(λds e=>by cases e)⟩
 |view es=>
  cases es with
  |lst es=>
   refine⟨λds e=>?_,λds e=>by cases e⟩;cases e
   obtain⟨a,rfl,vs,e,r⟩:=h;exact⟨a,vs,rfl,e,r.len,λi d e=>r.get e⟩
  |lsA x es=>
   refine⟨λds e=>?_,λds e=>by cases e⟩;cases e
   obtain⟨a,rfl,_,vs,e,r⟩:=h;exact⟨a,vs,rfl,e,r.len,λi d e=>r.get e⟩
  |dK es=>exact⟨(λds e=>by cases e),(λds e=>by cases e)⟩
  |dT es=>exact⟨(λds e=>by cases e),(λds e=>by cases e)⟩
  |nsl x cs=>
   refine⟨λds e=>?_,λds e=>by cases e⟩;cases e
   obtain⟨a,rfl,_,e1,e2,e3⟩:=h;have r:Rps K H' (cs.map λc=>D.lst c.2) (cs.map λc=>V.ref c.1):=Xw λc hc=>let ⟨vs,q1,q2⟩:=e2 c hc;⟨vs,q1,Rps.mono off_sub q2⟩;exact⟨a,_,rfl,e1,r.len,λi d e=>let ⟨u,h1,h2⟩:=r.get e;⟨u,h1,Xf hm' h2⟩⟩
  |nst cs=>
   refine⟨(λds e=>by cases e),λds e=>?_⟩;cases e
   obtain⟨a,rfl,e1,e2,e3⟩:=h;have r:Rps K H' (cs.map λc=>D.lst c.2) (cs.map λc=>V.ref c.1):=Xw λc hc=>let ⟨vs,q1,q2⟩:=e2 c hc;⟨vs,q1,Rps.mono off_sub q2⟩;exact⟨a,_,rfl,off_sub _ _ e1,r.len,λi d e=>let ⟨u,h1,h2⟩:=r.get e;⟨u,h1,Xf hm' h2⟩⟩
  |ins x C xs cs=>exact⟨(λds e=>by cases e),(λds e=>by cases e)⟩
 |tmp d=>
  refine⟨λds e=>?_,λds e=>?_⟩<;>(have e':d=_:=e;subst e')
  ·obtain⟨a,vs,rfl,h,r⟩:=Rp.lst_inv h;exact⟨_,_,rfl,h,r.len,λi d e=>let ⟨u,h1,h2⟩:=r.get e;⟨u,h1,Xf hm' h2⟩⟩
  ·obtain⟨a,vs,rfl,h,r⟩:=Rp.tup_inv h;exact⟨_,_,rfl,h,r.len,λi d e=>let ⟨u,h1,h2⟩:=r.get e;⟨u,h1,Xf hm' h2⟩⟩
def Fr(B:Addr->Prop)(H:Hp)(σ:L2.St)(γ:Γ)(H':Hp)(σ':L2.St)(γ':Γ):Prop:=∀b o,H b=some o->¬zof B γ σ b->H' b=some o/\¬zof B γ' σ' b
def Fr.refl:Fr B H σ γ H σ γ:=λ_ _ h z=>⟨h,z⟩
def Fr.trans {H1 H2:Hp}{σ1 σ2:L2.St}{γ1 γ2:Γ} (a:Fr B H σ γ H1 σ1 γ1) (b:Fr B H1 σ1 γ1 H2 σ2 γ2):Fr B H σ γ H2 σ2 γ2:=λx o h z=>let ⟨h1,z1⟩:=a x o h z;b x o h1 z1
def Fr.grow (S1:Same H H'):Fr B H σ γ H' σ γ:=λ_ _ h z=>⟨S1 _ _ h,z⟩
def Fr.off {H':Hp}{σ':L2.St}{γ':Γ} (f:Fr B H σ γ H' σ' γ'):Same (off (zof B γ σ) H) (Pu.off (zof B γ' σ') H'):=λb o h=>by
 obtain⟨h1,h2⟩:=UV h;obtain⟨h3,h4⟩:=f b o h1 h2;exact JK h3 h4
def JM{α:Type}{l:List α}{i j:Nat}{x y:α}(h:(l.set i x)[j]?=some y):(j=i/\x=y/\i<l.length)\/(j≠i/\l[j]?=some y):=by
 rw[List.getElem?_set]at h;by_cases e:i=j
 ·subst e;rw[Ya rfl]at h;by_cases e2:i<l.length
  ·rw[Ya e2]at h;exact .inl ⟨rfl,Yf h,e2⟩
  ·rw[ZZ e2]at h;cases h
 ·rw[ZZ e]at h;exact .inr ⟨λz=>e z.symm,h⟩
def PR{α:Type}{l:List α}{i:Nat}{x:α}(h:i<l.length):(l.set i x)[i]?=some x:=by rw[WR h]
def UA{α:Type}{l:List α}{i j:Nat}{x:α}(h:j≠i):(l.set i x)[j]?=l[j]?:=Qd λz=>h z.symm
def EnvR.drop (E:EnvR K H0 B H σ γ) (i:Nat):EnvR K H0 B H σ (γ.set i none)/\Fr B H σ γ H σ (γ.set i none):=by
 have hz:∀b,zof B (γ.set i none) σ b->zof B γ σ b:=λb z=>z.imp id λ⟨j,ds,a,h1,h2,h3⟩=>by
  rcases JM h1 with⟨_,e,_⟩|⟨_,e⟩
  ·cases e
  ·exact⟨j,ds,a,e,h2,h3⟩
 refine⟨⟨E.same,by rw[Wo];exact E.len,E.bm,λk j a a' ds es b h1 h2=>?_,λk s h=>?_⟩,λb o h z=>⟨h,λy=>z (hz b y)⟩⟩
 ·rcases JM h1 with⟨_,e,_⟩|⟨_,e1⟩
  ·cases e
  ·rcases JM h2 with⟨_,e,_⟩|⟨_,e2⟩
   ·cases e
   ·exact E.own k j a a' ds es b e1 e2
 ·rcases JM h with⟨_,e,_⟩|⟨_,e⟩
  ·cases e
  ·obtain⟨v,h1,h2⟩:=E.slot k s e;refine⟨v,h1,?_⟩;have S1:Same (Pu.off (zof B γ σ) H) (Pu.off (zof B (γ.set i none) σ) H):=Jy (Same.refl _) λb _ _ z y=>z (hz b y);cases s with
   |bor d=>exact h2
   |sh d=>exact Rp.mono S1 h2
   |own ds=>
    obtain⟨a,e1,e3,e4⟩:=h2;exact⟨a,e1,e3,e4.mono S1 λ_ _ _ q=>q⟩
   |view ds=>exact h2
   |tmp d=>exact h2
def EnvR.put {i:Nat}{s s':S}{v:V} (E:EnvR K H0 B H σ γ) (S1:Same H H') (h:TV K (zof B γ σ) H0 H H' s v) (e:s.slot=some s') (hi:i<γ.length) :
  EnvR K H0 B H' (σ.set i (some v)) (γ.set i (some s'))/\Fr B H σ γ H' (σ.set i (some v)) (γ.set i (some s')):=by
 have hiσ:i<σ.length:=by rw[E.len];exact hi
 have E':=E.grow S1
 have isown:∀ds,s'=.own ds->s=.own ds:=λds q=>by
  subst q;cases s with
  |own es=>cases e;rfl
  |bor d=>cases e
  |sh d=>cases e
  |view d=>cases e
  |tmp d=>unfold S.slot at e;cases q:imm d<;>simp[q]at e
 have hown:∀b,zof B (γ.set i (some s')) (σ.set i (some v)) b->zof B γ σ b\/∃ds a,s=.own ds/\v=.ref a/\ds.adr a b:=λb z=>by
  rcases z with z|⟨j,ds,a,h1,h2,h3⟩
  ·exact .inl (.inl z)
  ·rcases JM h1 with⟨ej,e1,_⟩|⟨nj,e1⟩
   ·subst ej;rw[PR hiσ]at h2
    have:s'=.own ds:=Yf e1
    exact .inr ⟨ds,a,isown ds this,Yf (Yf h2),h3⟩
   ·rw[UA nj]at h2;exact .inl (.inr ⟨j,ds,a,e1,h2,h3⟩)
 have fresh:∀ds a b,s=.own ds->v=.ref a->ds.adr a b->H b=none:=λds a b es ev hb=>by
  subst es;obtain⟨a',e1,e0,_⟩:=h;rw[ev]at e1;cases e1
  exact e0 b hb
 have hz:∀b o,H b=some o->¬zof B γ σ b->¬zof B (γ.set i (some s')) (σ.set i (some v)) b:=λb o hb z y=>by
  rcases hown b y with y|⟨ds,a,y1,y2,y3⟩
  ·exact z y
  ·rw[fresh ds a b y1 y2 y3]at hb;cases hb
 have So:Same (off (zof B γ σ) H) (Pu.off (zof B (γ.set i (some s')) (σ.set i (some v))) H'):=Jy S1 hz;refine⟨⟨E'.same,by rw[Wo,Wo];exact E.len,E'.bm,λk j a a' ds es b h1 h2 h3 h4 h5 h6=>?_,λk u hk=>?_⟩,λb o hb z=>⟨S1 b o hb,hz b o hb z⟩⟩
 ·have old:∀(k:Nat) (ds:O) (a b:Addr),γ[k]?=some (some (.own ds))->σ[k]?=some (some (.ref a))->ds.adr a b->∃o,H b=some o:=λk ds a b e1 e2 e3=>by
   obtain⟨u,q1,a',q2,_,q3⟩:=E.slot k _ e1;rw[e2]at q1;cases q1
   cases q2
   exact P4 (q3.mut b e3)
  rcases JM h1 with⟨ek,e1,_⟩|⟨nk,e1⟩
  ·rcases JM h2 with⟨ej,e2,_⟩|⟨nj,e2⟩
   ·rw[ek,ej]
   ·subst ek;rw[PR hiσ]at h3;rw[UA nj]at h4;obtain⟨o,ho⟩:=old j es a' b e2 h4 h6;rw[fresh ds a b (isown ds (Yf e1)) (Yf (Yf h3)) h5]at ho;cases ho
  ·rcases JM h2 with⟨ej,e2,_⟩|⟨nj,e2⟩
   ·subst ej;rw[PR hiσ]at h4;rw[UA nk]at h3;obtain⟨o,ho⟩:=old k ds a b e1 h3 h5;rw[fresh es a' b (isown es (Yf e2)) (Yf (Yf h4)) h6]at ho;cases ho
   ·rw[UA nk]at h3;rw[UA nj]at h4;exact E.own k j a a' ds es b e1 e2 h3 h4 h5 h6
 ·rcases JM hk with⟨ek,e1,_⟩|⟨nk,e1⟩
  ·subst ek
   have:u=s':=(Yf e1).symm
   subst this;refine⟨v,PR hiσ,?_⟩;cases s with
   |own ds=>
    cases e
    obtain⟨a,rfl,e0,r⟩:=h;refine⟨a,rfl,λb hb=>E.same.free (e0 b hb),r.mono (Jy (Same.refl _) λb o _ z y=>?_) λ_ _ _ q=>q⟩;rcases hown b y with y|⟨_,_,y1,y,y2⟩
    ·exact z (.inl y)
    ·cases y;cases y1;exact z (.inr y2)
   |sh d=>
    cases e
    refine Rp.mono (Jy (Same.refl _) λb o _ z y=>?_) h;rcases hown b y with y|⟨_,_,y,_⟩
    ·exact z y
    ·cases y
   |bor d=>cases e;exact h
   |view d=>cases e
   |tmp d=>
    unfold S.slot at e;cases q:imm d with
    |false=>simp[q]at e
    |true=>
     simp[q]at e;subst e;refine Rp.off (λb y=>?_) h q;rcases hown b y with y|⟨_,_,y,_⟩
     ·exact Xi S1 (E.zm b y)
     ·cases y
  ·obtain⟨w,q1,q2⟩:=E.slot k u e1;refine⟨w,by rw[UA nk];exact q1,?_⟩;cases u with
   |bor d=>exact q2
   |sh d=>exact Rp.mono So q2
   |own ds=>
    obtain⟨a,e1,e3,e4⟩:=q2;exact⟨a,e1,e3,e4.mono So λb _ x=>S1 b x⟩
   |view ds=>exact q2
   |tmp d=>exact q2
def frz(i:Nat)(γ:Γ):Γ:=match γ[i]? with
 |some (some (.own o))=>γ.set i (some (.sh o.d))
 |_=>γ
def EnvR.frz (E:EnvR K H0 B H σ γ) (hB:∀b,B b->∃o,H0 b=some o) (i:Nat):EnvR K H0 B H σ (frz i γ)/\Fr B H σ γ H σ (Pu.frz i γ):=by
 unfold Pu.frz;split
 ·rename_i ds hi;have hlt:i<γ.length:=(Yk.mp hi).1
  have hz:∀b,zof B (γ.set i (some (.sh ds.d))) σ b->zof B γ σ b:=λb z=>z.imp id λ⟨j,es,a,h1,h2,h3⟩=>by
   rcases JM h1 with⟨_,e,_⟩|⟨_,e⟩
   ·cases e
   ·exact⟨j,es,a,e,h2,h3⟩
  have S1:Same (Pu.off (zof B γ σ) H) (Pu.off (zof B (γ.set i (some (.sh ds.d))) σ) H):=Jy (Same.refl _) λb _ _ z y=>z (hz b y);refine⟨⟨E.same,by rw[Wo];exact E.len,E.bm,λk j a a' es es' b h1 h2=>?_,λk s h=>?_⟩,λb o h z=>⟨h,λy=>z (hz b y)⟩⟩
  ·rcases JM h1 with⟨_,e,_⟩|⟨_,e1⟩
   ·cases e
   ·rcases JM h2 with⟨_,e,_⟩|⟨_,e2⟩
    ·cases e
    ·exact E.own k j a a' es es' b e1 e2
  ·rcases JM h with⟨ek,e,_⟩|⟨nk,e⟩
   ·subst ek
    have:=Yf e
    subst this;obtain⟨v,h1,a,rfl,h3,h4⟩:=E.slot k _ hi;refine⟨_,h1,h4.rpIn S1 λb hb x h2=>JK h2 λz=>?_⟩;rcases z with z|⟨j,es,a',e1,e2,e3⟩
    ·obtain⟨o,ho⟩:=hB b z;rw[h3 b hb]at ho;cases ho
    ·rcases JM e1 with⟨_,q,_⟩|⟨nj,q⟩
     ·cases q
     ·exact nj (E.own j k a' a es ds b q hi e2 h1 e3 hb)
   ·obtain⟨v,h1,h2⟩:=E.slot k s e;refine⟨v,h1,?_⟩;cases s with
    |bor d=>exact h2
    |sh d=>exact Rp.mono S1 h2
    |own ds=>
     obtain⟨a,e1,e3,e4⟩:=h2;exact⟨a,e1,e3,e4.mono S1 λ_ _ _ q=>q⟩
    |view ds=>exact h2
    |tmp d=>exact h2
 ·exact⟨E,Fr.refl⟩
def EnvR.change {i:Nat}{a:Addr}{o o':O} (E:EnvR K H0 B H σ γ) (hi:γ[i]?=some (some (.own o))) (ha:σ[i]?=some (some (.ref a)))
  (hH:∀b x,H b=some x->¬o.adr a b->H' b=some x) (hm:∀b,o.adr a b->Mut (H' b)) (hadr:∀b,o'.adr a b->o.adr a b\/H b=none) (r:OR K (Pu.off (zof B (γ.set i (some (.own o'))) σ) H') H' a o') :
  EnvR K H0 B H' σ (γ.set i (some (.own o')))/\Fr B H σ γ H' σ (γ.set i (some (.own o'))):=by
 have hlt:i<γ.length:=(Yk.mp hi).1;obtain⟨v,h1,a',rfl,h3,h4⟩:=E.slot i _ hi;rw[ha]at h1;cases h1
 have za:∀b,o.adr a b->zof B γ σ b:=λb hb=>.inr ⟨i,o,a,hi,ha,hb⟩
 have hz:∀b x,H b=some x->zof B (γ.set i (some (.own o'))) σ b->zof B γ σ b:=λb x hx z=>by
  rcases z with z|⟨j,fs,a',e1,e2,e3⟩
  ·exact .inl z
  ·rcases JM e1 with⟨ej,q,_⟩|⟨_,e⟩
   ·subst ej;cases q
    rw[ha]at e2;cases e2
    rcases hadr b e3 with k|k
    ·exact za b k
    ·rw[k]at hx;cases hx
   ·exact .inr ⟨j,fs,a',e,e2,e3⟩
 have S1:Same (Pu.off (zof B γ σ) H) (Pu.off (zof B (γ.set i (some (.own o'))) σ) H'):=λb x h=>by
  obtain⟨q1,q2⟩:=UV h;exact JK (hH b x q1 λk=>q2 (za b k)) λz=>q2 (hz b x q1 z)
 have old:∀(k:Nat) (ds:O) (a b:Addr),γ[k]?=some (some (.own ds))->σ[k]?=some (some (.ref a))->ds.adr a b->∃o,H b=some o:=λk ds a b e1 e2 e3=>by
  obtain⟨u,q1,a',q2,_,q3⟩:=E.slot k _ e1;rw[e2]at q1;cases q1
  cases q2
  exact P4 (q3.mut b e3)
 refine⟨⟨λb x h=>?_,by rw[Wo];exact E.len,λb hb=>?_,λk j x x' fs fs' b e1 e2 e3 e4 e5 e6=>?_,λk s h=>?_⟩,λb x h z=>⟨?_,λy=>z (hz b x h y)⟩⟩
 ·exact hH b x (E.same b x h) λk=>by rw[h3 b k]at h;cases h
 ·by_cases k:o.adr a b
  ·exact hm b k
  ·have:=E.bm b hb
   obtain⟨x,hx⟩:=P4 this;rw[hH b x hx k,←hx];exact this
 ·rcases JM e1 with⟨ek,q1,_⟩|⟨nk,q1⟩
  ·rcases JM e2 with⟨ej,_,_⟩|⟨nj,q2⟩
   ·rw[ek,ej]
   ·subst ek;cases q1
    rw[ha]at e3;cases e3
    rcases hadr b e5 with w|w
    ·exact E.own k j _ _ _ _ b hi q2 ha e4 w e6
    ·obtain⟨u,hu⟩:=old j fs' x' b q2 e4 e6;rw[w]at hu;cases hu
  ·rcases JM e2 with⟨ej,q2,_⟩|⟨nj,q2⟩
   ·subst ej;cases q2
    rw[ha]at e4;cases e4
    rcases hadr b e6 with w|w
    ·exact E.own k j _ _ _ _ b q1 hi e3 ha e5 w
    ·obtain⟨u,hu⟩:=old k fs x b q1 e3 e5;rw[w]at hu;cases hu
   ·exact E.own k j x x' fs fs' b q1 q2 e3 e4 e5 e6
 ·rcases JM h with⟨ek,e,_⟩|⟨nk,e⟩
  ·subst ek
   have:=Yf e
   subst this;exact⟨_,ha,a,rfl,λb hb=>(hadr b hb).elim (h3 b) λw=>E.same.free w,r⟩
  ·obtain⟨v,q1,q2⟩:=E.slot k s e;refine⟨v,q1,?_⟩;cases s with
   |bor d=>exact q2
   |sh d=>exact Rp.mono S1 q2
   |own fs=>
    obtain⟨x,rfl,e3,e4⟩:=q2;exact⟨x,rfl,e3,e4.mono S1 λb hb y e2=>hH b y e2 λw=>nk (E.own k i x a fs o b e hi q1 ha hb w)⟩
   |view ds=>exact q2
   |tmp d=>exact q2
 ·exact hH b x h λk=>z (za b k)
def EnvR.mutate {i:Nat}{a:Addr}{ds es:O}{us:HO} (E:EnvR K H0 B H σ γ) (hi:γ[i]?=some (some (.own ds))) (ha:σ[i]?=some (some (.ref a))) (hu:Mut (some us)) (r:∀F H':Hp,Same (Pu.off (zof B γ σ) H) F->H' a=some us->OR K F H' a es)
  (k1:ds.adr a=λb=>b=a:=by rfl) (k2:es.adr a=λb=>b=a:=by rfl) :
  EnvR K H0 B (upd H a us) σ (γ.set i (some (.own es)))/\Fr B H σ γ (upd H a us) σ (γ.set i (some (.own es))):=by
 refine E.change (o:=ds) (o':=es) hi ha (λb x h n=>by rw[Jn (λz=>n (by rw[k1];exact z))];exact h) (λb h=>by rw[k1]at h;rw[show b=a from h,Jw];exact hu) (λb h=>.inl (by rw[k1];rw[k2]at h;exact h)) (r _ _ ?_ Jw)
 intro b x h;obtain⟨q1,q2⟩:=UV h;have nb:b≠a:=λz=>q2 (.inr ⟨i,ds,a,hi,ha,by rw[k1];exact z⟩);refine JK (by rw[Jn nb];exact q1) λz=>q2 ?_;rcases z with z|⟨j,fs,a',e1,e2,e3⟩
 ·exact .inl z
 ·rcases JM e1 with⟨ej,q,_⟩|⟨_,e⟩
  ·subst ej;cases q
   rw[ha]at e2;cases e2
   rw[k2]at e3;exact absurd e3 nb
  ·exact .inr ⟨j,fs,a',e,e2,e3⟩
end
end Pu
namespace Pu
open PySem PySem.Spec PyProof.Rows L2 Own
abbrev XR:=Str->Prop
def eI:Int->Nat
 | .ofNat n=>2*n
 | .negSucc n=>2*n+1
def dI(n:Nat):Int:=if n % 2=0 then .ofNat (n / 2)else .negSucc (n / 2)
def E9:∀i:Int,dI (eI i)=i
 | .ofNat n=>by
  show dI (2*n)=_;unfold dI;rw[Ya (by omega),show 2*n / 2=n by omega]
 | .negSucc n=>by
  show dI (2*n+1)=_;unfold dI;rw[ZZ (by omega),show(2*n+1) / 2=n by omega]
def encR(r:List Int):Str:=⟨(0::r.map eI).toArray⟩
def decL:List Nat->Option (List Int)
 | 0::t=>some (t.map dI)
 |_=>none
def decR(x:Str):Option (List Int):=decL x.cps.toList
def DN(r:List Int):decR (encR r)=some r:=by
 unfold decR encR;rw[List.toList_toArray];show some ((r.map eI).map dI)=some r;rw[YL];congr 1
 conv=>rhs;rw[←List.map_id r]
 exact QO λi _=>E9 i
def XE(mg:Str->Option Value)(E:XK)(c:Str)(H':Hp):Prop:=match decR c with
 |none=>E (.ref (ExcR.Jm mg c)) none H'
 |some r=>∀(dx l:Addr) (o:Obj),H' dx=some (.xd [("members",.ref l)])->H' l=some (.frz o (.lst (r.map V.int)))->E (.ref (ExcR.Jm mg "Ringed")) (some dx) H'
def XE.plain {mg:Str->Option Value}{E:XK}{c:Str}{H':Hp} (hc:decR c=none) (h:XE mg E c H'):E (.ref (ExcR.Jm mg c)) none H':=by
 unfold XE at h;rw[hc]at h;exact h
def XE.mem {mg:Str->Option Value}{E:XK}{r:List Int}{H':Hp} (h:XE mg E (encR r) H') {dx l:Addr}{o:Obj} (h1:H' dx=some (.xd [("members",.ref l)])) (h2:H' l=some (.frz o (.lst (r.map V.int)))) :
  E (.ref (ExcR.Jm mg "Ringed")) (some dx) H':=by
 unfold XE at h;rw[DN]at h;exact h dx l o h1 h2
def XE.ofM {mg:Str->Option Value}{E:XK}{r:List Int}{H':Hp} (h:∀(dx l:Addr) (o:Obj),H' dx=some (.xd [("members",.ref l)])->H' l=some (.frz o (.lst (r.map V.int)))->E (.ref (ExcR.Jm mg "Ringed")) (some dx) H'):XE mg E (encR r) H':=by
 unfold XE;rw[DN];exact h
abbrev PTE:=Γ->(S->Prop)->XR->Prop
abbrev PTT:=Γ->(Bool->Prop)->XR->Prop
abbrev PTA:=Γ->(List S->Prop)->XR->Prop
abbrev PTO:=Γ->(Option Int->Prop)->XR->Prop
structure PEnds where
 nx:Γ->Prop
 rt:S->Prop
 ex:Γ->Str->Prop
 bk:Γ->Prop:=λ_=>False
 ct:Γ->Prop:=λ_=>False
 rv:Γ->D->Prop:=λ_ _=>False
abbrev PTS:=PEnds->Γ->Prop
abbrev PTG:=S->Γ->(Γ->Prop)->Prop
abbrev PTGs:=List S->Γ->(Γ->Prop)->Prop
inductive TVs (K:Za) (Z:Addr->Prop) (H0 H H':Hp):List S->List V->Prop
 |nil:TVs K Z H0 H H' [] []
 |cons {s:S} {v:V} {ss:List S} {vs:List V}:TV K Z H0 H H' s v->TVs K Z H0 H H' ss vs->TVs K Z H0 H H' (s::ss) (v::vs)
section
variable (K:Za) (mg:Str->Option Value) (E:L2.St->XK)
def SndE(t:TE)(p:PTE):Prop:=∀(H0:Hp) (B:Addr->Prop) (H:Hp) (σ:L2.St) (γ:Γ) (R:S->Prop) (X:XR) (Q:VK),EnvR K H0 B H σ γ->p γ R X->
 (∀s v H',R s->Same H H'->TV K (zof B γ σ) H0 H H' s v->Q v H')->(∀c H',X c->Same H H'->XE mg (E σ) c H')->t σ H Q
def SndT(t:TT)(p:PTT):Prop:=∀(H0:Hp) (B:Addr->Prop) (H:Hp) (σ:L2.St) (γ:Γ) (R:Bool->Prop) (X:XR) (Q:Bool->Hp->Prop),EnvR K H0 B H σ γ->p γ R X->
 (∀b H',R b->Same H H'->Q b H')->(∀c H',X c->Same H H'->XE mg (E σ) c H')->t σ H Q
def SndA(t:TA)(p:PTA):Prop:=∀(H0:Hp) (B:Addr->Prop) (H:Hp) (σ:L2.St) (γ:Γ) (R:List S->Prop) (X:XR) (Q:List V->Hp->Prop),EnvR K H0 B H σ γ->p γ R X->
 (∀ss vs H',R ss->Same H H'->TVs K (zof B γ σ) H0 H H' ss vs->Q vs H')->(∀c H',X c->Same H H'->XE mg (E σ) c H')->t σ H Q
def SndO(t:TO)(p:PTO):Prop:=∀(H0:Hp) (B:Addr->Prop) (H:Hp) (σ:L2.St) (γ:Γ) (R:Option Int->Prop) (X:XR) (Q:Option Int->Hp->Prop),EnvR K H0 B H σ γ->p γ R X->
 (∀o H',R o->Same H H'->Q o H')->(∀c H',X c->Same H H'->XE mg (E σ) c H')->t σ H Q
structure EndR (H0:Hp) (B:Addr->Prop) (H:Hp) (σ:L2.St) (γ:Γ) (R:PEnds) (D:Ends):Prop where
 nx:∀σ' γ' H',R.nx γ'->EnvR K H0 B H' σ' γ'->Fr B H σ γ H' σ' γ'->D.nx σ' H'
 rt:∀s v H',R.rt s->Same H0 H'->TV K B H0 H0 H' s v->D.rt v H'
 ex:∀σ' γ' c H',R.ex γ' c->EnvR K H0 B H' σ' γ'->Fr B H σ γ H' σ' γ'->XE mg (E σ') c H'
 bk:∀σ' γ' H',R.bk γ'->EnvR K H0 B H' σ' γ'->Fr B H σ γ H' σ' γ'->D.bk σ' H'
 ct:∀σ' γ' H',R.ct γ'->EnvR K H0 B H' σ' γ'->Fr B H σ γ H' σ' γ'->D.ct σ' H'
 rv:∀σ' γ' d v H',R.rv γ' d->EnvR K H0 B H' σ' γ'->Fr B H σ γ H' σ' γ'->Rp K (off (zof B γ' σ') H') d v->D.rt v H'
def SndS(t:TS)(p:PTS):Prop:=∀(H0:Hp) (B:Addr->Prop) (H:Hp) (σ:L2.St) (γ:Γ) (R:PEnds) (D:Ends),(∀b,B b->∃o,H0 b=some o)->EnvR K H0 B H σ γ->p R γ->EndR K mg E H0 B H σ γ R D->t D σ H
end
section
variable {K:Za}{mg:Str->Option Value}{E:L2.St->XK}{H0 H H1 H':Hp}{B Z Z':Addr->Prop}{σ:L2.St}{γ:Γ}
def TVs.weakG {H1 H2:Hp}:∀{ss:List S}{vs:List V},Same H H1->TVs K Z H0 H1 H2 ss vs->TVs K Z H0 H H2 ss vs
 |_,_,_,.nil=>.nil
 |_,_,S1,.cons h r=>.cons (TV.weak S1 (λ_ z=>z) h) (TVs.weakG S1 r)
def TVs.rps (h0:Same H0 H'):∀{ss:List S}{vs:List V},TVs K Z H0 H H' ss vs->Rps K H' (ss.map S.d) vs
 |_,_,.nil=>.nil
 |_,_,.cons h r=>.cons (h.rp h0) (TVs.rps h0 r)
def TVs.shd {ds:List D} (h0:Same H0 H') (hm:∀b,Z b->Mut (H b)) (S1:Same H H'):∀{ss:List S}{vs:List V}{ds:List D},TVs K Z H0 H H' ss vs->ss.map S.shd=ds.map some->Rps K (off Z H') ds vs
 |_,_,[],.nil,_=>.nil
 |_,_,_::_,.nil,e=>by cases e
 |_,_,[],.cons _ _,e=>by cases e
 |_,_,d::ds,.cons h r,e=>by
  rw[Ys,Ys,Qj]at e;exact .cons (h.shd h0 hm S1 e.1) (TVs.shd (ds:=ds) h0 hm S1 r e.2)
def Rp.int_inv {i:Int}{v:V} (h:Rp K H (.int i) v):v=.int i:=by cases h;rfl
def Rp.bl_inv {b:Bool}{v:V} (h:Rp K H (.bl b) v):v=.bl b:=by cases h;rfl
def Rp.str_inv {x:Str}{v:V} (h:Rp K H (.str x) v):v=.str x:=by cases h;rfl
def Rp.non_inv {v:V} (h:Rp K H .non v):v=.non:=by cases h;rfl
def Rp.ty_inv {n:String}{v:V} (h:Rp K H (.ty n) v):v=.ty n:=by cases h;rfl
def pVar(i:Nat):PTE:=λγ R _=>match γ[i]? with
 |some (some (.own ds))=>R (.view ds)
 |some (some s)=>R s
 |_=>False
def Jd(i:Nat):SndE K mg E (tVar i) (pVar i):=by
 intro H0 B H σ γ R X Q env h q _;unfold pVar at h;split at h
 ·rename_i ds e;obtain⟨v,h1,a,rfl,h3,h4⟩:=env.slot i _ e;exact⟨_,h1,q _ _ H h (Same.refl _) ⟨a,rfl,h4⟩⟩
 ·rename_i s ns e;obtain⟨v,h1,h2⟩:=env.slot i _ e;refine⟨v,h1,q _ _ H h (Same.refl _) ?_⟩;cases s with
  |bor d=>exact h2
  |sh d=>exact h2
  |own ds=>exact absurd rfl (ns ds)
  |view ds=>exact h2.elim
  |tmp d=>exact h2.elim
 ·exact h.elim
def pC(d:D):PTE:=λ_ R _=>R (.sh d)
def se_c{d:D}{v:V}(h:∀H,Rp K H d v):SndE K mg E (tC v) (pC d):=by
 intro H0 B H σ γ R X Q env p q _;exact q _ _ H p (Same.refl _) (h _)
def Je{i:Int}:SndE K mg E (tC (.int i)) (pC (.int i)):=se_c λ_=>.int i
def Uj{b:Bool}:SndE K mg E (tC (.bl b)) (pC (.bl b)):=se_c λ_=>.bl b
def KP{x:Str}:SndE K mg E (tC (.str x)) (pC (.str x)):=se_c λ_=>.str x
def XM{n:String}:SndE K mg E (tC (.ty n)) (pC (.ty n)):=se_c λ_=>.ty n
def p2(a b:PTE)(f:S->S->(S->Prop)->Prop):PTE:=λγ R X=>a γ (λx=>b γ (λy=>f x y R) X) X
def se_2{r:R2}{ta tb:TE}{a b:PTE}{f:S->S->(S->Prop)->Prop}(ha:SndE K mg E ta a)(hb:SndE K mg E tb b)(hr:∀(H0 H H2:Hp) (Z:Addr->Prop) (x y:S) (v u:V) (R:S->Prop) (Q:VK),Same H0 H2->Same H H2->(∀b,Z b->Mut (H b))->TV K Z H0 H H2 x v->TV K Z H0 H H2 y u->f x y R->(∀s z H',R s->Same H2 H'->TV K Z H0 H H' s z->Q z H')->r v u H2 Q) :
  SndE K mg E (tOp r ta tb) (p2 a b f):=by
 intro H0 B H σ γ R X Q env p q qx;refine ha H0 B H σ γ _ X _ env p (λx v H1 h1 S1 t1=>?_) qx;have env1:=env.grow S1;refine hb H0 B H1 σ γ _ X _ env1 h1 (λy u H2 h2 S2 t2=>?_) λc H' hc S'=>qx c H' hc (S1.trans S');exact hr H0 H H2 _ x y v u R Q (env1.same.trans S2) (S1.trans S2) env.zm (t1.grow S2) (TV.weak S1 (λ_ z=>z) t2) h2 λs z H' hs S3 t3=>q s z H' hs ((S1.trans S2).trans S3) t3
def fI0(g:Int->Int->D):S->S->(S->Prop)->Prop:=λx y R=>match x.d,y.d with
 | .int i,.int j=>R (.sh (g i j))
 |_,_=>False
def fI(C:Int->Int->Prop)(g:Int->Int->D):S->S->(S->Prop)->Prop:=λx y R=>match x.d,y.d with
 | .int i,.int j=>C i j/\R (.sh (g i j))
 |_,_=>False
def Pj{g:Int->Int->V}{g':Int->Int->D}{ta tb:TE}{a b:PTE}(hg:∀H i j,Rp K H (g' i j) (g i j))(ha:SndE K mg E ta a)(hb:SndE K mg E tb b):SndE K mg E (tOp (rI0 g) ta tb) (p2 a b (fI0 g')):=by
 refine se_2 ha hb λH0 H H2 Z x y v u R Q s0 s1 hm tx ty h q=>?_;unfold fI0 at h;have rx:=tx.rp s0;have ry:=ty.rp s0;split at h
 ·rename_i i j e1 e2;rw[e1]at rx;rw[e2]at ry;exact⟨i,j,rx.int_inv,ry.int_inv,q _ _ H2 h (Same.refl _) (hg _ i j)⟩
 ·exact h.elim
def se_I{C:Int->Int->Prop}{g:Int->Int->V}{g':Int->Int->D}{ta tb:TE}{a b:PTE}(hg:∀H i j,Rp K H (g' i j) (g i j))(ha:SndE K mg E ta a)(hb:SndE K mg E tb b):SndE K mg E (tOp (rI C g) ta tb) (p2 a b (fI C g')):=by
 refine se_2 ha hb λH0 H H2 Z x y v u R Q s0 s1 hm tx ty h q=>?_;unfold fI at h;have rx:=tx.rp s0;have ry:=ty.rp s0;split at h
 ·rename_i i j e1 e2;rw[e1]at rx;rw[e2]at ry;exact⟨i,j,rx.int_inv,ry.int_inv,h.1,q _ _ H2 h.2 (Same.refl _) (hg _ i j)⟩
 ·exact h.elim
section
variable {ta tb tc:TE}{a b c:PTE}
def JT(ha:SndE K mg E ta a)(hb:SndE K mg E tb b):SndE K mg E (tOp (rI0 λi j=>.int (i+j)) ta tb) (p2 a b (fI0 λi j=>.int (i+j))):=Pj (λ_ _ _=>.int _) ha hb
def Na(ha:SndE K mg E ta a)(hb:SndE K mg E tb b):SndE K mg E (tOp (rI0 λi j=>.int (i-j)) ta tb) (p2 a b (fI0 λi j=>.int (i-j))):=Pj (λ_ _ _=>.int _) ha hb
def XU(ha:SndE K mg E ta a)(hb:SndE K mg E tb b):SndE K mg E (tOp (rI CMul λi j=>.int (i*j)) ta tb) (p2 a b (fI CMul λi j=>.int (i*j))):=se_I (λ_ _ _=>.int _) ha hb
def Uu(ha:SndE K mg E ta a)(hb:SndE K mg E tb b):SndE K mg E (tOp (rI CDiv λi j=>.int (i / j)) ta tb) (p2 a b (fI CDiv λi j=>.int (i / j))):=se_I (λ_ _ _=>.int _) ha hb
def JL(ha:SndE K mg E ta a)(hb:SndE K mg E tb b):SndE K mg E (tOp (rI (λ_ j=>0<j) λi j=>.int (i % j)) ta tb) (p2 a b (fI (λ_ j=>0<j) λi j=>.int (i % j))):=se_I (λ_ _ _=>.int _) ha hb
def Kq(ha:SndE K mg E ta a)(hb:SndE K mg E tb b):SndE K mg E (tOp (rI0 λi j=>.bl (decide (i<j))) ta tb) (p2 a b (fI0 λi j=>.bl (decide (i<j)))):=Pj (λ_ _ _=>.bl _) ha hb
def Xs(ha:SndE K mg E ta a)(hb:SndE K mg E tb b):SndE K mg E (tOp (rI0 λi j=>.bl (decide (j<i))) ta tb) (p2 a b (fI0 λi j=>.bl (decide (j<i)))):=Pj (λ_ _ _=>.bl _) ha hb
def F9(ha:SndE K mg E ta a)(hb:SndE K mg E tb b):SndE K mg E (tOp (rI0 λi j=>.bl (decide (j<=i))) ta tb) (p2 a b (fI0 λi j=>.bl (decide (j<=i)))):=Pj (λ_ _ _=>.bl _) ha hb
def fEq(neg:Bool):S->S->(S->Prop)->Prop:=λx y R=>match x.d,y.d with
 | .int i,.int j=>R (.sh (.bl (if neg then !decide (i=j)else decide (i=j))))
 | .str i,.str j=>R (.sh (.bl (if neg then !decide (i=j)else decide (i=j))))
 | .bl i,.bl j=>R (.sh (.bl (if neg then !decide (i=j)else decide (i=j))))
 |_,_=>False
def Kv{α β:Type}[DecidableEq α][DecidableEq β]{f:α->β}(hf:∀a b,f a=f b->a=b)(a b:α):decide (f a=f b)=decide (a=b):=by
 by_cases e:a=b
 ·rw[Yb e,Yb (YD f e)]
 ·rw[Ym e,Ym λz=>e (hf a b z)]
def fIx:S->S->(S->Prop)->Prop:=λx y R=>match x.d,y.d with
 | .lst ds,.int k=>∃d,atI ds k=some d/\R (x.sub d)
 | .tup ds,.int k=>∃d,atI ds k=some d/\R (x.sub d)
 | .scr ns,.int k=>∃i,atI ns k=some i/\R (.sh (.int i))
 | .fL ns,.int k=>∃i,atI ns k=some i/\R (.sh (.int i))
 |_,_=>False
def DU{ds:List D}{vs:List V}{k:Int}{d:D}{P:D->V->Prop}(hl:vs.length=ds.length)(h:∀(i:Nat) d,ds[i]?=some d->∃u,vs[i]?=some u/\P d u)(e:atI ds k=some d):∃u,atI vs k=some u/\P d u:=by
 unfold atI at e ⊢;rw[hl];cases q:ixN ds.length k with
 |none=>rw[q]at e;cases e
 |some j=>
  rw[q]at e;exact h j d e
def Jt(ha:SndE K mg E ta a)(hb:SndE K mg E tb b):SndE K mg E (tOp (λx y H Q=>rIxL K x y H Q\/rIxT K x y H Q) ta tb) (p2 a b fIx):=by
 refine se_2 ha hb λH0 H H2 Z x y v u R Q s0 s1 hm tx ty h q=>?_;unfold fIx at h;have ry:=ty.rp s0;obtain⟨pl,pt⟩:=tx.part s0 hm s1;split at h
 ·rename_i ds k e1 e2;rw[e2]at ry;obtain⟨d,hd,hR⟩:=h;obtain⟨l,vs,rfl,hl,hn,hp⟩:=pl ds e1;obtain⟨z,hz,tz⟩:=DU hn hp hd;exact .inl ⟨l,vs,k,z,rfl,ry.int_inv,SqL.of hl,hz,q _ _ H2 hR (Same.refl _) tz⟩
 ·rename_i ds k e1 e2;rw[e2]at ry;obtain⟨d,hd,hR⟩:=h;obtain⟨l,vs,rfl,hl,hn,hp⟩:=pt ds e1;obtain⟨z,hz,tz⟩:=DU hn hp hd;exact .inr ⟨l,vs,k,z,rfl,ry.int_inv,SqT.of hl,hz,q _ _ H2 hR (Same.refl _) tz⟩
 ·rename_i ns k e1 e2;rw[e2]at ry;obtain⟨i,hi,hR⟩:=h;have rx:=tx.rp s0;rw[e1]at rx;cases rx with
  |scr hs=>exact .inl ⟨_,_,k,.int i,rfl,ry.int_inv,hs,Uv hi,q _ _ H2 hR (Same.refl _) (.int i)⟩
 ·rename_i ns k e1 e2;rw[e2]at ry;obtain⟨i,hi,hR⟩:=h;have rx:=tx.rp s0;rw[e1]at rx;cases rx with
  |fL hs=>exact .inl ⟨_,_,k,.int i,rfl,ry.int_inv,.inl (.inr ⟨_,hs⟩),Uv hi,q _ _ H2 hR (Same.refl _) (.int i)⟩
 ·exact h.elim
def LD(a b:PTE):PTE:=λγ R X=>a γ (λx=>match x.d with | .bl c=>if c=true then b γ R X else R (.sh (.bl false))|_=>False) X
def GW(a:PTE):PTE:=λγ R X=>a γ (λx=>match x.d with | .bl c=>R (.sh (.bl (!c)))|_=>False) X
def NJ(ha:SndE K mg E ta a)(hb:SndE K mg E tb b):SndE K mg E (Af ta tb) (LD a b):=by
 intro H0 B H σ γ R X Q env p q qx;refine ha H0 B H σ γ _ X _ env p (λx v H1 h1 S1 t1=>?_) qx;have env1:=env.grow S1;have rx:=t1.rp env1.same;split at h1
 ·rename_i c e1;rw[e1]at rx;refine⟨c,rx.bl_inv,?_⟩;split at h1
  ·rename_i hc;rw[Ya hc];exact hb H0 B H1 σ γ _ X _ env1 h1 (λy u H2 h2 S2 t2=>q y u H2 h2 (S1.trans S2) (TV.weak S1 (λ_ z=>z) t2)) λc H' hc S'=>qx c H' hc (S1.trans S')
  ·rename_i hc;rw[ZZ hc];exact q _ _ H1 h1 S1 (.bl _)
 ·exact h1.elim
def Nf(ha:SndE K mg E ta a):SndE K mg E (AD ta) (GW a):=by
 intro H0 B H σ γ R X Q env p q qx;refine ha H0 B H σ γ _ X _ env p (λx v H1 h1 S1 t1=>?_) qx;have rx:=t1.rp (env.grow S1).same;split at h1
 ·rename_i c e1;rw[e1]at rx;exact⟨c,rx.bl_inv,q _ _ H1 h1 S1 (.bl _)⟩
 ·exact h1.elim
def pNeg(a:PTE):PTE:=λγ R X=>a γ (λx=>match x.d with | .int i=>R (.sh (.int (-i)))|_=>False) X
def Kf(ha:SndE K mg E ta a):SndE K mg E (tUn (rU λi=>.int (-i)) ta) (pNeg a):=by
 intro H0 B H σ γ R X Q env p q qx;refine ha H0 B H σ γ _ X _ env p (λx v H1 h1 S1 t1=>?_) qx;have rx:=t1.rp (env.grow S1).same;split at h1
 ·rename_i c e1;rw[e1]at rx;exact⟨c,rx.int_inv,q _ _ H1 h1 S1 (.int _)⟩
 ·exact h1.elim
def Ds(a:PTE):PTT:=λγ R X=>a γ (λx=>match x.d with | .bl c=>R c|_=>False) X
def Jv(ha:SndE K mg E ta a):SndT K mg E (Ts ta) (Ds a):=by
 intro H0 B H σ γ R X Q env p q qx;refine ha H0 B H σ γ _ X _ env p (λx v H1 h1 S1 t1=>?_) qx;have rx:=t1.rp (env.grow S1).same;split at h1
 ·rename_i c e1;rw[e1]at rx;exact⟨c,rx.bl_inv,q _ H1 h1 S1⟩
 ·exact h1.elim
def st_b(ha:SndE K mg E ta a):SndT K mg E (tB ta) (Ds a):=Jv ha
variable {sa sb:TT}{pa pb:PTT}
def pAnd(a b:PTT):PTT:=λγ R X=>a γ (λc=>if c=true then b γ R X else R false) X
def pOr(a b:PTT):PTT:=λγ R X=>a γ (λc=>if c=true then R true else b γ R X) X
def pNot(a:PTT):PTT:=λγ R X=>a γ (λc=>R (!c)) X
def Kd(ha:SndT K mg E sa pa)(hb:SndT K mg E sb pb):SndT K mg E (tAnd sa sb) (pAnd pa pb):=by
 intro H0 B H σ γ R X Q env p q qx;refine ha H0 B H σ γ _ X _ env p (λc H1 h1 S1=>?_) qx;split at h1
 ·rename_i hc;rw[Ya hc];exact hb H0 B H1 σ γ _ X _ (env.grow S1) h1 (λy H2 h2 S2=>q y H2 h2 (S1.trans S2)) λc H' hc S'=>qx c H' hc (S1.trans S')
 ·rename_i hc;rw[ZZ hc];exact q _ H1 h1 S1
def U3(ha:SndT K mg E sa pa)(hb:SndT K mg E sb pb):SndT K mg E (tOr sa sb) (pOr pa pb):=by
 intro H0 B H σ γ R X Q env p q qx;refine ha H0 B H σ γ _ X _ env p (λc H1 h1 S1=>?_) qx;split at h1
 ·rename_i hc;rw[Ya hc];exact q _ H1 h1 S1
 ·rename_i hc;rw[ZZ hc];exact hb H0 B H1 σ γ _ X _ (env.grow S1) h1 (λy H2 h2 S2=>q y H2 h2 (S1.trans S2)) λc H' hc S'=>qx c H' hc (S1.trans S')
def Ur(ha:SndT K mg E sa pa):SndT K mg E (tNot sa) (pNot pa):=by
 intro H0 B H σ γ R X Q env p q qx;exact ha H0 B H σ γ _ X _ env p (λc H1 h1 S1=>q _ H1 h1 S1) qx
end
def pNil:PTA:=λ_ R _=>R []
def Xt(a:PTE)(r:PTA):PTA:=λγ R X=>a γ (λs=>r γ (λss=>R (s::ss)) X) X
def J1:SndA K mg E tNil pNil:=by
 intro H0 B H σ γ R X Q env p q _;exact q _ _ H p (Same.refl _) .nil
def JC{te:TE}{ta:TA}{a:PTE}{r:PTA}(ha:SndE K mg E te a)(hr:SndA K mg E ta r):SndA K mg E (Ua te ta) (Xt a r):=by
 intro H0 B H σ γ R X Q env p q qx;refine ha H0 B H σ γ _ X _ env p (λs v H1 h1 S1 t1=>?_) qx;refine hr H0 B H1 σ γ _ X _ (env.grow S1) h1 (λss vs H2 h2 S2 t2=>?_) λc H' hc S'=>qx c H' hc (S1.trans S');exact q _ _ H2 h2 (S1.trans S2) (.cons (t1.grow S2) (TVs.weakG S1 t2))
def shds:List S->Option (List D)
 |[]=>some []
 |s::r=>match s.shd,shds r with
  |some d,some ds=>some (d::ds)
  |_,_=>none
def SW:∀{ss:List S}{ds:List D},shds ss=some ds->ss.map S.shd=ds.map some
 |[],ds,h=>by cases h;rfl
 |s::r,ds,h=>by
  unfold shds at h;split at h
  ·rename_i d es e1 e2;cases h
   rw[Ys,Ys,e1,SW e2]
  ·cases h
def pTup(r:PTA):PTE:=λγ R X=>r γ (λss=>match shds ss with|some ds=>ds.length<=1000/\R (.sh (.tup ds))|none=>False) X
def pLst(r:PTA):PTE:=λγ R X=>r γ (λss=>match shds ss with|some ds=>ds.length<=1000/\R (.own ds)|none=>False) X
def Sw{n:Nat}(h:n<=1000):n<=sizeLine:=Qk (DJ h)
def Ue{ta:TA}{r:PTA}(hr:SndA K mg E ta r):SndE K mg E (tTup ta) (pTup r):=by
 intro H0 B H σ γ R X Q env p q qx;refine hr H0 B H σ γ _ X _ env p (λss vs H1 h1 S1 t1=>?_) qx;split at h1
 ·rename_i ds e;have env1:=env.grow S1;have rp:=t1.shd (ds:=ds) env1.same env.zm S1 (SW e);refine⟨by rw[rp.len];exact Sw h1.1,λl nl=>?_⟩;have S2:=JP (o:=.tup vs) nl;refine q _ _ _ h1.2 (S1.trans S2) (.tup (JK Jw λz=>?_) (Rps.mono (Jy S2 λ_ _ _ z=>z) rp))
  have:=env1.zm l z
  rw[nl]at this;exact this
 ·exact h1.elim
def Kj{H H1:Hp}{l:Addr}{vs:List V}{ds:List D}(S1:Same H H1)(nl:H1 l=none)(rp:Rps K (off Z H1) ds vs):TV K Z H0 H (upd H1 l (.lst vs)) (.own ds) (.ref l):=
 ⟨l,rfl,(λ_ e=>e▸S1.free nl),vs,Jw,Rps.mono (Jy (JP nl) λb o hb z y=>y.elim z λe=>by rw[e,nl]at hb;cases hb) rp⟩
def JI{ta:TA}{r:PTA}(hr:SndA K mg E ta r):SndE K mg E (tLst ta) (pLst r):=by
 intro H0 B H σ γ R X Q env p q qx;refine hr H0 B H σ γ _ X _ env p (λss vs H1 h1 S1 t1=>?_) qx;split at h1
 ·rename_i ds e;have env1:=env.grow S1;have rp:=t1.shd (ds:=ds) env1.same env.zm S1 (SW e);refine⟨by rw[rp.len];exact Sw h1.1,λl nl=>?_⟩;exact q _ _ _ h1.2 (S1.trans (JP nl)) (Kj S1 nl rp)
 ·exact h1.elim
abbrev Pc:=List D->(S->Prop)->XR->Prop
def spOf(mg:Str->Option Value)(c:Pc)(K:Za):Sp:=λvs H Q E=>∃ds R X,Rps K H ds vs/\c ds R X/\(∀s v H',R s->Same H H'->TV K (λb=>Mut (H b)) H H H' s v->Q v H')/\∀e H',X e->Same H H'->XE mg E e H'
def S.back:S->S
 | .bor d=>argT d | .view o=>.tmp o.d|s=>s
def TV.back {s:S}{v:V} (env:EnvR K H0 B H1 σ γ) (S1:Same H H1) (S2:Same H1 H') (h:TV K (λb=>Mut (H1 b)) H1 H1 H' s v):TV K (zof B γ σ) H0 H H' s.back v:=by
 cases s with
 |bor d=>exact Xf (λb z=>Xi S2 (env.zm b z)) (Rp.mono S2 h)
 |sh d=>exact Rp.mono (Jy (Same.refl _) λb _ _ z y=>z (env.zm b y)) h
 |own ds=>
  obtain⟨a,rfl,e0,r⟩:=h;exact⟨a,rfl,(λb hb=>S1.free (e0 b hb)),r.mono (Jy (Same.refl _) λb _ _ z y=>z (y.imp (env.zm b) id)) λ_ _ _ q=>q⟩
 |view ds=>
  obtain⟨a,rfl,r⟩:=h;exact r.rp off_sub
 |tmp d=>exact h
def FU(c:Pc)(r:PTA):PTE:=λγ R X=>r γ (λss=>c (ss.map S.d) (λs=>R s.back) λ_=>False) X
def RC(c:Pc)(r:PTA):PTE:=λγ R X=>r γ (λss=>c (ss.map S.d) (λs=>R s.back) X) X
def Jr{c:Pc}{ta:TA}{r:PTA}(hr:SndA K mg E ta r):SndE K mg E (XH (spOf mg c K) [] E0 ta) (FU c r):=by
 intro H0 B H σ γ R X Q env p q qx;refine hr H0 B H σ γ _ X _ env p (λss vs H1 h1 S1 t1=>?_) qx;rw[YO];have env1:=env.grow S1;exact⟨_,_,_,t1.rps env1.same,h1,λs v H' hs S2 tv=>q _ _ H' hs (S1.trans S2) (tv.back env1 S1 S2),λ_ _ z=>z.elim⟩
structure AliasW (R:S->Prop) (s s' s0:S):Prop where
 w:(s=s'/\R s0)\/R s.back
def M3(c:Pc)(R:S->Prop):List S->Prop
 |s0::ss=>∀a,c (.loc a s0.d::ss.map S.d) (λs=>AliasW R s (.bor (.loc a s0.d)) s0) λ_=>False
 |[]=>False
def Mp(c:Pc)(r:PTA):PTE:=λγ R X=>r γ (M3 c R) X
def IV{c:Pc}{ta:TA}{r:PTA}(hr:SndA K mg E ta r)(hc:∀s0:S,∀v,(∃H,Rp K H s0.d v)->True:=λ_ _ _=>trivial):SndE K mg E (XH (spOf mg c K) [] E0 ta) (Mp (λds R X=>(∃l es,ds=.loc l es::ds.tail/\∃xs,es=.lst xs)/\c ds R X) r):=by
 intro H0 B H σ γ R X Q env p q qx;refine hr H0 B H σ γ _ X _ env p (λss vs H1 h1 S1 t1=>?_) qx;rw[YO];have env1:=env.grow S1;cases t1 with
 |nil=>exact h1.elim
 |cons t0 ts=>
  rename_i s0 v0 ss vs;have r0:=t0.rp env1.same;obtain⟨⟨l,es,e1,xs,e2⟩,_⟩:=h1 0
  have e3:s0.d=.lst xs:=by
   have:=(List.cons.inj e1).1
   cases this
   exact e2
  have r0':=r0;rw[e3]at r0';obtain⟨a,us,rfl,ha,ru⟩:=r0'.lst_inv;refine⟨_,_,_,.cons (.loc r0) (ts.rps env1.same),(h1 a).2,λs v H' hs S2 tv=>?_,λ_ _ z=>z.elim⟩;rcases hs.w with⟨rfl,hs'⟩|hs'
  ·have tv':Rp K H1 (.loc a s0.d) v:=tv;cases tv' with
   |loc h=>exact q _ _ H' hs' (S1.trans S2) (t0.grow S2)
  ·exact q _ _ H' hs' (S1.trans S2) (tv.back env1 S1 S2)
def UJ{c:Pc}{ta:TA}{r:PTA}{Ec:XK}(hr:SndA K mg (λ_=>Ec) ta r):SndE K mg (λ_=>Ec) (XH (spOf mg c K) [] Ec ta) (RC c r):=by
 intro H0 B H σ γ R X Q env p q qx;refine hr H0 B H σ γ _ X _ env p (λss vs H1 h1 S1 t1=>?_) qx;rw[YO];have env1:=env.grow S1;exact⟨_,_,X,t1.rps env1.same,h1,λs v H' hs S2 tv=>q _ _ H' hs (S1.trans S2) (tv.back env1 S1 S2),λe H' he S2=>qx e H' he (S1.trans S2)⟩
end
section
variable {K:Za}{mg:Str->Option Value}{E:L2.St->XK}{H0 H H1 H':Hp}{B Z Z':Addr->Prop}{σ:L2.St}{γ:Γ}
def EnvR.set {i:Nat}{s s':S}{v:V} (Ev:EnvR K H0 B H σ γ) (S1:Same H H') (h:TV K (zof B γ σ) H0 H H' s v) (e:s.slot=some s') :
  EnvR K H0 B H' (σ.set i (some v)) (γ.set i (some s'))/\Fr B H σ γ H' (σ.set i (some v)) (γ.set i (some s')):=by
 by_cases hi:i<γ.length
 ·exact Ev.put S1 h e hi
 ·rw[List.set_eq_of_length_le (by rw[Ev.len];omega),List.set_eq_of_length_le (by omega)];exact⟨Ev.grow S1,Fr.grow S1⟩
def Upd(is:List Nat)(σ σ':L2.St):Prop:=(∀j,j∉is->σ'[j]?=σ[j]?)/\σ'.length=σ.length
def Ku(K:Za)(is:List Nat)(t:TG)(p:PTG):Prop:=∀(H0:Hp) (B:Addr->Prop) (H H':Hp) (σ:L2.St) (γ:Γ) (s:S) (v:V) (R:Γ->Prop) (Q:L2.St->Hp->Prop),EnvR K H0 B H σ γ->Same H H'->TV K (zof B γ σ) H0 H H' s v->p s γ R->
 (∀σ' γ',R γ'->EnvR K H0 B H' σ' γ'->Fr B H σ γ H' σ' γ'->Upd is σ σ'->Q σ' H')->t v σ H' Q
def FN(i:Nat):PTG:=λs γ R=>match s.slot with|some s'=>R (γ.set i (some s'))|none=>False
def Jh(i:Nat):Ku K [i] (Kr i) (FN i):=by
 intro H0 B H H' σ γ s v R Q env S1 tv p q;unfold FN at p;split at p
 ·rename_i s' e;obtain⟨e1,f1⟩:=env.set (i:=i) S1 tv e;exact q _ _ p e1 f1 ⟨λj hj=>UA λz=>hj (by rw[z];exact ZX.mpr rfl),Wo⟩
 ·exact p.elim
def MQ:PTGs:=λss γ R=>match ss with|[]=>R γ|_=>False
def MT(g:PTG)(r:PTGs):PTGs:=λss γ R=>match ss with|s::t=>g s γ λγ'=>r t γ' R|[]=>False
def TV.notown {s:S}{v:V}{σ':L2.St}{γ':Γ}{Hb:Hp} (f:Fr B H σ γ H' σ' γ') (hb:Same H H') (n:∀ds,s≠.own ds) (nv:∀ds,s≠.view ds) (h:TV K (zof B γ σ) H0 Hb H s v):TV K (zof B γ' σ') H0 H' H' s v:=by
 cases s with
 |bor d=>exact h
 |sh d=>exact Rp.mono f.off h
 |own ds=>exact absurd rfl (n ds)
 |view ds=>exact absurd rfl (nv ds)
 |tmp d=>exact Rp.mono hb h
def TVs.notown {σ':L2.St}{γ':Γ}{Hb:Hp} (f:Fr B H σ γ H σ' γ'):∀{ss:List S}{vs:List V},(∀s∈ss,∀ds,s≠.own ds/\s≠.view ds)->TVs K (zof B γ σ) H0 Hb H ss vs->TVs K (zof B γ' σ') H0 H H ss vs
 |_,_,_,.nil=>.nil
 |_,_,n,.cons h r=>.cons (h.notown f (Same.refl _) (λds=>(n _ Yz ds).1) λds=>(n _ Yz ds).2) (TVs.notown f (λs hs=>n s (Yq _ hs)) r)
def Bh(d:D):arg d=.sh d\/arg d=.bor d:=by unfold arg;cases imm d<;>simp
def Pt(d:D):argT d=.sh d\/argT d=.tmp d:=by unfold argT;cases imm d<;>simp
def Cz(s:S)(d:D):∀ds,s.sub d≠.own ds/\s.sub d≠.view ds:=λds=>by
 cases s with
 |bor b=>rcases Bh d with e|e<;>(show arg d≠_/\arg d≠_;rw[e];exact⟨(λz=>by cases z),(λz=>by cases z)⟩)
 |tmp b=>rcases Pt d with e|e<;>(show argT d≠_/\argT d≠_;rw[e];exact⟨(λz=>by cases z),(λz=>by cases z)⟩)
 |sh b=>exact⟨(λz=>by cases z),(λz=>by cases z)⟩
 |own b=>
  cases b with
  |nst cs=>rcases Pt d with e|e<;>(show argT d≠_/\argT d≠_;rw[e];exact⟨(λz=>by cases z),(λz=>by cases z)⟩)
  |nsl a cs=>rcases Pt d with e|e<;>(show argT d≠_/\argT d≠_;rw[e];exact⟨(λz=>by cases z),(λz=>by cases z)⟩)
  |_=>exact⟨(λz=>by cases z),(λz=>by cases z)⟩
 |view b=>
  cases b with
  |nst cs=>rcases Pt d with e|e<;>(show argT d≠_/\argT d≠_;rw[e];exact⟨(λz=>by cases z),(λz=>by cases z)⟩)
  |nsl a cs=>rcases Pt d with e|e<;>(show argT d≠_/\argT d≠_;rw[e];exact⟨(λz=>by cases z),(λz=>by cases z)⟩)
  |_=>exact⟨(λz=>by cases z),(λz=>by cases z)⟩
def Tj(K:Za)(is:List Nat)(t:TGs)(p:PTGs):Prop:=∀(H0:Hp) (B:Addr->Prop) (H:Hp) (σ:L2.St) (γ:Γ) (ss:List S) (vs:List V) (R:Γ->Prop) (Q:L2.St->Hp->Prop),EnvR K H0 B H σ γ->TVs K (zof B γ σ) H0 H H ss vs->(∀s∈ss,∀ds,s≠.own ds/\s≠.view ds)->p ss γ R->
 (∀σ' γ',R γ'->EnvR K H0 B H σ' γ'->Fr B H σ γ H σ' γ'->Upd is σ σ'->Q σ' H)->t vs σ H Q
def Kk:Tj K [] gNil MQ:=by
 intro H0 B H σ γ ss vs R Q env tv no p q;cases tv with
 |nil=>exact⟨rfl,q _ _ p env Fr.refl ⟨λ_ _=>rfl,rfl⟩⟩
 |cons _ _=>exact p.elim
def UK{is js:List Nat}{g:TG}{r:TGs}{pg:PTG}{pr:PTGs}(hg:Ku K is g pg)(hr:Tj K js r pr):Tj K (is++js) (DB g r) (MT pg pr):=by
 intro H0 B H σ γ ss vs R Q env tv no p q;cases tv with
 |nil=>exact p.elim
 |cons h t=>
  refine⟨_,_,rfl,hg H0 B H H σ γ _ _ _ _ env (Same.refl _) h p λσ1 γ1 p1 e1 f1 k1=>?_⟩;refine hr H0 B H σ1 γ1 _ _ _ _ e1 (TVs.notown f1 (λs hs=>no s (Yq _ hs)) t) (λs hs=>no s (Yq _ hs)) p1 λσ2 γ2 p2 e2 f2 k2=>?_;exact q σ2 γ2 p2 e2 (f1.trans f2) ⟨λj hj=>(k2.1 j λz=>hj (Y0 _ z)).trans (k1.1 j λz=>hj (Wm _ z)),k2.2.trans k1.2⟩
def Do(n:Nat)(r:PTGs):PTG:=λs γ R=>match s.d with | .tup ds=>ds.length=n/\r (ds.map s.sub) γ R|_=>False
def TVs.of_part {ds:List D}{s:S}:∀{vs:List V}{ds:List D},vs.length=ds.length->(∀(i:Nat) d,ds[i]?=some d->∃u,vs[i]?=some u/\TV K Z H0 H H' (s.sub d) u)->TVs K Z H0 H H' (ds.map s.sub) vs
 |[],[],_,_=>.nil
 |[],_::_,e,_=>by cases e
 |_::_,[],e,_=>by cases e
 |v::vs,d::ds,e,h=>by
  obtain⟨u,h1,h2⟩:=h 0 d rfl;cases h1
  exact .cons h2 (TVs.of_part (ds:=ds) (by simpa using e) λi d' hd=>by simpa using h (i+1) d' (by simpa using hd))
def KA{n:Nat}{is:List Nat}{r:TGs}{pr:PTGs}(hr:Tj K is r pr):Ku K is (gTup K n r) (Do n pr):=by
 intro H0 B H H' σ γ s v R Q env S1 tv p q;unfold Do at p;have env1:=env.grow S1;obtain⟨_,pt⟩:=tv.part env1.same env.zm S1;split at p
 ·rename_i ds e;obtain⟨a,vs,rfl,ha,hn,hp⟩:=pt ds e;refine⟨a,vs,rfl,SqT.of ha,hn.trans p.1,?_⟩;have tvs:=TVs.of_part (ds:=ds) hn hp;refine hr H0 B H' σ γ _ vs R Q env1 (TVs.notown (Fr.refl) (λs' hs ds=>?_) tvs) (λs' hs ds=>?_) p.2 λσ' γ' hR e1 f1 k1=>q σ' γ' hR e1 (Fr.trans (Fr.grow S1) f1) k1
  ·obtain⟨d,_,rfl⟩:=Y4.mp hs;exact Cz s d ds
  ·obtain⟨d,_,rfl⟩:=Y4.mp hs;exact Cz s d ds
 ·exact p.elim
def EndR.from {R:PEnds}{D:Ends}{σ1:L2.St}{γ1:Γ} (e:EndR K mg E H0 B H σ γ R D) (f:Fr B H σ γ H1 σ1 γ1):EndR K mg E H0 B H1 σ1 γ1 R D:=
 ⟨λσ' γ' H' h1 h2 h3=>e.nx σ' γ' H' h1 h2 (f.trans h3),e.rt,λσ' γ' c H' h1 h2 h3=>e.ex σ' γ' c H' h1 h2 (f.trans h3),λσ' γ' H' h1 h2 h3=>e.bk σ' γ' H' h1 h2 (f.trans h3),λσ' γ' H' h1 h2 h3=>e.ct σ' γ' H' h1 h2 (f.trans h3),λσ' γ' d v H' h1 h2 h3=>e.rv σ' γ' d v H' h1 h2 (f.trans h3)⟩
variable {te:TE}{a:PTE}{tt:TT}{c:PTT}{t u:TS}{p q:PTS}
def IP:PTS:=λR γ=>R.nx γ
def J7:SndS K mg E CW IP:=λ_ _ _ _ _ _ _ _ env h e=>e.nx _ _ _ h env Fr.refl
def pSeq(p q:PTS):PTS:=λR γ=>p {R with nx:=q R} γ
def Ji(hp:SndS K mg E t p)(hq:SndS K mg E u q):SndS K mg E (tSeq t u) (pSeq p q):=by
 intro H0 B H σ γ R D hB env h e;refine hp H0 B H σ γ _ _ hB env h ⟨λσ' γ' H' h1 e1 f1=>?_,e.rt,e.ex,e.bk,e.ct,e.rv⟩;exact hq H0 B H' σ' γ' R D hB e1 h1 (e.from f1)
structure JoinW (p q:PTS) (R:PEnds) (γ:Γ):Prop where
 w:∃J:Γ->Prop,p {R with nx:=J} γ/\∀γ',J γ'->q R γ'
def RL(p q:PTS):PTS:=λR γ=>JoinW p q R γ
def Dg(hp:SndS K mg E t p)(hq:SndS K mg E u q):SndS K mg E (FO t u) (RL p q):=by
 intro H0 B H σ γ R D hB env h e;obtain⟨J,h,k⟩:=h.w;refine⟨λσ' H'=>∃γ',J γ'/\EnvR K H0 B H' σ' γ'/\Fr B H σ γ H' σ' γ',hp H0 B H σ γ _ _ hB env h ⟨λσ' γ' H' h1 e1 f1=>⟨γ',h1,e1,f1⟩,e.rt,e.ex,e.bk,e.ct,e.rv⟩,?_⟩;rintro σ' H' ⟨γ',h1,e1,f1⟩;exact hq H0 B H' σ' γ' R D hB e1 (k γ' h1) (e.from f1)
def pFrz(i:Nat)(p:PTS):PTS:=λR γ=>p R (frz i γ)
def Jz(i:Nat)(hp:SndS K mg E t p):SndS K mg E t (pFrz i p):=by
 intro H0 B H σ γ R D hB env h e;obtain⟨e1,f1⟩:=env.frz hB i;exact hp H0 B H σ _ R D hB e1 h (e.from f1)
def pAsg(a:PTE)(g:PTG):PTS:=λR γ=>a γ (λs=>g s γ R.nx) (R.ex γ)
def Jo{is:List Nat}{g:TG}{pg:PTG}(ha:SndE K mg E te a)(hg:Ku K is g pg):SndS K mg E (tAsg te g) (pAsg a pg):=by
 intro H0 B H σ γ R D hB env h e;refine ha H0 B H σ γ _ _ _ env h (λs v H1 h1 S1 t1=>?_) λc H' hc S'=>e.ex σ γ c H' hc (env.grow S') (Fr.grow S');exact hg H0 B H H1 σ γ s v _ _ env S1 t1 h1 λσ' γ' h2 e2 f2 _=>e.nx σ' γ' H1 h2 e2 f2
def pAug(i:Nat)(f:Int->Int->Int)(a:PTE):PTS:=λR γ=>match γ[i]? with
 |some (some (.sh (.int x)))=>a γ (λy=>match y.d with | .int j=>R.nx (γ.set i (some (.sh (.int (f x j)))))|_=>False) (R.ex γ)
 |_=>False
def Df{i:Nat}{f:Int->Int->Int}(ha:SndE K mg E te a):SndS K mg E (tAug i te (ipI f)) (pAug i f a):=by
 intro H0 B H σ γ R D hB env h e;unfold pAug at h;split at h
 ·rename_i x hx;obtain⟨v,h1,h2⟩:=env.slot i _ hx;refine⟨v,h1,ha H0 B H σ γ _ _ _ env h (λy u H1 h3 S1 t1=>?_) λc H' hc S'=>e.ex σ γ c H' hc (env.grow S') (Fr.grow S')⟩;have rx:=t1.rp (env.grow S1).same;split at h3
  ·rename_i j ej;rw[ej]at rx;refine⟨x,j,Rp.int_inv h2,rx.int_inv,?_⟩;obtain⟨e1,f1⟩:=env.set (i:=i) (s:=.sh (.int (f x j))) (v:=.int (f x j)) S1 (.int _) rfl;exact e.nx _ _ H1 h3 e1 f1
  ·exact h3.elim
 ·exact h.elim
def pRet(a:PTE):PTS:=λR γ=>a γ R.rt (R.ex γ)
def Jx(ha:SndE K mg E te a):SndS K mg E (tRet te) (pRet a):=by
 intro H0 B H σ γ R D hB env h e;refine ha H0 B H σ γ _ _ _ env h (λs v H1 h1 S1 t1=>?_) λc H' hc S'=>e.ex σ γ c H' hc (env.grow S') (Fr.grow S');exact e.rt s v H1 h1 (env.same.trans S1) (TV.weak env.same (λb z=>.inl z) t1)
def DG(i:Nat):PTS:=λR γ=>match γ[i]? with|some (some s)=>R.rt s|_=>False
def UR(i:Nat):SndS K mg E (tRet (tVar i)) (DG i):=by
 intro H0 B H σ γ R D hB env h e;unfold DG at h;split at h
 ·rename_i s hs;obtain⟨v,h1,h2⟩:=env.slot i _ hs;refine⟨v,h1,e.rt s v H h env.same ?_⟩;cases s with
  |bor d=>exact h2
  |sh d=>exact Rp.mono (Jy (Same.refl _) λb _ _ z y=>z (.inl y)) h2
  |own ds=>
   obtain⟨l,rfl,e2,e3⟩:=h2;exact⟨l,rfl,e2,e3.mono (Jy (Same.refl _) λb _ _ z y=>z (y.elim .inl λw=>.inr ⟨i,ds,l,hs,h1,w⟩)) λ_ _ _ q=>q⟩
  |view ds=>exact h2.elim
  |tmp d=>exact h2.elim
 ·exact h.elim
def pIfS(c:PTT)(p q:PTS):PTS:=λR γ=>c γ (λb=>if b=true then p R γ else q R γ) (R.ex γ)
def J9(hc:SndT K mg E tt c)(hp:SndS K mg E t p)(hq:SndS K mg E u q):SndS K mg E (tIfS tt t u) (pIfS c p q):=by
 intro H0 B H σ γ R D hB env h e;refine hc H0 B H σ γ _ _ _ env h (λb H1 h1 S1=>?_) λc H' hc S'=>e.ex σ γ c H' hc (env.grow S') (Fr.grow S');split at h1
 ·rename_i hb;rw[Ya hb];exact hp H0 B H1 σ γ R D hB (env.grow S1) h1 (e.from (Fr.grow S1))
 ·rename_i hb;rw[ZZ hb];exact hq H0 B H1 σ γ R D hB (env.grow S1) h1 (e.from (Fr.grow S1))
def Ln(a:PTE):PTS:=λR γ=>a γ (λ_=>R.nx γ) (R.ex γ)
def UY(ha:SndE K mg E te a):SndS K mg E (T3 te) (Ln a):=by
 intro H0 B H σ γ R D hB env h e;exact ha H0 B H σ γ _ _ _ env h (λs v H1 h1 S1 t1=>e.nx σ γ H1 h1 (env.grow S1) (Fr.grow S1)) λc H' hc S'=>e.ex σ γ c H' hc (env.grow S') (Fr.grow S')
def II(x:Str)(r:PTA):PTS:=λR γ=>r γ (λss=>ss.length<=1000/\R.ex γ x) (R.ex γ)
def TVs.len:∀{ss:List S}{vs:List V},TVs K Z H0 H H' ss vs->vs.length=ss.length
 |_,_,.nil=>rfl
 |_,_,.cons _ r=>YD (· + 1) (TVs.len r)
def X7{x:Str}{ta:TA}{r:PTA}{Ec:XK}(hr:SndA K mg (λ_=>Ec) ta r)(hx:decR x=none:=by rfl):SndS K mg (λ_=>Ec) (ExcR.BP (ExcR.Jm mg x) Ec ta) (II x r):=by
 intro H0 B H σ γ R D hB env h e;refine hr H0 B H σ γ _ _ _ env h (λss vs H1 h1 S1 t1=>⟨?_,?_⟩) λc H' hc S'=>e.ex σ γ c H' hc (env.grow S') (Fr.grow S')
 ·rw[t1.len];exact Sw h1.1
 ·exact(e.ex σ γ x H1 h1.2 (env.grow S1) (Fr.grow S1)).plain hx
def fPar(i j:Nat)(γ:Γ)(R:Γ->Prop):List S->Prop
 |[.sh d,.sh e]=>R ((γ.set i (some (.sh d))).set j (some (.sh e)))
 |_=>False
def pPar(i j:Nat)(r:PTA):PTS:=λR γ=>r γ (fPar i j γ R.nx) (R.ex γ)
def L9{i j:Nat}{ta:TA}{r:PTA}(hr:SndA K mg E ta r):SndS K mg E (tPar i j ta) (pPar i j r):=by
 intro H0 B H σ γ R D hB env h e;refine hr H0 B H σ γ _ _ _ env h (λss vs H1 h1 S1 t1=>?_) λc H' hc S'=>e.ex σ γ c H' hc (env.grow S') (Fr.grow S');unfold fPar at h1;split at h1
 ·rename_i d e';cases t1 with
  |cons tx t1=>
   cases t1 with
   |cons ty t1=>
    cases t1
    rename_i vx vy;refine⟨_,_,rfl,?_⟩;obtain⟨e1,f1⟩:=env.set (i:=i) S1 tx rfl
    have ty1:TV K (zof B (γ.set i (some (.sh d))) (σ.set i (some vx))) H0 H1 H1 (.sh e') vy:=by
     refine Rp.mono (Jy (Same.refl _) λb _ _ hz z=>hz ?_) ty;rcases z with z|⟨k,ds,x,k1,k2,k3⟩
     ·exact .inl z
     ·rcases JM k1 with⟨_,q,_⟩|⟨nk,q⟩
      ·cases q
      ·rw[UA nk]at k2;exact .inr ⟨k,ds,x,q,k2,k3⟩
    obtain⟨e2,f2⟩:=e1.set (i:=j) (Same.refl _) ty1 rfl;exact e.nx _ _ H1 h1 e2 (f1.trans f2)
 ·exact h1.elim
def clr:List Nat->Γ->Γ
 |[],γ=>γ
 |i::r,γ=>clr r (γ.set i none)
def EnvR.clr:∀(is:List Nat) {γ:Γ},EnvR K H0 B H σ γ->EnvR K H0 B H σ (clr is γ)/\Fr B H σ γ H σ (Pu.clr is γ)
 |[],_,e=>⟨e,Fr.refl⟩
 |i::r,γ,e=>by
  obtain⟨e1,f1⟩:=e.drop i;obtain⟨e2,f2⟩:=EnvR.clr r e1;exact⟨e2,f1.trans f2⟩
def Later(H0:Hp)(Z:Addr->Prop)(H1:Hp)(Z':Addr->Prop)(H':Hp):Prop:=Same H0 H'/\(∀b,Z' b->Mut (H' b))/\∀b o,H1 b=some o->¬Z b->H' b=some o/\¬Z' b
def Later.of {σ':L2.St}{γ':Γ} (e:EnvR K H0 B H' σ' γ') (f:Fr B H1 σ γ H' σ' γ'):Later H0 (zof B γ σ) H1 (zof B γ' σ') H':=⟨e.same,e.zm,f⟩
def Later.off (l:Later H0 Z H1 Z' H'):Same (off Z H1) (Pu.off Z' H'):=λb o h=>by
 obtain⟨h1,h2⟩:=UV h;obtain⟨h3,h4⟩:=l.2.2 b o h1 h2;exact JK h3 h4
structure ItOk (K:Za) (H0:Hp) (B:Addr->Prop) (H1:Hp) (σ:L2.St) (γ:Γ) (J:It) (n:Nat) (item:Nat->S):Prop where
 go:∀(i:Nat) (H':Hp) (Z':Addr->Prop),i<n->Later H0 (zof B γ σ) H1 Z' H'->J.go i H'/\∀x H'',J.yld i H' x H''->Same H' H''/\TV K Z' H0 H' H'' (item i) x
 stop:∀(H':Hp) (Z':Addr->Prop),Later H0 (zof B γ σ) H1 Z' H'->J.stop n H'
abbrev PTI:=Γ->(Nat->(Nat->S)->Prop)->XR->Prop
def SndI(K:Za)(mg:Str->Option Value)(E:L2.St->XK)(wi:TI)(it:PTI):Prop:=∀(H0:Hp) (B:Addr->Prop) (H:Hp) (σ:L2.St) (γ:Γ) (R:Nat->(Nat->S)->Prop) (X:XR) (Q:It->Hp->Prop),EnvR K H0 B H σ γ->it γ R X->
 (∀n item J H1,R n item->Same H H1->ItOk K H0 B H1 σ γ J n item->Q J H1)->(∀c H',X c->Same H H'->XE mg (E σ) c H')->wi σ H Q
structure ForW (js:List Nat) (γ:Γ) (g:PTG) (body:PTS) (R:PEnds) (n:Nat) (item:Nat->S):Prop where
 w:∃inv:Nat->Γ->Prop,inv 0 (clr js γ)/\
 (∀i γ',i<n->inv i γ'->g (item i) γ' λγ2=>body {R with nx:=λγ3=>inv (i+1) (clr js γ3),ct:=λγ3=>inv (i+1) (clr js γ3),bk:=R.nx} γ2)/\∀γ',inv n γ'->R.nx γ'
def pFor(js:List Nat)(it:PTI)(g:PTG)(body:PTS):PTS:=λR γ=>it γ (λn item=>ForW js γ g body R n item) (R.ex γ)
def JY{is:List Nat}{wi:TI}{g:TG}{it:PTI}{pg:PTG}(js:List Nat)(hi:SndI K mg E wi it)(hg:Ku K is g pg)(hb:SndS K mg E t p):SndS K mg E (tFor wi g t) (pFor js it pg p):=by
 intro H0 B H σ γ R D hB env h e;refine hi H0 B H σ γ _ _ _ env h (λn item J H1 h1 S1 ok=>?_) λc H' hc S'=>e.ex σ γ c H' hc (env.grow S') (Fr.grow S');obtain⟨inv,h0,hs,hd⟩:=h1.w;have env1:=env.grow S1;refine⟨λi m σ' H'=>m=n-i/\i<=n/\∃γ',inv i γ'/\EnvR K H0 B H' σ' γ'/\Fr B H1 σ γ H' σ' γ',⟨n,by simp,We _,_,h0,(env1.clr js).1,(env1.clr js).2⟩,?_⟩;rintro i m σ' H' ⟨rfl,hin,γ',hi',e',f'⟩;by_cases hlt:i<n
 ·obtain⟨go,yl⟩:=ok.go i H' _ hlt (Later.of e' f');refine .inr ⟨go,λσ2 H2=>∃γ2,inv (i+1) γ2/\EnvR K H0 B H2 σ2 γ2/\Fr B H1 σ γ H2 σ2 γ2,λσ2 H2 ⟨γ2,a1,a2,a3⟩=>⟨n-(i+1),by omega,rfl,hlt,γ2,a1,a2,a3⟩,λx H'' y=>?_⟩;obtain⟨S2,tv⟩:=yl x H'' y;refine hg H0 B H' H'' σ' γ' _ _ _ _ e' S2 tv (hs i γ' hlt hi') λσ2 γ2 q2 e2 f2 _=>?_;have fall:=f'.trans f2;refine hb H0 B H'' σ2 γ2 _ _ hB e2 q2 ⟨λσ3 γ3 H3 q3 e3 f3=>?_,e.rt,λσ3 γ3 c H3 q3 e3 f3=>e.ex σ3 γ3 c H3 q3 e3 ((Fr.grow S1).trans (fall.trans f3)),λσ3 γ3 H3 q3 e3 f3=>e.nx σ3 γ3 H3 q3 e3 ((Fr.grow S1).trans (fall.trans f3)),λσ3 γ3 H3 q3 e3 f3=>?_,λσ3 γ3 d v H3 q3 e3 f3=>e.rv σ3 γ3 d v H3 q3 e3 ((Fr.grow S1).trans (fall.trans f3))⟩
  ·exact⟨_,q3,(e3.clr js).1,(fall.trans f3).trans (e3.clr js).2⟩
  ·exact⟨_,q3,(e3.clr js).1,(fall.trans f3).trans (e3.clr js).2⟩
 ·have:i=n:=by omega
  subst this;exact .inl ⟨ok.stop H' _ (Later.of e' f'),e.nx σ' γ' H' (hd γ' hi') e' ((Fr.grow S1).trans f')⟩
def S.fix:S->Bool
 | .bor _=>true | .sh _=>true | .own (.nsl _ _)=>false | .own _=>true|_=>false
def pIL(a:PTE):PTI:=λγ R X=>a γ (λs=>match s.d with
 | .lst ds=>s.fix=true/\R ds.length λi=>s.sub (ds.getD i .non)
 | .scr ns=>s.fix=true/\R ns.length λi=>.sh (.int (ns.getD i 0))
 |_=>False) X
def TV.last {s:S}{v:V}{ds:List D} (env:EnvR K H0 B H σ γ) (S1:Same H H1) (tv:TV K (zof B γ σ) H0 H H1 s v) (hf:s.fix=true) (hd:s.d=.lst ds):∃l vs,v=.ref l/\vs.length=ds.length/\
  ∀(H':Hp) (Z':Addr->Prop),Later H0 (zof B γ σ) H1 Z' H'->H' l=some (.lst vs)/\∀(i:Nat) d,ds[i]?=some d->∃u,vs[i]?=some u/\TV K Z' H0 H' H' (s.sub d) u:=by
 have env1:=env.grow S1
 have key:∀{s:S},(∀d,s.sub d=.sh d)->Rp K (Pu.off (zof B γ σ) H1) (.lst ds) v->∃l vs,v=.ref l/\vs.length=ds.length/\
   ∀(H':Hp) (Z':Addr->Prop),Later H0 (zof B γ σ) H1 Z' H'->H' l=some (.lst vs)/\∀(i:Nat) d,ds[i]?=some d->∃u,vs[i]?=some u/\TV K Z' H0 H' H' (s.sub d) u:=λhs h=>by
  obtain⟨l,vs,rfl,h1,h2⟩:=Rp.lst_inv h;refine⟨l,vs,rfl,h2.len,λH' Z' lt=>⟨off_sub _ _ (lt.off _ _ h1),λi d hi=>?_⟩⟩;obtain⟨u,h3,h4⟩:=h2.get hi;refine⟨u,h3,?_⟩;rw[hs];exact Rp.mono lt.off h4
 cases s with
 |bor d=>
  have tv:=Rp.strip tv;rw[show d.strip=.lst ds from hd]at tv
  obtain⟨l,vs,rfl,h1,h2⟩:=Rp.lst_inv tv;refine⟨l,vs,rfl,h2.len,λH' Z' lt=>⟨lt.1 _ _ h1,λi d hi=>?_⟩⟩;obtain⟨u,h3,h4⟩:=h2.get hi;exact⟨u,h3,argR lt.2.1 lt.1 h4⟩
 |sh d=>
  have:d=.lst ds:=hd
  subst this;exact key (λ_=>rfl) tv
 |own es=>
  cases es with
  |lst es=>
   cases hd
   exact key (λ_=>rfl) (tv.shd env1.same env.zm S1 rfl)
  |lsA x es=>
   cases hd
   exact key (λ_=>rfl) (tv.shd env1.same env.zm S1 rfl)
  |dK es=>cases hd
  |dT es=>cases hd
  |ins x C xs cs=>cases hd
  |nst cs=>cases hd
  |nsl a cs=>cases hf
 |view es=>cases hf
 |tmp d=>cases hf
def UF{te:TE}{a:PTE}(ha:SndE K mg E te a):SndI K mg E (TM K te) (pIL a):=by
 intro H0 B H σ γ R X Q env h q qx;refine ha H0 B H σ γ _ X _ env h (λs v H1 h1 S1 t1=>?_) qx;have env1:=env.grow S1;split at h1
 ·rename_i ds ed;obtain⟨l,vs,rfl,hn,hl⟩:=t1.last env S1 h1.1 ed;obtain⟨hl1,_⟩:=hl H1 _ (Later.of env1 Fr.refl);refine⟨l,rfl,⟨vs,SqL.of hl1⟩,q _ _ _ H1 h1.2 S1 ⟨λi H' Z' hi lt=>?_,λH' Z' lt=>?_⟩⟩
  ·obtain⟨k1,k2⟩:=hl H' Z' lt;have hd:ds[i]?=some (ds.getD i .non):=by rw[Yp,ZU hi];rfl
   obtain⟨u,hu,tu⟩:=k2 i _ hd;refine⟨⟨vs,u,SqL.of k1,hu⟩,λx H'' y=>?_⟩;obtain⟨rfl,y⟩:=y
   have:=y vs (SqL.of k1)
   rw[hu]at this;cases this
   exact⟨Same.refl _,tu⟩
  ·exact⟨vs,SqL.of (hl H' Z' lt).1,by omega⟩
 ·rename_i ns ed
  have hs:∃l,v=.ref l/\∀(H':Hp) (Z':Addr->Prop),Later H0 (zof B γ σ) H1 Z' H'->SqL K H' l (ns.map V.int):=by
   cases s with
   |bor d=>
    have t1:=Rp.strip t1;rw[show d.strip=.scr ns from ed]at t1
    cases t1 with
    |scr hs=>exact⟨_,rfl,λH' Z' lt=>lt.1.seq hs⟩
   |sh d=>
    have:d=.scr ns:=ed
    subst this;cases t1 with
    |scr hs=>exact⟨_,rfl,λH' Z' lt=>off_sub.seq (lt.off.seq hs)⟩
   |own es=>cases es<;>cases ed
   |view es=>cases es<;>cases ed
   |tmp d=>cases h1.1
  obtain⟨l,rfl,hl⟩:=hs;refine⟨l,rfl,⟨_,hl H1 _ (Later.of env1 Fr.refl)⟩,q _ _ _ H1 h1.2 S1 ⟨λi H' Z' hi lt=>?_,λH' Z' lt=>?_⟩⟩
  ·have k1:=hl H' Z' lt
   have hu:(ns.map V.int)[i]?=some (.int (ns.getD i 0)):=by
    rw[Ye,ZU hi,Yp,ZU hi];rfl
   refine⟨⟨_,_,k1,hu⟩,λx H'' y=>?_⟩;obtain⟨rfl,y⟩:=y
   have:=y _ k1
   rw[hu]at this;cases this
   exact⟨Same.refl _,.int _⟩
  ·exact⟨_,hl H' Z' lt,by rw[ZV];exact Yc _⟩
 ·exact h1.elim
def fR1(R:Nat->(Nat->S)->Prop):List D->Prop
 |[.int j]=>(-(2 ^ 62)<=j/\j<2 ^ 62)/\R j.toNat λi=>.sh (.int (0+(i:Int)))
 |_=>False
def fR2(R:Nat->(Nat->S)->Prop):List D->Prop
 |[.int i,.int j]=>(-(2 ^ 62)<=i/\i<2 ^ 62/\-(2 ^ 62)<=j/\j<2 ^ 62)/\R (j-i).toNat λk=>.sh (.int (i+(k:Int)))
 |_=>False
def pIR1(r:PTA):PTI:=λγ R X=>r γ (λss=>fR1 R (ss.map S.d)) X
def pIR2(r:PTA):PTI:=λγ R X=>r γ (λss=>fR2 R (ss.map S.d)) X
def Rps.one_inv {d:D}{vs:List V} (h:Rps K H [d] vs):∃v,vs=[v]/\Rp K H d v:=by
 cases h with
 |cons h r=>cases r;exact⟨_,rfl,h⟩
def Rps.two_inv {d e:D}{vs:List V} (h:Rps K H [d,e] vs):∃v u,vs=[v,u]/\Rp K H d v/\Rp K H e u:=by
 cases h with
 |cons h r=>cases r with|cons h2 r=>cases r;exact⟨_,_,rfl,h,h2⟩
def Ab{lo:Int}{n:Nat}:ItOk K H0 B H1 σ γ (Itr lo n) n λi=>.sh (.int (lo+(i:Int))):=by
 refine⟨λi H' Z' hi lt=>⟨hi,λx H'' y=>?_⟩,λH' Z' lt=>Yc _⟩;obtain⟨e,y⟩:=y;subst e y;exact⟨Same.refl _,.int _⟩
def Xl{ta:TA}{r:PTA}(hr:SndA K mg E ta r):SndI K mg E (Dh ta) (pIR1 r):=by
 intro H0 B H σ γ R X Q env h q qx;refine hr H0 B H σ γ _ X _ env h (λss vs H1 h1 S1 t1=>?_) qx;have rv:=t1.rps (env.grow S1).same;unfold fR1 at h1;split at h1
 ·rename_i j ej;rw[ej]at rv;obtain⟨v,rfl,r1⟩:=rv.one_inv;rw[r1.int_inv];exact⟨j,rfl,h1.1.1,h1.1.2,q _ _ _ H1 h1.2 S1 Ab⟩
 ·exact h1.elim
def Zad{ta:TA}{r:PTA}(hr:SndA K mg E ta r):SndI K mg E (Ef ta) (pIR2 r):=by
 intro H0 B H σ γ R X Q env h q qx;refine hr H0 B H σ γ _ X _ env h (λss vs H1 h1 S1 t1=>?_) qx;have rv:=t1.rps (env.grow S1).same;unfold fR2 at h1;split at h1
 ·rename_i i j ej;rw[ej]at rv;obtain⟨v,u,rfl,r1,r2⟩:=rv.two_inv;rw[r1.int_inv,r2.int_inv];exact⟨i,j,rfl,h1.1,q _ _ _ H1 h1.2 S1 Ab⟩
 ·exact h1.elim
structure WhileW (js:List Nat) (γ:Γ) (c:PTT) (body:PTS) (R:PEnds):Prop where
 w:∃(inv:Γ->Prop) (μ:Γ->Nat),inv (clr js γ)/\∀γ',inv γ'->c γ' (λb=>if b=true then
  body {R with nx:=λγ3=>inv (clr js γ3)/\μ (clr js γ3)<μ γ',ct:=λγ3=>inv (clr js γ3)/\μ (clr js γ3)<μ γ',bk:=R.nx} γ' else R.nx γ') (R.ex γ')
def OX(js:List Nat)(c:PTT)(body:PTS):PTS:=λR γ=>WhileW js γ c body R
def B7(js:List Nat)(hc:SndT K mg E tt c)(hb:SndS K mg E t p):SndS K mg E (DQ tt t) (OX js c p):=by
 intro H0 B H σ γ R D hB env h e;obtain⟨inv,μ,h0,hs⟩:=h.w;refine⟨λm σ' H'=>∃γ',m=μ γ'/\inv γ'/\EnvR K H0 B H' σ' γ'/\Fr B H σ γ H' σ' γ',⟨_,_,rfl,h0,(env.clr js).1,(env.clr js).2⟩,?_⟩;rintro m σ' H' ⟨γ',rfl,hi,e',f'⟩;refine hc H0 B H' σ' γ' _ _ _ e' (hs γ' hi) (λb H1 h1 S1=>?_) λc H'' hc S'=>e.ex σ' γ' c H'' hc (e'.grow S') (f'.trans (Fr.grow S'));have e1:=e'.grow S1;have f1:=f'.trans (Fr.grow S1);cases b with
 |false=>
  rw[ZZ Yj]at h1 ⊢;exact e.nx σ' γ' H1 h1 e1 f1
 |true=>
  rw[Ya rfl]at h1 ⊢;refine⟨λσ2 H2=>∃γ2,μ γ2<μ γ'/\inv γ2/\EnvR K H0 B H2 σ2 γ2/\Fr B H σ γ H2 σ2 γ2,λσ2 H2 ⟨γ2,k,a1,a2,a3⟩=>⟨_,k,γ2,rfl,a1,a2,a3⟩,?_⟩;refine hb H0 B H1 σ' γ' _ _ hB e1 h1 ⟨λσ3 γ3 H3 q3 e3 f3=>?_,e.rt,λσ3 γ3 c H3 q3 e3 f3=>e.ex σ3 γ3 c H3 q3 e3 (f1.trans f3),λσ3 γ3 H3 q3 e3 f3=>e.nx σ3 γ3 H3 q3 e3 (f1.trans f3),λσ3 γ3 H3 q3 e3 f3=>?_,λσ3 γ3 d v H3 q3 e3 f3=>e.rv σ3 γ3 d v H3 q3 e3 (f1.trans f3)⟩
  ·exact⟨_,q3.2,q3.1,(e3.clr js).1,(f1.trans f3).trans (e3.clr js).2⟩
  ·exact⟨_,q3.2,q3.1,(e3.clr js).1,(f1.trans f3).trans (e3.clr js).2⟩
end
section
variable {K:Za}{mg:Str->Option Value}{E:L2.St->XK}{H0 H H1 H':Hp}{B Z Z':Addr->Prop}{σ:L2.St}{γ:Γ}
def Xd(N:List Str)(ds:List D):Γ:=ds.map (λd=>some (arg d))++List.replicate (N.length-ds.length) none
def EY{N:List Str}{ds:List D}{vs:List V}(r:Rps K H ds vs)(hn:ds.length<=N.length):EnvR K H (λb=>Mut (H b)) H (start N vs) (Xd N ds):=by
 have hlen:=r.len
 have get:∀(i:Nat) (s:S),(Xd N ds)[i]?=some (some s)->∃d,ds[i]?=some d/\s=arg d:=λi s h=>by
  unfold Xd at h;by_cases hi:i<ds.length
  ·rw[YM (by rw[ZV];exact hi),Ye,ZU hi]at h;exact⟨_,ZU hi,(Yf (Yf h)).symm⟩
  ·rw[YY (by rw[ZV];omega),Qt]at h;split at h<;>cases h
 have noown:∀(i:Nat) (es:O),(Xd N ds)[i]?≠some (some (.own es)):=λi es h=>by
  obtain⟨d,_,e⟩:=get i _ h;rcases Bh d with q|q<;>rw[q]at e<;>cases e
 refine⟨Same.refl _,?_,λb h=>h,λi j a a' es es' b h=>absurd h (noown i es),λi s h=>?_⟩
 ·unfold L2.start Xd;simp[hlen]
 ·obtain⟨d,hd,rfl⟩:=get i s h;obtain⟨v,hv,rv⟩:=r.get hd;refine⟨v,?_,?_⟩
  ·unfold L2.start;rw[YM (by rw[ZV];exact(Yk.mp hv).1),Ye,hv];rfl
  ·have tv:=argR (K:=K) (Z:=zof (λb=>Mut (H b)) (Xd N ds) (start N vs)) (H0:=H) (H:=H) (H':=H) (λb z=>z.elim id λ⟨k,es,_,k1,_⟩=>absurd k1 (noown k es)) (Same.refl _) rv;rcases Bh d with q|q<;>rw[q]at tv ⊢<;>exact tv
def GI{c:Pc}{N:List Str}{t:TS}{p:PTS}{vs:List V}{Q:VK}{Ec:XK}{n:Nat}(h:spOf mg c K vs H Q Ec)(snd:SndS K mg (λ_=>Ec) t p)(hn:n<=N.length)(hp:∀ds R X,c ds R X->ds.length=n/\p {nx:=λ_=>R (.sh .non),rt:=R,ex:=λ_ e=>X e} (Xd N ds)):t {nx:=λ_ H'=>Q .non H',rt:=Q} (start N vs) H:=by
 obtain⟨ds,R,X,r,hc,hQ,hX⟩:=h;obtain⟨e,hp⟩:=hp ds R X hc;refine snd H (λb=>Mut (H b)) H _ _ _ _ (λb z=>P4 z) (EY r (by rw[e];exact hn)) hp ⟨λσ' γ' H' h1 e1 f1=>hQ _ _ H' h1 e1.same .non,λs v H' h1 S1 tv=>hQ s v H' h1 S1 tv,λσ' γ' c H' h1 e1 f1=>hX c H' h1 e1.same,λ_ _ _ z=>z.elim,λ_ _ _ z=>z.elim,λ_ _ _ _ _ z=>z.elim⟩
def EK{c:Pc}{vs:List V}{Q:VK}{Ec:XK}{n:Nat}(h:spOf mg c K vs H Q Ec)(hn:∀ds R X,c ds R X->ds.length=n):vs.length=n:=by
 obtain⟨ds,R,X,r,hc,_⟩:=h;rw[r.len];exact hn ds R X hc
def atP(φ:List (Option Nat))(γ:Γ):Γ:=φ.map λo=>o.bind λj=>(γ[j]?).join
structure CompW (φ:List (Option Nat)) (γ:Γ) (g:PTG) (c:PTT) (e:PTE) (n:Nat) (item:Nat->S) (R:S->Prop):Prop where
 w:n<=100000/\∃f:Nat->Option D,(∀i,i<n->g (item i) (atP φ γ) λγ2=>c γ2 (λb=>if b=true then e γ2 (λs=>∃d,s.shd=some d/\f i=some d) (λ_=>False)else f i=none) (λ_=>False))/\R (.own ((List.range n).filterMap f))
def ON(φ:List (Option Nat))(it:PTI)(g:PTG)(c:PTT)(e:PTE):PTE:=λγ R X=>it γ (λn item=>CompW φ γ g c e n item R) X
def PX{φ:List (Option Nat)}{i:Nat}{s:S}(h:(atP φ γ)[i]?=some (some s)):∃j,φ[i]?=some (some j)/\γ[j]?=some (some s):=by
 unfold atP at h;rw[Ye]at h;cases e:φ[i]? with
 |none=>rw[e]at h;cases h
 |some o=>
  rw[e]at h;cases o with
  |none=>simp at h
  |some j=>
   refine⟨j,rfl,?_⟩;simp at h;cases e2:γ[j]? with
   |none=>rw[e2]at h;simp at h
   |some w=>rw[e2]at h;simp at h;rw[h]
def Ss:∀{φ:List (Option Nat)},(φ.filterMap id).Nodup->∀(i j k:Nat),φ[i]?=some (some k)->φ[j]?=some (some k)->i=j
 |[],_,i,_,_,h,_=>by simp at h
 |none::r,hn,i,j,k,h1,h2=>by
  cases i with
  |zero=>simp at h1
  |succ i=>
   cases j with
   |zero=>simp at h2
   |succ j=>exact YD (· + 1) (Ss (φ:=r) (by simpa using hn) i j k (by simpa using h1) (by simpa using h2))
 |some m::r,hn,i,j,k,h1,h2=>by
  have hn':m∉r.filterMap id/\(r.filterMap id).Nodup:=by simpa using hn
  have mem:∀{j:Nat},r[j]?=some (some k)->k∈r.filterMap id:=λh=>QX.mpr ⟨some k,Yv h,rfl⟩;cases i with
  |zero=>
   cases j with
   |zero=>rfl
   |succ j=>
    have e:m=k:=by simpa using h1
    subst e;exact absurd (mem (by simpa using h2)) hn'.1
  |succ i=>
   cases j with
   |zero=>
    have e:m=k:=by simpa using h2
    subst e;exact absurd (mem (by simpa using h1)) hn'.1
   |succ j=>exact YD (· + 1) (Ss (φ:=r) hn'.2 i j k (by simpa using h1) (by simpa using h2))
def PM{φ:List (Option Nat)}{i j:Nat}(h1:φ[i]?=some (some j)){v:V}(h2:σ[j]?=some (some v)):(atStart φ σ)[i]?=some (some v):=by
 unfold atStart;rw[Ye,h1];simp[h2]
def Co{φ:List (Option Nat)}{L:Addr}(env:EnvR K H0 B H σ γ)(nL:H L=none):∀b o,H b=some o->¬zof B γ σ b->¬zof (λb=>zof B γ σ b\/b=L) (atP φ γ) (atStart φ σ) b:=λb o hb z y=>by
 rcases y with(y|y)|⟨i',ds,x,y1,y2,y3⟩
 ·exact z y
 ·rw[y,nL]at hb;cases hb
 ·obtain⟨m,m1,m2⟩:=PX y1;obtain⟨w,w1,_⟩:=env.slot m _ m2;rw[PM m1 w1]at y2;exact z (.inr ⟨m,ds,x,m2,by rw[w1];exact YD some (Yf y2),y3⟩)
def M5{φ:List (Option Nat)}{L:Addr}(env:EnvR K H0 B H σ γ)(S1:Same H H')(nL:H L=none)(hL:∃ys,H' L=some (.lst ys))(hφ:(φ.filterMap id).Nodup) :
  EnvR K H0 (λb=>zof B γ σ b\/b=L) H' (atStart φ σ) (atP φ γ):=by
 refine⟨env.same.trans S1,by unfold atStart atP;simp,λb z=>?_,λi j a a' ds es b h1 h2 h3 h4 h5 h6=>?_,λi s h=>?_⟩
 ·rcases z with z|rfl
  ·exact Xi S1 (env.zm b z)
  ·obtain⟨ys,e⟩:=hL;rw[e];trivial
 ·obtain⟨k,k1,k2⟩:=PX h1;obtain⟨l,l1,l2⟩:=PX h2;obtain⟨v,v1,_⟩:=env.slot k _ k2;obtain⟨u,u1,_⟩:=env.slot l _ l2;rw[PM k1 v1]at h3;rw[PM l1 u1]at h4
  have:=env.own k l a a' ds es b k2 l2 (by rw[v1];exact YD some (Yf h3)) (by rw[u1];exact YD some (Yf h4)) h5 h6
  subst this;exact Ss hφ i j k k1 l1
 ·obtain⟨k,k1,k2⟩:=PX h;obtain⟨v,v1,v2⟩:=env.slot k _ k2;have So:Same (off (zof B γ σ) H) (off (zof (λb=>zof B γ σ b\/b=L) (atP φ γ) (atStart φ σ)) H'):=Jy S1 (Co env nL);refine⟨v,PM k1 v1,?_⟩;cases s with
  |bor d=>exact v2
  |sh d=>exact Rp.mono So v2
  |own ds=>
   obtain⟨a,e1,e3,e4⟩:=v2;exact⟨a,e1,e3,e4.mono So λb _ x=>S1 b x⟩
  |view ds=>exact v2
  |tmp d=>exact v2
def Sub.of {σ σ':L2.St}{is:List Nat} (hl:σ'.length=σ.length) (h1:∀j,j∉is->σ'[j]?=σ[j]?) (h2:∀j∈is,∀v,σ[j]?≠some (some v)):Sub σ σ':=⟨hl,λi v e=>by
 by_cases hi:i∈is
 ·exact absurd e (h2 i hi v)
 ·rw[h1 i hi];exact e⟩
structure ItOkC (K:Za) (H0:Hp) (B:Addr->Prop) (H1:Hp) (σ:L2.St) (γ:Γ) (J:It) (n:Nat) (item:Nat->S):Prop where
 go:∀(i:Nat) (H':Hp) (Z':Addr->Prop),i<n->Same H1 H'->Later H0 (zof B γ σ) H1 Z' H'->J.go i H'/\∀x H'',J.yld i H' x H''->Same H' H''/\TV K Z' H0 H' H'' (item i) x
 stop:∀(H':Hp) (Z':Addr->Prop),Same H1 H'->Later H0 (zof B γ σ) H1 Z' H'->J.stop n H'
def N4(K:Za)(mg:Str->Option Value)(E:L2.St->XK)(wi:TI)(it:PTI):Prop:=∀(H0:Hp) (B:Addr->Prop) (H:Hp) (σ:L2.St) (γ:Γ) (R:Nat->(Nat->S)->Prop) (X:XR) (Q:It->Hp->Prop),EnvR K H0 B H σ γ->it γ R X->
 (∀n item J H1,R n item->Same H H1->ItOkC K H0 B H1 σ γ J n item->Q J H1)->(∀c H',X c->Same H H'->XE mg (E σ) c H')->wi σ H Q
def SndI.c {wi:TI}{it:PTI} (h:SndI K mg E wi it):N4 K mg E wi it:=λH0 B H σ γ R X Q env p q qx=>
 h H0 B H σ γ R X Q env p (λn item J H1 hR S1 ok=>q n item J H1 hR S1 ⟨λi H' Z' hi _ lt=>ok.go i H' Z' hi lt,λH' Z' _ lt=>ok.stop H' Z' lt⟩) qx
def pILc(a:PTE):PTI:=λγ R X=>a γ (λs=>match s.d with
 | .lst ds=>R ds.length λi=>s.sub (ds.getD i .non)
 | .tup ds=>False
 | .scr ns=>R ns.length λi=>.sh (.int (ns.getD i 0))
 |_=>False) X
def Uo{te:TE}{a:PTE}(ha:SndE K mg E te a):N4 K mg E (TM K te) (pILc a):=by
 intro H0 B H σ γ R X Q env h q qx;refine ha H0 B H σ γ _ X _ env h (λs v H1 h1 S1 t1=>?_) qx;have env1:=env.grow S1;split at h1
 ·rename_i ds ed;have rv:=t1.rp env1.same;rw[ed]at rv;obtain⟨l,vs,rfl,hl1,r1⟩:=rv.lst_inv;refine⟨l,rfl,⟨vs,SqL.of hl1⟩,q _ _ _ H1 h1 S1 ⟨λi H' Z' hi S2 lt=>?_,λH' Z' S2 lt=>⟨vs,SqL.of (S2 _ _ hl1),by rw[r1.len];exact Yc _⟩⟩⟩;have hd:ds[i]?=some (ds.getD i .non):=by rw[Yp,ZU hi];rfl
  have hi':∃u,vs[i]?=some u/\TV K Z' H0 H' H' (s.sub (ds.getD i .non)) u:=by
   cases s with
   |bor d=>
    have t1:=Rp.strip t1;rw[show d.strip=.lst ds from ed]at t1
    obtain⟨l',vs',e',h3,r3⟩:=Rp.lst_inv t1;cases e'
    rw[env1.same _ _ h3]at hl1;cases hl1
    obtain⟨u,h4,h5⟩:=r3.get hd;exact⟨u,h4,argR lt.2.1 lt.1 h5⟩
   |sh d=>
    have:d=.lst ds:=ed
    subst this;obtain⟨l',vs',e',h3,r3⟩:=Rp.lst_inv t1;cases e'
    rw[off_sub _ _ h3]at hl1;cases hl1
    obtain⟨u,h4,h5⟩:=r3.get hd;exact⟨u,h4,Rp.mono lt.off h5⟩
   |own es=>
    cases es with
    |dK es=>cases ed
    |dT es=>cases ed
    |ins x C xs cs=>cases ed
    |nst cs=>cases ed
    |nsl x cs=>
     obtain⟨u,h4,h5⟩:=r1.get hd;exact⟨u,h4,Xf lt.2.1 (Rp.mono S2 h5)⟩
    |lsA x es=>
     cases ed
     obtain⟨l',e',h0,_,vs',h3,r3⟩:=t1;cases e'
     rw[h3]at hl1;cases hl1
     obtain⟨u,h4,h5⟩:=r3.get hd;exact⟨u,h4,Rp.mono lt.off (Rp.mono (Jy (Same.refl _) λb _ _ z y=>z (.inl y)) h5)⟩
    |lst es=>
    cases ed
    obtain⟨l',e',h0,vs',h3,r3⟩:=t1;cases e'
    rw[h3]at hl1;cases hl1
    obtain⟨u,h4,h5⟩:=r3.get hd;exact⟨u,h4,Rp.mono lt.off (Rp.mono (Jy (Same.refl _) λb _ _ z y=>z (.inl y)) h5)⟩
   |view es=>
    cases es with
    |dK es=>cases ed
    |dT es=>cases ed
    |ins x C xs cs=>cases ed
    |nst cs=>cases ed
    |nsl x cs=>
     obtain⟨u,h4,h5⟩:=r1.get hd;exact⟨u,h4,Xf lt.2.1 (Rp.mono S2 h5)⟩
    |lsA x es=>
     cases ed
     obtain⟨l',e',_,vs',h3,r3⟩:=t1;cases e'
     rw[h3]at hl1;cases hl1
     obtain⟨u,h4,h5⟩:=r3.get hd;exact⟨u,h4,Rp.mono lt.off h5⟩
    |lst es=>
    cases ed
    obtain⟨l',e',vs',h3,r3⟩:=t1;cases e'
    rw[h3]at hl1;cases hl1
    obtain⟨u,h4,h5⟩:=r3.get hd;exact⟨u,h4,Rp.mono lt.off h5⟩
   |tmp d=>
    have:d=.lst ds:=ed
    subst this;obtain⟨l',vs',e',h3,r3⟩:=Rp.lst_inv t1;cases e'
    rw[h3]at hl1;cases hl1
    obtain⟨u,h4,h5⟩:=r3.get hd;exact⟨u,h4,Xf lt.2.1 (Rp.mono S2 h5)⟩
  obtain⟨u,hu,tu⟩:=hi';refine⟨⟨vs,u,SqL.of (S2 _ _ hl1),hu⟩,λx H'' y=>?_⟩;obtain⟨rfl,y⟩:=y
  have:=y vs (SqL.of (S2 _ _ hl1))
  rw[hu]at this;cases this
  exact⟨Same.refl _,tu⟩
 ·exact h1.elim
 ·rename_i ns ed;have rv:=t1.rp env1.same;rw[ed]at rv;cases rv with
  |scr hs=>
   refine⟨_,rfl,⟨_,hs⟩,q _ _ _ H1 h1 S1 ⟨λi H' Z' hi S2 lt=>?_,λH' Z' S2 lt=>⟨_,S2.seq hs,by rw[ZV];exact Yc _⟩⟩⟩
   have hu:(ns.map V.int)[i]?=some (.int (ns.getD i 0)):=by
    rw[Ye,ZU hi,Yp,ZU hi];rfl
   refine⟨⟨_,_,S2.seq hs,hu⟩,λx H'' y=>?_⟩;obtain⟨rfl,y⟩:=y
   have:=y _ (S2.seq hs)
   rw[hu]at this;cases this
   exact⟨Same.refl _,.int _⟩
 ·exact h1.elim
def JX{φ:List (Option Nat)}{is:List Nat}{wi:TI}{g:TG}{tc:TT}{te:TE}{it:PTI}{pg:PTG}{c:PTT}{a:PTE}(hi:N4 K mg E wi it)(hg:Ku K is g pg)(hc:SndT K mg E tc c)(he:SndE K mg E te a)(h1:(φ.filterMap id).Nodup:=by decide)(h2:∀j∈is,φ[j]?=some none:=by decide):SndE K mg E (PZ φ wi g tc te) (ON φ it pg c a):=by
 intro H0 B H σ γ R X Q env h q qx;refine hi H0 B H σ γ _ X _ env h (λn item J H1 h1' S1 ok=>?_) qx;obtain⟨hn,f,hf,hR⟩:=h1'.w;have env1:=env.grow S1;have hbig:n<=sizeLine:=Yn hn (by decide);intro L nL;refine⟨λi m ys H2=>m=n-i/\i<=n/\Same H1 H2/\H2 L=some (.lst ys)/\Rps K (off (λb=>zof B γ σ b\/b=L) H2) ((List.range i).filterMap f) ys,⟨n,by simp,We _,JP nL,Jw,.nil⟩,?_⟩;rintro i m ys H2 ⟨rfl,hin,S2,hL,hys⟩;have env2:=env1.grow S2;by_cases hlt:i<n
 ·have envI2:=M5 (φ:=φ) env1 S2 nL ⟨ys,hL⟩ h1;obtain⟨go,yl⟩:=ok.go i H2 _ hlt S2 ⟨env2.same,envI2.zm,λb o hb z=>⟨S2 _ _ hb,Co env1 nL b o hb z⟩⟩;refine .inr ⟨go,λx H3 y=>?_⟩;obtain⟨S3,tv⟩:=yl x H3 y;refine hg H0 _ H2 H3 _ _ _ _ _ _ envI2 S3 tv (hf i hlt) λσ2 γ2 p2 e2 f2 k2=>⟨?_,?_⟩
  ·refine Sub.of (is:=is) k2.2 k2.1 λj hj v z=>?_;obtain⟨k,k1,_⟩:=Fx z;rw[h2 j hj]at k1;cases k1
  ·refine hc H0 _ H3 σ2 γ2 _ _ _ e2 p2 (λb H5 q5 S5=>?_) λ_ _ z=>z.elim;have e5:=e2.grow S5;cases b with
   |false=>
    rw[ZZ Yj]at q5 ⊢;refine⟨n-(i+1),by omega,rfl,hlt,(S2.trans S3).trans S5,(S3.trans S5) _ _ hL,?_⟩;rw[List.range_succ,Qa];simp only[Wv,q5,List.filterMap_nil,YO];exact Rps.mono (Jy (S3.trans S5) λ_ _ _ z=>z) hys
   |true=>
    rw[Ya rfl]at q5 ⊢;refine he H0 _ H5 σ2 γ2 _ _ _ e5 q5 (λs v H6 q6 S6 t6=>?_) λ_ _ z=>z.elim;obtain⟨d,hd,hfd⟩:=q6;have S26:=(S3.trans S5).trans S6;have hr:=t6.shd (e5.grow S6).same e5.zm S6 hd
    have hlen:ys.length<=i:=by
     rw[hys.len];exact Yn (List.length_filterMap_le _ _) (by rw[List.length_range];exact Yc _)
    refine⟨S26 _ _ hL,by omega,n-(i+1),by omega,rfl,hlt,λb o hb=>?_,Jw,?_⟩
    ·rw[Jn (JO hb nL)];exact S26 _ _ (S2 _ _ hb)
    ·rw[List.range_succ,Qa];have ef:[i].filterMap f=[d]:=by simp[hfd]
     rw[ef]
     have So:Same (off (λb=>zof B γ σ b\/b=L) H6) (off (λb=>zof B γ σ b\/b=L) (upd H6 L (.lst (ys++[v])))):=λb o h=>by
      obtain⟨a1,a2⟩:=UV h;refine JK ?_ a2;rw[Jn λz=>a2 (.inr z)];exact a1
     refine Rps.append (Rps.mono So (Rps.mono (Jy S26 λ_ _ _ z=>z) hys)) (.cons (Rp.mono So (Rp.mono (Jy (Same.refl _) λb _ _ z y=>z (.inl y)) hr)) .nil)
 ·have:i=n:=by omega
  subst this;exact .inl ⟨ok.stop H2 _ S2 (Later.of env2 (Fr.grow S2)),q _ _ H2 hR (S1.trans S2) ⟨L,rfl,(λ_ e=>e▸S1.free nL),ys,hL,hys⟩⟩
def pYes:PTT:=λ_ R _=>R true
def Xe:SndT K mg E FL pYes:=λ_ _ H _ _ _ _ _ _ p q _=>q _ H p (Same.refl _)
def Ou{α β:Type}(xs:List α)(f:α->Option β):(List.range xs.length).filterMap (λi=>(xs[i]?).bind f)=xs.filterMap f:=by
 induction xs with
 |nil=>rfl
 |cons x r ih=>
  rw[Y1,List.range_succ_eq_map,Wv,List.filterMap_map,Wv]
  have e:(λi=>((x::r)[i]?).bind f)∘Nat.succ=λi=>(r[i]?).bind f:=by
   funext i;simp
  rw[e,ih];rfl
end
open M
section
variable {K:Za}{mg:Str->Option Value}{E:L2.St->XK}{H0 H H1 H':Hp}{B Z Z':Addr->Prop}{σ:L2.St}{γ:Γ}
def pCB(f:List S->(S->Prop)->Prop)(r:PTA):PTE:=λγ R X=>r γ (λss=>f ss R) X
def Xa{rr:List V->Hp->VK->Prop}{f:List S->(S->Prop)->Prop}{ta:TA}{r:PTA}(hr:SndA K mg E ta r)(h:∀(H0 H H1:Hp) (Z:Addr->Prop) (ss:List S) (vs:List V) (R:S->Prop) (Q:VK),Same H0 H1->Same H H1->(∀b,Z b->Mut (H b))->TVs K Z H0 H H1 ss vs->f ss R->(∀s z H',R s->Same H1 H'->TV K Z H0 H H' s z->Q z H')->rr vs H1 Q) :
  SndE K mg E (tCB rr ta) (pCB f r):=by
 intro H0 B H σ γ R X Q env p q qx;refine hr H0 B H σ γ _ X _ env p (λss vs H1 h1 S1 t1=>?_) qx;exact h H0 H H1 _ ss vs R Q (env.grow S1).same S1 env.zm t1 h1 λs z H' hs S2 tv=>q s z H' hs (S1.trans S2) tv
def S.free:S->List D->Bool
 | .bor _,ds=>imms ds | .tmp _,ds=>imms ds | .view (.nst _),ds=>imms ds | .view (.nsl _ _),ds=>imms ds|_,_=>true
def TVs.one_inv {s:S}{vs:List V} (h:TVs K Z H0 H H' [s] vs):∃v,vs=[v]/\TV K Z H0 H H' s v:=by
 cases h with
 |cons h r=>cases r;exact⟨_,rfl,h⟩
def TVs.two_inv {s t:S}{vs:List V} (h:TVs K Z H0 H H' [s,t] vs):∃v u,vs=[v,u]/\TV K Z H0 H H' s v/\TV K Z H0 H H' t u:=by
 cases h with
 |cons h r=>cases r with|cons h2 r=>cases r;exact⟨_,_,rfl,h,h2⟩
def TV.items {s:S}{v:V}{ds:List D} (h0:Same H0 H') (hm:∀b,Z b->Mut (H b)) (S1:Same H H') (h:TV K Z H0 H H' s v) (hf:s.free ds=true) :
  (s.d=.lst ds->∃a vs,v=.ref a/\H' a=some (.lst vs)/\Rps K (off Z H') ds vs)/\(s.d=.tup ds->∃a vs,v=.ref a/\H' a=some (.tup vs)/\Rps K (off Z H') ds vs):=by
 have hm':∀b,Z b->Mut (H' b):=λb z=>Xi S1 (hm b z);cases s with
 |bor d=>
  have h:=Rp.strip h;refine⟨λe=>?_,λe=>?_⟩<;>rw[show d.strip=_ from e]at h
  ·obtain⟨a,vs,rfl,h1,r⟩:=Rp.lst_inv h;exact⟨a,vs,rfl,h0 _ _ h1,Rps.off hm' (Rps.mono h0 r) hf⟩
  ·obtain⟨a,vs,rfl,h1,r⟩:=Rp.tup_inv h;exact⟨a,vs,rfl,h0 _ _ h1,Rps.off hm' (Rps.mono h0 r) hf⟩
 |sh d=>
  refine⟨λe=>?_,λe=>?_⟩<;>(have e':d=_:=e;subst e')
  ·obtain⟨a,vs,rfl,h1,r⟩:=Rp.lst_inv h;exact⟨a,vs,rfl,off_sub _ _ h1,r⟩
  ·obtain⟨a,vs,rfl,h1,r⟩:=Rp.tup_inv h;exact⟨a,vs,rfl,off_sub _ _ h1,r⟩
 |own es=>
  cases es with
  |dK es=>exact⟨(λe=>by cases e),(λe=>by cases e)⟩
  |dT es=>exact⟨(λe=>by cases e),(λe=>by cases e)⟩
  |ins x C xs cs=>exact⟨(λe=>by cases e),(λe=>by cases e)⟩
  |nsl x cs=>
   refine⟨λe=>?_,λe=>by cases e⟩;have h2:=h.shd h0 hm S1 (d:=.lst (cs.map λc=>.lst c.2)) rfl;cases e
   obtain⟨a,vs,rfl,h1,r⟩:=Rp.lst_inv h2;exact⟨a,vs,rfl,off_sub _ _ h1,r⟩
  |nst cs=>
   refine⟨(λe=>by cases e),λe=>?_⟩;have h2:=h.shd h0 hm S1 (d:=.tup (cs.map λc=>.lst c.2)) rfl;cases e
   obtain⟨a,vs,rfl,h1,r⟩:=Rp.tup_inv h2;exact⟨a,vs,rfl,off_sub _ _ h1,r⟩
  |lst es=>
   refine⟨λe=>?_,λe=>by cases e⟩;cases e
   obtain⟨a,rfl,e0,vs,e,r⟩:=h;exact⟨a,vs,rfl,e,Rps.mono (Jy (Same.refl _) λb _ _ z y=>z (.inl y)) r⟩
  |lsA x es=>
   refine⟨λe=>?_,λe=>by cases e⟩;cases e
   obtain⟨a,rfl,e0,_,vs,e,r⟩:=h;exact⟨a,vs,rfl,e,Rps.mono (Jy (Same.refl _) λb _ _ z y=>z (.inl y)) r⟩
 |view es=>
  cases es with
  |dK es=>exact⟨(λe=>by cases e),(λe=>by cases e)⟩
  |dT es=>exact⟨(λe=>by cases e),(λe=>by cases e)⟩
  |ins x C xs cs=>exact⟨(λe=>by cases e),(λe=>by cases e)⟩
  |nsl x cs=>
   refine⟨λe=>?_,λe=>by cases e⟩;have h2:=h.rp h0;rw[e]at h2;obtain⟨a,vs,rfl,h1,r⟩:=Rp.lst_inv h2;exact⟨a,vs,rfl,h1,Rps.off hm' r hf⟩
  |nst cs=>
   refine⟨(λe=>by cases e),λe=>?_⟩;have h2:=h.rp h0;rw[e]at h2;obtain⟨a,vs,rfl,h1,r⟩:=Rp.tup_inv h2;exact⟨a,vs,rfl,h1,Rps.off hm' r hf⟩
  |lst es=>
   refine⟨λe=>?_,λe=>by cases e⟩;cases e
   obtain⟨a,rfl,vs,e,r⟩:=h;exact⟨a,vs,rfl,e,r⟩
  |lsA x es=>
   refine⟨λe=>?_,λe=>by cases e⟩;cases e
   obtain⟨a,rfl,_,vs,e,r⟩:=h;exact⟨a,vs,rfl,e,r⟩
 |tmp d=>
  refine⟨λe=>?_,λe=>?_⟩<;>(have e':d=_:=e;subst e')
  ·obtain⟨a,vs,rfl,h1,r⟩:=Rp.lst_inv h;exact⟨a,vs,rfl,h1,Rps.off hm' r hf⟩
  ·obtain⟨a,vs,rfl,h1,r⟩:=Rp.tup_inv h;exact⟨a,vs,rfl,h1,Rps.off hm' r hf⟩
def fLen:List S->(S->Prop)->Prop
 |[s],R=>(match s.d with
  | .lst ds=>R (.sh (.int ds.length)) | .tup ds=>R (.sh (.int ds.length)) | .scr ns=>R (.sh (.int ns.length)) | .fL ns=>R (.sh (.int ns.length)) | .str x=>x.length<=sizeLine/\R (.sh (.int x.length))|_=>False)
 |_,_=>False
def JS{ta:TA}{r:PTA}(hr:SndA K mg E ta r):SndE K mg E (tCB (λxs H Q=>∃x n,xs=[x]/\LenV K x H n/\Q (.int n) H) ta) (pCB fLen r):=by
 refine Xa hr λH0 H H1 Z ss vs R Q s0 s1 hm tv h q=>?_;unfold fLen at h;split at h
 ·rename_i s;obtain⟨v,rfl,t1⟩:=tv.one_inv;have rv:=t1.rp s0;split at h
  ·rename_i ds e;rw[e]at rv;obtain⟨a,us,rfl,h1,r1⟩:=rv.lst_inv;exact⟨_,_,rfl,.inl ⟨us,SqL.of h1,rfl⟩,by rw[r1.len];exact q _ _ H1 h (Same.refl _) (.int _)⟩
  ·rename_i ds e;rw[e]at rv;obtain⟨a,us,rfl,h1,r1⟩:=rv.tup_inv;exact⟨_,_,rfl,.inr ⟨us,SqT.of h1,rfl⟩,by rw[r1.len];exact q _ _ H1 h (Same.refl _) (.int _)⟩
  ·rename_i ns e;rw[e]at rv;cases rv with
   |scr hs=>exact⟨_,_,rfl,.inl ⟨_,hs,rfl⟩,by rw[ZV];exact q _ _ H1 h (Same.refl _) (.int _)⟩
  ·rename_i ns e;rw[e]at rv;cases rv with
   |fL hs=>exact⟨_,_,rfl,.inl ⟨_,.inl (.inr ⟨_,hs⟩),rfl⟩,by rw[ZV];exact q _ _ H1 h (Same.refl _) (.int _)⟩
  ·rename_i x e;rw[e]at rv;rw[rv.str_inv];exact⟨_,_,rfl,⟨h.1,rfl⟩,q _ _ H1 h.2 (Same.refl _) (.int _)⟩
  ·exact h.elim
 ·exact h.elim
def Ft:List S->(S->Prop)->Prop
 |[s],R=>(match s.d with
  | .lst ds=>s.free ds=true/\R (.own ds) | .tup ds=>s.free ds=true/\R (.own ds)|_=>False)
 |_,_=>False
def Pg{ta:TA}{r:PTA}(hr:SndA K mg E ta r):SndE K mg E (tCB (λxs H Q=>∃p ys,xs=[.ref p]/\(SqL K H p ys\/SqT K H p ys)/\∀l,H l=none->Q (.ref l) (upd H l (.lst ys))) ta) (pCB Ft r):=by
 refine Xa hr λH0 H H1 Z ss vs R Q s0 s1 hm tv h q=>?_;unfold Ft at h;split at h
 ·rename_i s;obtain⟨v,rfl,t1⟩:=tv.one_inv;split at h
  ·rename_i ds e;obtain⟨a,us,rfl,h1,r1⟩:=(t1.items s0 hm s1 h.1).1 e;exact⟨a,us,rfl,.inl (SqL.of h1),λl nl=>q _ _ _ h.2 (JP nl) (Kj s1 nl r1)⟩
  ·rename_i ds e;obtain⟨a,us,rfl,h1,r1⟩:=(t1.items s0 hm s1 h.1).2 e;exact⟨a,us,rfl,.inr (SqT.of h1),λl nl=>q _ _ _ h.2 (JP nl) (Kj s1 nl r1)⟩
  ·exact h.elim
 ·exact h.elim
def AL:List S->(S->Prop)->Prop
 |[s],R=>(match s.d with
  | .lst ds=>s.free ds=true/\R (.sh (.tup ds)) | .tup ds=>s.free ds=true/\R (.sh (.tup ds))|_=>False)
 |_,_=>False
def Aj{ta:TA}{r:PTA}(hr:SndA K mg E ta r):SndE K mg E (tCB (λxs H Q=>∃p ys,xs=[.ref p]/\((SqL K H p ys/\∀l,H l=none->Q (.ref l) (upd H l (.tup ys)))\/(SqT K H p ys/\Q (.ref p) H))) ta) (pCB AL r):=by
 refine Xa hr λH0 H H1 Z ss vs R Q s0 s1 hm tv h q=>?_;have hm':∀b,Z b->Mut (H1 b):=λb z=>Xi s1 (hm b z);unfold AL at h;split at h
 ·rename_i s;obtain⟨v,rfl,t1⟩:=tv.one_inv;split at h
  ·rename_i ds e;obtain⟨a,us,rfl,h1,r1⟩:=(t1.items s0 hm s1 h.1).1 e;refine⟨a,us,rfl,.inl ⟨SqL.of h1,λl nl=>q _ _ _ h.2 (JP nl) (.tup (JK Jw λz=>?_) (Rps.mono (Jy (JP nl) λ_ _ _ z=>z) r1))⟩⟩
   have:=hm' l z
   rw[nl]at this;exact this
  ·rename_i ds e;obtain⟨a,us,rfl,h1,r1⟩:=(t1.items s0 hm s1 h.1).2 e;refine⟨a,us,rfl,.inr ⟨SqT.of h1,q _ _ _ h.2 (Same.refl _) (.tup (JK h1 λz=>?_) r1)⟩⟩
   have:=hm' a z
   rw[h1]at this;exact this
  ·exact h.elim
 ·exact h.elim
def Rps.ints {K:Za}{H:Hp}:∀{js:List Int}{vs:List V},Rps K H (js.map D.int) vs->vs=js.map V.int
 |[],_,.nil=>rfl
 |j::r,_,.cons h t=>by rw[Rp.int_inv h,Rps.ints t];rfl
def Rps.of_ints {K:Za}{H:Hp}:∀(js:List Int),Rps K H (js.map D.int) (js.map V.int)
 |[]=>.nil
 |j::r=>.cons (.int j) (Rps.of_ints r)
def AE:List S->(S->Prop)->Prop
 |[s],R=>∃js:List Int,s.d=.lst (js.map D.int)/\js.length<64/\∀ns:List Int,ns.Perm js->ns.Pairwise (·<=·)->R (.own (ns.map D.int))
 |_,_=>False
def Sk{w:World}{ta:TA}{r:PTA}(hr:SndA K mg E ta r):SndE K mg E (tCB (λxs H Q=>∃(p:Addr) (js:List Int),xs=[.ref p]/\js.length<64/\(SqL K H p (js.map V.int)\/H p=some (SetH w p js))/\
  ∀(l:Addr) (ns:List Int),H l=none->ns.Perm js->ns.Pairwise (·<=·)->Q (.ref l) (upd H l (.lst (ns.map V.int)))) ta) (pCB AE r):=by
 refine Xa hr λH0 H H1 Z ss vs R Q s0 s1 hm tv h q=>?_;unfold AE at h;split at h
 ·rename_i s;obtain⟨v,rfl,t1⟩:=tv.one_inv;obtain⟨js,e,hz,k⟩:=h;have rv:=t1.rp s0;rw[e]at rv;obtain⟨a,us,rfl,h1,r1⟩:=rv.lst_inv;rw[r1.ints]at h1;exact⟨a,js,rfl,hz,.inl (SqL.of h1),λl ns nl hp hs=>q _ _ _ (k ns hp hs) (JP nl) (Kj s1 nl (Rps.of_ints ns))⟩
 ·exact h.elim
def FF:List S->(S->Prop)->Prop
 |[s,t],R=>(match s.d,t.d with | .int i,.int j=>R (.sh (.int (if j>i then j else i)))|_,_=>False)
 |_,_=>False
def DW:List S->(S->Prop)->Prop
 |[s,t],R=>(match s.d,t.d with | .int i,.int j=>R (.sh (.int (if j<i then j else i)))|_,_=>False)
 |_,_=>False
def MY{ta:TA}{r:PTA}(hr:SndA K mg E ta r):SndE K mg E (tCB (λxs H Q=>∃i j,xs=[.int i,.int j]/\Q (.int (if j>i then j else i)) H) ta) (pCB FF r):=by
 refine Xa hr λH0 H H1 Z ss vs R Q s0 s1 hm tv h q=>?_;unfold FF at h;split at h
 ·obtain⟨v,u,rfl,t1,t2⟩:=tv.two_inv;have r1:=t1.rp s0;have r2:=t2.rp s0;split at h
  ·rename_i i j e1 e2;rw[e1]at r1;rw[e2]at r2;rw[r1.int_inv,r2.int_inv];exact⟨i,j,rfl,q _ _ H1 h (Same.refl _) (.int _)⟩
  ·exact h.elim
 ·exact h.elim
def Ha{ta:TA}{r:PTA}(hr:SndA K mg E ta r):SndE K mg E (tCB (λxs H Q=>∃i j,xs=[.int i,.int j]/\Q (.int (if j<i then j else i)) H) ta) (pCB DW r):=by
 refine Xa hr λH0 H H1 Z ss vs R Q s0 s1 hm tv h q=>?_;unfold DW at h;split at h
 ·obtain⟨v,u,rfl,t1,t2⟩:=tv.two_inv;have r1:=t1.rp s0;have r2:=t2.rp s0;split at h
  ·rename_i i j e1 e2;rw[e1]at r1;rw[e2]at r2;rw[r1.int_inv,r2.int_inv];exact⟨i,j,rfl,q _ _ H1 h (Same.refl _) (.int _)⟩
  ·exact h.elim
 ·exact h.elim
def fAbs:List S->(S->Prop)->Prop
 |[s],R=>(match s.d with | .int i=>R (.sh (.int (if i<0 then -i else i)))|_=>False)
 |_,_=>False
def tyD:D->Option String
 | .int _=>some "int" | .bl _=>some "bool" | .non=>some "NoneType" | .str _=>some "str" | .tup _=>some "tuple" | .lst _=>some "list" | .fL _=>some "list" | .dK _=>some "dict" | .dT _=>some "dict" |_=>none
inductive IsiR:String->String->Bool->Prop
 |same (n:String):IsiR n n true
 |ib:IsiR "int" "bool" false
 |bi:IsiR "bool" "int" true
 |tl:IsiR "tuple" "list" false
 |lt:IsiR "list" "tuple" false
 |it:IsiR "int" "tuple" false
 |il:IsiR "int" "list" false
 |bt:IsiR "bool" "tuple" false
 |bL:IsiR "bool" "list" false
 |ti:IsiR "tuple" "int" false
 |li:IsiR "list" "int" false
 |si:IsiR "str" "int" false
 |is:IsiR "int" "str" false
 |ni:IsiR "NoneType" "int" false
 |nl:IsiR "NoneType" "list" false
 |nt:IsiR "NoneType" "tuple" false
def IsiR.kit {m n:String}{b:Bool} (h:IsiR m n b):PySem.W.kitOne K (.type m) (.type n)=some b:=by
 cases h with
 |same=>exact Hr K _
 |_=>rfl
def fIsi:List S->(S->Prop)->Prop
 |[s,t],R=>(match tyD s.d,t.d with|some m,.ty n=>∃b,IsiR m n b/\R (.sh (.bl b))|_,_=>False)
 |_,_=>False
def HP{d:D}{v:V}{m:String}(h:Rp K H d v)(e:tyD d=some m):TyOf K H v (.type m):=by
 cases h with
 |int i=>cases e;exact .int i
 |bl b=>cases e;exact .bl b
 |non=>cases e;exact .non
 |str x=>cases e;exact .str x
 |ty n=>cases e
 |tup h r=>cases e;exact .tup h
 |lst h r=>cases e;exact .lst h
 |scr h=>cases e
 |dK h=>cases e;exact .dK h
 |dT h=>cases e;exact .dT h
 |dF h=>cases e
 |loc h=>cases e
 |err h=>cases e
 |ref a=>cases e
 |erM _ _ _=>cases e
 |fL h=>cases e;exact .frz h
 |ins h q r=>cases e
def XX{ta:TA}{r:PTA}(hr:SndA K mg E ta r):SndE K mg E (tCB (λxs H Q=>∃x n t b,xs=[x,.ty n]/\TyOf K H x t/\PySem.W.kitOne K t (.type n)=some b/\Q (.bl b) H) ta) (pCB fIsi r):=by
 refine Xa hr λH0 H H1 Z ss vs R Q s0 s1 hm tv h q=>?_;unfold fIsi at h;split at h
 ·obtain⟨v,u,rfl,t1,t2⟩:=tv.two_inv;have r1:=t1.rp s0;have r2:=t2.rp s0;split at h
  ·rename_i m n e1 e2;rw[e2]at r2;rw[r2.ty_inv];obtain⟨b,k,hR⟩:=h;exact⟨v,n,_,b,rfl,HP r1 e1,k.kit,q _ _ H1 hR (Same.refl _) (.bl _)⟩
  ·exact h.elim
 ·exact h.elim
def pBM(f:S->List S->(S->Prop)->Prop)(a:PTE)(r:PTA):PTE:=λγ R X=>a γ (λs=>(∃ds,s.d=.lst ds)/\r γ (λss=>f s ss R) X) X
def HS{rr:V->List V->Hp->VK->Prop}{f:S->List S->(S->Prop)->Prop}{te:TE}{ta:TA}{a:PTE}{r:PTA}(ha:SndE K mg E te a)(hr:SndA K mg E ta r)(h:∀(H0 H H1:Hp) (Z:Addr->Prop) (s:S) (v:V) (ss:List S) (vs:List V) (R:S->Prop) (Q:VK),Same H0 H1->Same H H1->(∀b,Z b->Mut (H b))->TV K Z H0 H H1 s v->TVs K Z H0 H H1 ss vs->f s ss R->(∀s z H',R s->Same H1 H'->TV K Z H0 H H' s z->Q z H')->rr v vs H1 Q) :
  SndE K mg E (tBM K "list" rr te ta) (pBM f a r):=by
 intro H0 B H σ γ R X Q env p q qx;refine ha H0 B H σ γ _ X _ env p (λs v H1 h1 S1 t1=>?_) qx;have env1:=env.grow S1;obtain⟨⟨ds,ed⟩,h1⟩:=h1;have rv:=t1.rp env1.same;rw[ed]at rv;obtain⟨l,us,rfl,hl,_⟩:=rv.lst_inv;refine⟨.inl ⟨rfl,us,SqL.of hl⟩,hr H0 B H1 σ γ _ X _ env1 h1 (λss vs H2 h2 S2 t2=>?_) λc H' hc S'=>qx c H' hc (S1.trans S')⟩;exact h H0 H H2 _ s _ ss vs R Q (env1.grow S2).same (S1.trans S2) env.zm (t1.grow S2) (TVs.weakG S1 t2) h2 λs z H' hs S3 tv=>q s z H' hs ((S1.trans S2).trans S3) tv
def CJ:S->List S->(S->Prop)->Prop:=λs ss R=>match ss with
 |[t]=>(match t.d with | .int z=>∃xs:List Int,s.d=.lst (xs.map D.int)/\z∈xs/\R (.sh (.int (xs.idxOf z:Nat)))|_=>False)
 |_=>False
def NV{te:TE}{ta:TA}{a:PTE}{r:PTA}(ha:SndE K mg E te a)(hr:SndA K mg E ta r):SndE K mg E (tBM K "list" (Ba K) te ta) (pBM CJ a r):=by
 refine HS ha hr λH0 H H1 Z s v ss vs R Q s0 s1 hm t1 t2 h q=>?_;unfold CJ at h;split at h
 ·obtain⟨u,rfl,t2'⟩:=t2.one_inv;have r2:=t2'.rp s0;split at h
  ·rename_i z e;rw[e]at r2;obtain⟨xs,ex,hz,hR⟩:=h;have r1:=t1.rp s0;rw[ex]at r1;obtain⟨l,us,rfl,hl,r1⟩:=r1.lst_inv;rw[r1.ints]at hl;exact⟨l,xs,z,rfl,by rw[r2.int_inv],SqL.of hl,hz,q _ _ H1 hR (Same.refl _) (.int _)⟩
  ·exact h.elim
 ·exact h.elim
def prD(p:Int×Int):D:=.tup [.int p.1,.int p.2]
inductive InR:D->D->Bool->Prop
 |li (i:Int) (hs:List Int):InR (.int i) (.lst (hs.map D.int)) (decide (i∈hs))
 |ti (i:Int) (hs:List Int):InR (.int i) (.tup (hs.map D.int)) (decide (i∈hs))
 |lp (q:Int×Int) (ps:List (Int×Int)):InR (prD q) (.lst (ps.map prD)) (decide (q∈ps))
def fIn(neg:Bool):S->S->(S->Prop)->Prop:=λx y R=>∃b,InR x.d y.d b/\R (.sh (.bl (if neg then !b else b)))
def Rp.pair {q:Int×Int}{v:V} (h:Rp K H (prD q) v):U7 H v q:=by
 obtain⟨a,vs,rfl,h1,r⟩:=Rp.tup_inv h;obtain⟨x,y,rfl,r1,r2⟩:=r.two_inv;rw[r1.int_inv,r2.int_inv]at h1;exact⟨a,rfl,h1⟩
def Rps.lv {K:Za}{H:Hp}{ps:List (Int×Int)}{vs:List V} (h:Rps K H (ps.map prD) vs):LV U7 H vs ps:=by
 refine⟨by rw[h.len,ZV],λi p hp=>?_⟩;obtain⟨v,h1,h2⟩:=h.get (i:=i) (d:=prD p) (by rw[Ye,hp];rfl);exact⟨v,h1,h2.pair⟩
def Ud{neg:Bool}{ta tb:TE}{a b:PTE}(ha:SndE K mg E ta a)(hb:SndE K mg E tb b):SndE K mg E (tOp (λx y H Q=>rIn K neg x y H Q\/rInP neg x y H Q) ta tb) (p2 a b (fIn neg)):=by
 refine se_2 ha hb λH0 H H2 Z x y v u R Q s0 s1 hm tx ty h q=>?_;obtain⟨k,hk,hR⟩:=h;have rx:=tx.rp s0;have ry:=ty.rp s0;generalize ex:x.d=dx at hk rx;generalize ey:y.d=dy at hk ry;cases hk with
 |li i hs=>
  obtain⟨l,us,rfl,hl,r⟩:=ry.lst_inv;rw[r.ints]at hl;rw[rx.int_inv];refine .inl ⟨l,_,rfl,.inl (SqL.of hl),rfl,Xg _,?_⟩;rw[AZ];exact q _ _ H2 hR (Same.refl _) (.bl _)
 |ti i hs=>
  obtain⟨l,us,rfl,hl,r⟩:=ry.tup_inv;rw[r.ints]at hl;rw[rx.int_inv];refine .inl ⟨l,_,rfl,.inr (SqT.of hl),rfl,Xg _,?_⟩;rw[AZ];exact q _ _ H2 hR (Same.refl _) (.bl _)
 |lp p ps=>
  obtain⟨l,us,rfl,hl,r⟩:=ry.lst_inv;exact .inr ⟨l,ps,p,rfl,rx.pair,⟨us,hl,r.lv⟩,q _ _ H2 hR (Same.refl _) (.bl _)⟩
def fEqU(neg:Bool):S->S->(S->Prop)->Prop:=λx y R=>match x.d,y.d with
 | .lst ds,.lst es=>∃xs ys:List Int,ds=xs.map D.int/\es=ys.map D.int/\R (.sh (.bl (if neg then !decide (xs=ys)else decide (xs=ys))))
 |_,_=>fEq neg x y R
def Xr{ta tb:TE}{a b:PTE}(ha:SndE K mg E ta a)(hb:SndE K mg E tb b):SndE K mg E (tOp (λx y H Q=>rEq x y H Q\/rEqL K false x y H Q) ta tb) (p2 a b (fEqU false)):=by
 refine se_2 ha hb λH0 H H2 Z x y v u R Q s0 s1 hm tx ty h q=>?_;have rx:=tx.rp s0;have ry:=ty.rp s0;unfold fEqU at h;split at h
 ·rename_i ds es e1 e2;obtain⟨xs,ys,rfl,rfl,hR⟩:=h;rw[e1]at rx;rw[e2]at ry;obtain⟨l,us,rfl,hl,r⟩:=rx.lst_inv;obtain⟨m,ws,rfl,hm,r'⟩:=ry.lst_inv;rw[r.ints]at hl;rw[r'.ints]at hm;refine .inr ⟨l,m,_,_,rfl,rfl,SqL.of hl,SqL.of hm,Xg _,Xg _,?_⟩;rw[PK];exact q _ _ H2 hR (Same.refl _) (.bl _)
 ·refine .inl ?_;unfold fEq at h;split at h
  ·rename_i i j e1 e2;rw[e1]at rx;rw[e2]at ry;rw[rx.int_inv,ry.int_inv];refine⟨rfl,?_⟩;rw[Kv (f:=V.int) λ_ _ z=>V.int.inj z];exact q _ _ H2 h (Same.refl _) (.bl _)
  ·rename_i i j e1 e2;rw[e1]at rx;rw[e2]at ry;rw[rx.str_inv,ry.str_inv];refine⟨rfl,?_⟩;rw[Kv (f:=V.str) λ_ _ z=>V.str.inj z];exact q _ _ H2 h (Same.refl _) (.bl _)
  ·rename_i i j e1 e2;rw[e1]at rx;rw[e2]at ry;rw[rx.bl_inv,ry.bl_inv];refine⟨rfl,?_⟩;rw[Kv (f:=V.bl) λ_ _ z=>V.bl.inj z];exact q _ _ H2 h (Same.refl _) (.bl _)
  ·exact h.elim
def Km{ta tb:TE}{a b:PTE}(ha:SndE K mg E ta a)(hb:SndE K mg E tb b):SndE K mg E (tOp (λx y H Q=>rNe x y H Q\/rEqL K true x y H Q) ta tb) (p2 a b (fEqU true)):=by
 refine se_2 ha hb λH0 H H2 Z x y v u R Q s0 s1 hm tx ty h q=>?_;have rx:=tx.rp s0;have ry:=ty.rp s0;unfold fEqU at h;split at h
 ·rename_i ds es e1 e2;obtain⟨xs,ys,rfl,rfl,hR⟩:=h;rw[e1]at rx;rw[e2]at ry;obtain⟨l,us,rfl,hl,r⟩:=rx.lst_inv;obtain⟨m,ws,rfl,hm,r'⟩:=ry.lst_inv;rw[r.ints]at hl;rw[r'.ints]at hm;refine .inr ⟨l,m,_,_,rfl,rfl,SqL.of hl,SqL.of hm,Xg _,Xg _,?_⟩;rw[PK];exact q _ _ H2 hR (Same.refl _) (.bl _)
 ·refine .inl ?_;unfold fEq at h;split at h
  ·rename_i i j e1 e2;rw[e1]at rx;rw[e2]at ry;rw[rx.int_inv,ry.int_inv];refine⟨rfl,?_⟩;rw[Kv (f:=V.int) λ_ _ z=>V.int.inj z];exact q _ _ H2 h (Same.refl _) (.bl _)
  ·rename_i i j e1 e2;rw[e1]at rx;rw[e2]at ry;rw[rx.str_inv,ry.str_inv];refine⟨rfl,?_⟩;rw[Kv (f:=V.str) λ_ _ z=>V.str.inj z];exact q _ _ H2 h (Same.refl _) (.bl _)
  ·rename_i i j e1 e2;rw[e1]at rx;rw[e2]at ry;rw[rx.bl_inv,ry.bl_inv];refine⟨rfl,?_⟩;rw[Kv (f:=V.bl) λ_ _ z=>V.bl.inj z];exact q _ _ H2 h (Same.refl _) (.bl _)
  ·exact h.elim
abbrev tTru(K:Za)(ta:TE):TT:=λσ H Q=>ta σ H λx H'=>∃k,TruV K x H' k/\Q k H'
def pTru(a:PTE):PTT:=λγ R X=>a γ (λx=>match x.d with
 | .bl b=>R b | .lst ds=>R (!ds.isEmpty) | .tup ds=>R (!ds.isEmpty) | .int i=>R (i != 0) | .non=>R false|_=>False) X
def NX{α β:Type}{l:List α}{m:List β}(h:l.length=m.length):l.isEmpty=m.isEmpty:=by
 cases l<;>cases m<;>simp at h ⊢
def JQ{te:TE}{a:PTE}(ha:SndE K mg E te a):SndT K mg E (tTru K te) (pTru a):=by
 intro H0 B H σ γ R X Q env p q qx;refine ha H0 B H σ γ _ X _ env p (λx v H1 h1 S1 t1=>?_) qx;have rx:=t1.rp (env.grow S1).same;split at h1
 ·rename_i b e;rw[e]at rx;rw[rx.bl_inv];exact⟨b,rfl,q _ H1 h1 S1⟩
 ·rename_i ds e;rw[e]at rx;obtain⟨l,us,rfl,hl,r⟩:=rx.lst_inv;exact⟨!us.isEmpty,.inl ⟨us,SqL.of hl,rfl⟩,by rw[NX r.len];exact q _ H1 h1 S1⟩
 ·rename_i ds e;rw[e]at rx;obtain⟨l,us,rfl,hl,r⟩:=rx.tup_inv;exact⟨!us.isEmpty,.inr (.inl ⟨us,SqT.of hl,rfl⟩),by rw[NX r.len];exact q _ H1 h1 S1⟩
 ·rename_i i e;rw[e]at rx;rw[rx.int_inv];exact⟨_,rfl,q _ H1 h1 S1⟩
 ·rename_i e;rw[e]at rx;rw[rx.non_inv];exact⟨_,rfl,q _ H1 h1 S1⟩
 ·exact h1.elim
def cutD{α:Type}(xs:List α)(lo hi:Option Int):List α:=(xs.drop (HT.sIx xs.length 0 lo)).take (HT.sIx xs.length xs.length hi-HT.sIx xs.length 0 lo)
def Eg:PTO:=λ_ R _=>R none
def HG(a:PTE):PTO:=λγ R X=>a γ (λs=>match s.d with | .int i=>R (some i)|_=>False) X
def XZ:SndO K mg E BS Eg:=λ_ _ H _ _ _ _ _ _ p q _=>q _ H p (Same.refl _)
def XG{te:TE}{a:PTE}(ha:SndE K mg E te a):SndO K mg E (BG te) (HG a):=by
 intro H0 B H σ γ R X Q env p q qx;refine ha H0 B H σ γ _ X _ env p (λx v H1 h1 S1 t1=>?_) qx;have rx:=t1.rp (env.grow S1).same;split at h1
 ·rename_i i e;rw[e]at rx;exact⟨i,rx.int_inv,q _ H1 h1 S1⟩
 ·exact h1.elim
def pSl(a:PTE)(l u:PTO):PTE:=λγ R X=>a γ (λs=>l γ (λlo=>u γ (λhi=>match s.d with | .lst ds=>s.free ds=true/\R (.own (cutD ds lo hi))|_=>False) X) X) X
def Rps.cut {ds:List D}{vs:List V}{lo hi:Option Int} (r:Rps K H ds vs):Rps K H (cutD ds lo hi) (cutV vs lo hi):=by
 unfold cutD cutV;rw[r.len];exact Rps.take _ (Rps.drop _ r)
def XQ{te:TE}{tl th:TO}{a:PTE}{l u:PTO}(ha:SndE K mg E te a)(hl:SndO K mg E tl l)(hu:SndO K mg E th u):SndE K mg E (tSl (rSlL K) te tl th) (pSl a l u):=by
 intro H0 B H σ γ R X Q env p q qx;refine ha H0 B H σ γ _ X _ env p (λx v H1 h1 S1 t1=>?_) qx;refine hl H0 B H1 σ γ _ X _ (env.grow S1) h1 (λlo H2 h2 S2=>?_) λc H' hc S'=>qx c H' hc (S1.trans S');refine hu H0 B H2 σ γ _ X _ ((env.grow S1).grow S2) h2 (λhi H3 h3 S3=>?_) λc H' hc S'=>qx c H' hc ((S1.trans S2).trans S');have S13:=(S1.trans S2).trans S3;split at h3
 ·rename_i ds e;obtain⟨b,us,rfl,hb,r⟩:=((t1.grow (S2.trans S3)).items (env.grow S13).same env.zm S13 h3.1).1 e;exact⟨b,us,rfl,SqL.of hb,λm nm=>q _ _ _ h3.2 (S13.trans (JP nm)) (Kj S13 nm r.cut)⟩
 ·exact h3.elim
def fCat:S->S->(S->Prop)->Prop:=λx y R=>match x.d,y.d with
 | .lst ds,.lst es=>x.free ds=true/\y.free es=true/\ds.length+es.length<=100000/\R (.own (ds++es))
 |_,_=>False
def P2{ta tb:TE}{a b:PTE}(ha:SndE K mg E ta a)(hb:SndE K mg E tb b):SndE K mg E (tOp rCat ta tb) (p2 a b fCat):=by
 refine se_2 ha hb λH0 H H2 Z x y v u R Q s0 s1 hm tx ty h q=>?_;unfold fCat at h;split at h
 ·rename_i ds es e1 e2;obtain⟨l,us,rfl,hl,r⟩:=(tx.items s0 hm s1 h.1).1 e1;obtain⟨m,ws,rfl,hm',r'⟩:=(ty.items s0 hm s1 h.2.1).1 e2;have hz:us.length+ws.length<=sizeLine:=by rw[r.len,r'.len];exact Yn h.2.2.1 (by decide)
  exact⟨l,m,us,ws,rfl,rfl,hl,hm',hz,λp np=>q _ _ _ h.2.2.2 (JP np) (Kj s1 np (r.append r'))⟩
 ·exact h.elim
def DK(i:Nat)(a:PTE):PTS:=λR γ=>match γ[i]? with
 |some (some (.own (.lst ds)))=>a γ (λs=>match s.shd with
  |some d=>ds.length<10000000/\R.nx (γ.set i (some (.own (ds++[d]))))
  |none=>False) (R.ex γ)
 |some (some (.own (.lsA x ds)))=>a γ (λs=>match s.shd with
  |some d=>ds.length<10000000/\R.nx (γ.set i (some (.own (.lsA x (ds++[d])))))
  |none=>False) (R.ex γ)
 |_=>False
def P0(i:Nat){te:TE}{a:PTE}(ha:SndE K mg E te a):SndS K mg E (T3 (tBM K "list" SQ (tVar i) (Ua te tNil))) (DK i a):=by
 intro H0 B H σ γ R D hB env h e;unfold DK at h;split at h
 ·rename_i ds hi;obtain⟨v,hv,b,rfl,hb0,us,hb,rb⟩:=env.slot i _ hi;refine⟨_,hv,.inl ⟨rfl,us,SqL.of hb⟩,ha H0 B H σ γ _ _ _ env h (λs u H1 h1 S1 t1=>?_) λc H' hc S'=>e.ex σ γ c H' hc (env.grow S') (Fr.grow S')⟩;have env1:=env.grow S1;split at h1
  ·rename_i d e2;have rd:=t1.shd env1.same env.zm S1 e2;refine⟨b,us,u,rfl,rfl,S1 _ _ hb,by rw[rb.len];exact WY h1.1 (by decide),?_⟩;obtain⟨e2,f2⟩:=env1.mutate (es:=.lst (ds++[d])) (us:=.lst (us++[u])) hi hv trivial λF H' SF hF=>⟨_,hF,Rps.mono SF (Rps.append (Rps.mono (Jy S1 λ_ _ _ z=>z) rb) (.cons rd .nil))⟩;exact e.nx _ _ _ h1.2 e2 ((Fr.grow S1).trans f2)
  ·exact h1.elim
 ·rename_i x ds hi;obtain⟨v,hv,b,rfl,hb0,rfl,us,hb,rb⟩:=env.slot i _ hi;refine⟨_,hv,.inl ⟨rfl,us,SqL.of hb⟩,ha H0 B H σ γ _ _ _ env h (λs u H1 h1 S1 t1=>?_) λc H' hc S'=>e.ex σ γ c H' hc (env.grow S') (Fr.grow S')⟩;have env1:=env.grow S1;split at h1
  ·rename_i d e2;have rd:=t1.shd env1.same env.zm S1 e2;refine⟨b,us,u,rfl,rfl,S1 _ _ hb,by rw[rb.len];exact WY h1.1 (by decide),?_⟩;obtain⟨e2,f2⟩:=env1.mutate (es:=.lsA b (ds++[d])) (us:=.lst (us++[u])) hi hv trivial λF H' SF hF=>⟨rfl,_,hF,Rps.mono SF (Rps.append (Rps.mono (Jy S1 λ_ _ _ z=>z) rb) (.cons rd .nil))⟩;exact e.nx _ _ _ h1.2 e2 ((Fr.grow S1).trans f2)
  ·exact h1.elim
 ·exact h.elim
end
section
variable {X:Cx}{K:Za}
def UG(hu:X.A.in1.units<cLine)(hK:X.K=K:=by rfl):OpR X (compareOp .In) (λx y H Q=>rIn K false x y H Q\/rInP false x y H Q):=(R0 hK).or (Hz hu)
def XY(hu:X.A.in1.units<cLine)(hK:X.K=K:=by rfl):OpR X (compareOp .NotIn) (λx y H Q=>rIn K true x y H Q\/rInP true x y H Q):=(EJ hK).or (Lj hu)
def SS(hu:X.A.units<cLine)(hK:X.K=K:=by rfl):OpR X (compareOp .Eq) (λx y H Q=>rEq x y H Q\/rEqL K false x y H Q):=by subst hK;exact op_eq.or (O9 hu)
def GD(hu:X.A.units<cLine)(hK:X.K=K:=by rfl):OpR X (compareOp .NotEq) (λx y H Q=>rNe x y H Q\/rEqL K true x y H Q):=by subst hK;exact op_ne.or (Fh hu)
def JR{e:Expr}{te:TE}(ha:PE X e te)(hK:X.K=K:=by rfl)(he:∀whole,isTrue e X.env whole=(do let v ←whole;standAt e.pos;holding [v] (truthy v)):=by intro _;rfl):PT X e (tTru K te):=by
 subst hK;exact ME ha he
def Ph(hK:X.K=K:=by rfl):Uh X (.type "list") (λxs H Q=>∃p ys,xs=[.ref p]/\(SqL K H p ys\/SqT K H p ys)/\∀l,H l=none->Q (.ref l) (upd H l (.lst ys))):=by subst hK;exact Sm
def BI(hK:X.K=K:=by rfl):Uh X (.type "tuple") (λxs H Q=>∃p ys,xs=[.ref p]/\((SqL K H p ys/\∀l,H l=none->Q (.ref l) (upd H l (.tup ys)))\/(SqT K H p ys/\Q (.ref p) H))):=by subst hK;exact Rl
def XD(hK:X.K=K:=by rfl):Uh X (.builtin "isinstance") (λxs H Q=>∃x n t b,xs=[x,.ty n]/\TyOf K H x t/\PySem.W.kitOne K t (.type n)=some b/\Q (.bl b) H):=by subst hK;exact Mi
def XJ(hK:X.K=K:=by rfl):SlR X (rSlL K):=by subst hK;exact G2
def Bo(hc:X.calm=true){w:World}(hK:X.K=K:=by rfl)(hw:X.w=w:=by rfl):Uh X (.builtin "sorted") (λxs H Q=>∃(p:Addr) (js:List Int),xs=[.ref p]/\js.length<64/\(SqL K H p (js.map V.int)\/H p=some (SetH w p js))/\
  ∀(l:Addr) (ns:List Int),H l=none->ns.Perm js->ns.Pairwise (·<=·)->Q (.ref l) (upd H l (.lst (ns.map V.int)))):=by subst hK;subst hw;exact FI hc
def JG{tg l:Expr}{tl:TE}(hl:PE X l tl)(hK:X.K=K:=by rfl):PI X tg l (TM K tl):=by subst hK;exact Ai hl
end
section
variable {P:Program}{w:World}{K:Za}{mg:Str->Option Value}{base:Heap}{H H':Hp}
def DP{CX:CXT}{k:Nat}{x:Str}{ps:List Str}{sp:Sp}{c:Pc}(C:Callee P w K mg base CX k x ps sp)(h:∀ds R X vs H (Q:VK) (E:XK),Rps K H ds vs->c ds R X->(∀s v H',R s->Same H H'->TV K (λb=>Mut (H b)) H H H' s v->Q v H')->(∀e H',X e->Same H H'->XE mg E e H')->sp vs H Q E) :
  Callee P w K mg base CX k x ps (spOf mg c K):=by
 obtain⟨f,fd,F,rest⟩:=C.ex;exact⟨f,fd,F.imp λvs H Q E ⟨ds,R,X,r,hc,hQ,hX⟩=>h ds R X vs H Q E r hc hQ hX,rest⟩
def Rp.ints_inv {ns:List Int}{v:V} (h:Rp K H (.lst (ns.map D.int)) v):∃a,v=.ref a/\H a=some (.lst (ns.map V.int)):=by
 obtain⟨a,vs,rfl,h1,r⟩:=h.lst_inv;rw[r.ints]at h1;exact⟨a,rfl,h1⟩
def Rp.pairs_inv {ps:List (Int×Int)}{v:V} (h:Rp K H (.lst (ps.map prD)) v):∃a,v=.ref a/\LAt U7 H a ps:=by
 obtain⟨a,vs,rfl,h1,r⟩:=h.lst_inv;exact⟨a,rfl,vs,h1,r.lv⟩
def Fe{a:Addr}{ns:List Int}(n:H a=none)(h:H' a=some (.lst (ns.map V.int))):TV K (λb=>Mut (H b)) H H H' (.own (ns.map D.int)) (.ref a):=⟨a,rfl,(λ_ e=>e▸n),_,h,Rps.of_ints ns⟩
def KN:∀(ns:List Int),imms (ns.map D.int)=true
 |[]=>by unfold List.map imms;rfl
 |n::r=>by rw[Ys];unfold imms;rw[KN r];unfold imm;rfl
def G5(p:Int×Int):imm (prD p)=true:=by unfold prD imm imms imm imms imm imms;rfl
def Te:∀(ps:List (Int×Int)),imms (ps.map prD)=true
 |[]=>by unfold List.map imms;rfl
 |p::r=>by rw[Ys];unfold imms;rw[Te r,G5];rfl
def BM{α:Type}{f:α->D}{xs:List α}{i:Nat}(h:i<xs.length):(xs.map f).getD i .non=f xs[i]:=by
 rw[Yp,Ye,ZU h];rfl
def B4{α:Type}{f:α->D}{xs:List α}{i:Int}(h0:0<=i)(h:i<(xs.length:Int)):atI (xs.map f) i=some (f (xs[i.toNat]'(by omega))):=by
 have h':i.toNat<xs.length:=by omega
 exact Uv (T1 h0 (ZU h'))
def Ks{α:Type}{f:α->D}{xs:List α}{i:Nat}(h:i<xs.length):atI (xs.map f) (i:Int)=some (f xs[i]):=Uv (KI (ZU h))
def JW{α:Type}{φ:List (Option Nat)}{γ:Γ}{g:PTG}{c:PTT}{e:PTE}{s:S}{R:S->Prop}{xs:List α}{emb:α->D}(f:α->Option D)(hz:xs.length<=100000)(turn:∀x∈xs,g (s.sub (emb x)) (atP φ γ) λγ2=>c γ2 (λb=>if b=true then e γ2 (λs=>∃d,s.shd=some d/\f x=some d) (λ_=>False)else f x=none) λ_=>False)(done:R (.own (xs.filterMap f))) :
  CompW φ γ g c e (xs.map emb).length (λi=>s.sub ((xs.map emb).getD i .non)) R:=by
 rw[ZV];refine⟨⟨hz,λi=>(xs[i]?).bind f,λi hi=>?_,by rw[Ou];exact done⟩⟩;have e1:(xs[i]?).bind f=f xs[i]:=by rw[ZU hi];rfl
 have t:=turn xs[i] (Yr hi);rw[←e1]at t;rw[←BM (f:=emb) hi]at t;exact t
def Hy{φ:List (Option Nat)}{γ:Γ}{g:PTG}{c:PTT}{e:PTE}{item:Nat->S}{R:S->Prop}{n:Nat}(f:Nat->Option D)(hz:n<=100000)(turn:∀i,i<n->g (item i) (atP φ γ) λγ2=>c γ2 (λb=>if b=true then e γ2 (λs=>∃d,s.shd=some d/\f i=some d) (λ_=>False)else f i=none) λ_=>False)(done:R (.own ((List.range n).filterMap f))) :
  CompW φ γ g c e n item R:=⟨⟨hz,f,turn,done⟩⟩
def UO{α:Type}{js:List Nat}{γ:Γ}{g:PTG}{body:PTS}{s:S}{R:PEnds}{xs:List α}{emb:α->D}(inv:Nat->Γ->Prop)(h0:inv 0 (clr js γ))(turn:∀(i:Nat) (hi:i<xs.length) γ',inv i γ'->g (s.sub (emb xs[i])) γ' λγ2=>body {R with nx:=λγ3=>inv (i+1) (clr js γ3),ct:=λγ3=>inv (i+1) (clr js γ3),bk:=R.nx} γ2)(done:∀γ',inv xs.length γ'->R.nx γ') :
  ForW js γ g body R (xs.map emb).length (λi=>s.sub ((xs.map emb).getD i .non)):=by
 refine⟨⟨inv,h0,λi γ' hi h=>?_,λγ' h=>?_⟩⟩
 ·rw[ZV]at hi;have t:=turn i hi γ' h;rw[←BM (f:=emb) hi]at t;exact t
 ·rw[ZV]at h;exact done γ' h
def UX{js:List Nat}{γ:Γ}{g:PTG}{body:PTS}{R:PEnds}{n:Nat}{item:Nat->S}(inv:Nat->Γ->Prop)(h0:inv 0 (clr js γ))(turn:∀(i:Nat) γ',i<n->inv i γ'->g (item i) γ' λγ2=>body {R with nx:=λγ3=>inv (i+1) (clr js γ3),ct:=λγ3=>inv (i+1) (clr js γ3),bk:=R.nx} γ2)(done:∀γ',inv n γ'->R.nx γ'):ForW js γ g body R n item:=⟨⟨inv,h0,turn,done⟩⟩
def BB{js:List Nat}{γ:Γ}{c:PTT}{body:PTS}{R:PEnds}(inv:Γ->Prop)(μ:Γ->Nat)(h0:inv (clr js γ))(turn:∀γ',inv γ'->c γ' (λb=>if b=true then body {R with nx:=λγ3=>inv (clr js γ3)/\μ (clr js γ3)<μ γ',ct:=λγ3=>inv (clr js γ3)/\μ (clr js γ3)<μ γ',bk:=R.nx} γ' else R.nx γ') (R.ex γ')):WhileW js γ c body R:=⟨⟨inv,μ,h0,turn⟩⟩
def Di{p q:PTS}{R:PEnds}{γ:Γ}(J:Γ->Prop)(h1:p {R with nx:=J} γ)(h2:∀γ',J γ'->q R γ'):JoinW p q R γ:=⟨⟨J,h1,h2⟩⟩
def Uy{α:Type}(c:α->Bool)(emb:α->D):∀ws:List α,ws.filterMap (λq=>if c q=true then some (emb q)else none)=(ws.filter c).map emb
 |[]=>rfl
 |q::r=>by
  by_cases h:c q=true
  ·rw[List.filterMap_cons_some (b:=emb q) (by rw[Ya h]),List.filter_cons_of_pos h,Ys,Uy c emb r]
  ·rw[List.filterMap_cons_none (by rw[ZZ h]),List.filter_cons_of_neg h,Uy c emb r]
def mapD{α:Type}(emb:α->D)(ws:List α):ws.filterMap (λq=>some (emb q))=ws.map emb:=by rw[Q4]
def Kh{α:Type}(f:α->D)(xs:List α)(lo hi:Option Int):cutD (xs.map f) lo hi=(cutD xs lo hi).map f:=by
 unfold cutD;rw[ZV,List.map_take,List.map_drop]
def Nt{α:Type}(xs:List α){n:Int}(h:0<=n):cutD xs none (some n)=xs.take n.toNat:=by
 unfold cutD;have e:n=(n.toNat:Int):=by omega
 rw[HT.D4,e,HT.CN,List.drop_zero];rw[Nat.sub_zero,YA];by_cases c:n.toNat<=xs.length
 ·rw[Nat.min_eq_left c]
 ·rw[Nat.min_eq_right (by omega),WT (Yc _),WT (by omega)]
def Dl{α:Type}(xs:List α){n:Int}(h:0<=n):cutD xs (some n) none=xs.drop n.toNat:=by
 unfold cutD;have e:n=(n.toNat:Int):=by omega
 rw[HT.D4,e,HT.CN,YA];by_cases c:n.toNat<=xs.length
 ·rw[Nat.min_eq_left c,WT (by rw[Q9];omega)]
 ·rw[Nat.min_eq_right (by omega),List.drop_of_length_le (Yc _),List.drop_of_length_le (by omega)];simp
def B0(K:Za):Sp:=λvs H Q _=>∃(a:Addr) (ns:List Int),vs=[.ref a]/\SqL K H a (ns.map V.int)/\∀H',Q (.bl true) H'
def CP:Pc:=λds R _=>∃ns:List Int,ds=[.scr ns]/\R (.sh (.bl true))
def Oe{vs:List V}{Q:VK}{Ec:XK}(h:B0 K vs H Q Ec):spOf mg CP K vs H Q Ec:=by
 obtain⟨a,ns,rfl,hS,q⟩:=h;refine⟨[.scr ns],λs=>s=.sh (.bl true),λ_=>False,.cons (.scr hS) .nil,⟨ns,rfl,rfl⟩,λs v H' e S1 tv=>?_,λ_ _ z=>z.elim⟩;subst e;cases tv
 exact q H'
end
section
variable {K:Za}{mg:Str->Option Value}{E:L2.St->XK}{H0 H H1 H':Hp}{B Z Z':Addr->Prop}{σ:L2.St}{γ:Γ}
def PL:D->Option V
 | .int i=>some (.int i) | .bl b=>some (.bl b) | .non=>some .non | .str x=>some (.str x)|_=>none
def vD:V->D
 | .int i=>.int i | .bl b=>.bl b | .str x=>.str x|_=>.non
def PU:V->Bool
 | .int _=>true | .bl _=>true | .str _=>true | .non=>true|_=>false
def Sj{v:V}(h:PU v=true):Rp K H (vD v) v:=by
 cases v with
 |int i=>exact .int i
 |bl b=>exact .bl b
 |str x=>exact .str x
 |non=>exact .non
 |_=>cases h
def Bv{d:D}{v u:V}(h:Rp K H d v)(e:PL d=some u):v=u:=by
 cases h with
 |int i=>cases e;rfl
 |bl b=>cases e;rfl
 |non=>cases e;rfl
 |str x=>cases e;rfl
 |_=>cases e
def keyD:D->Option Key
 | .int i=>some (.inl i) | .str x=>some (.inr x)|_=>none
def Kx:List D->Option (List Key)
 |[]=>some []
 |d::r=>match keyD d,Kx r with
  |some k,some ks=>some (k::ks)
  |_,_=>none
def Kp:D->Option (List Key)
 | .tup ds=>Kx ds
 |_=>none
def PN{d:D}{v:V}{k:Key}(h:Rp K H d v)(e:keyD d=some k):v=kV k:=by
 cases h with
 |int i=>cases e;rfl
 |str x=>cases e;rfl
 |_=>cases e
def AY:∀{ds:List D}{vs:List V}{ks:List Key},Rps K H ds vs->Kx ds=some ks->vs=ks.map kV
 |[],_,_,.nil,e=>by cases e;rfl
 |d::r,_,ks,.cons h t,e=>by
  unfold Kx at e;split at e
  ·rename_i k js e1 e2;cases e
   rw[PN h e1,AY t e2];rfl
  ·cases e
def TQ{d:D}{v:V}{ks:List Key}(h:Rp K H d v)(e:Kp d=some ks):∃b,v=.ref b/\H b=some (.tup (ks.map kV)):=by
 cases h with
 |tup h r=>
  rw[AY r e]at h;exact⟨_,rfl,h⟩
 |_=>cases e
def Rp.dK_inv {kvs:List (Key×V)}{v:V} (h:Rp K H (.dK kvs) v):∃a,v=.ref a/\H a=some (.dK kvs):=by
 cases h with
 |dK h=>exact⟨_,rfl,h⟩
def Rp.dT_inv {kvs:List (List Key×V)}{v:V} (h:Rp K H (.dT kvs) v):∃a,v=.ref a/\H a=some (.dT kvs):=by
 cases h with
 |dT h=>exact⟨_,rfl,h⟩
def E8:PTE:=λ_ R _=>R (.own (.dK []))
def HI:PTE:=λ_ R _=>R (.own (.dT []))
def R4:SndE K mg E Aa E8:=by
 intro H0 B H σ γ R X Q env p q _;intro l nl;exact q _ _ _ p (JP nl) ⟨l,rfl,(λ_ e=>e▸nl),Jw⟩
def IW:SndE K mg E A2 HI:=by
 intro H0 B H σ γ R X Q env p q _;intro l nl;exact q _ _ _ p (JP nl) ⟨l,rfl,(λ_ e=>e▸nl),Jw⟩
def FM:S->S->(S->Prop)->Prop:=λx y R=>match x.d with
 | .dK kvs=>∃k v,keyD y.d=some k/\valV kvs k=some v/\PU v=true/\R (.sh (vD v))
 | .dT kvs=>∃k v,Kp y.d=some k/\valV kvs k=some v/\PU v=true/\R (.sh (vD v))
 |_=>False
def PB{td ty:TE}{a b:PTE}(ha:SndE K mg E td a)(hb:SndE K mg E ty b):SndE K mg E (Cw td ty) (p2 a b FM):=by
 show SndE K mg E (tOp (λx y H Q=>∃a v,x=.ref a/\DGet H a y (some v)/\Q v H) td ty) _;refine se_2 ha hb λH0 H H2 Z x y v u R Q s0 s1 hm tx ty h q=>?_;have rx:=tx.rp s0;have ry:=ty.rp s0;unfold FM at h;split at h
 ·rename_i kvs e;rw[e]at rx;obtain⟨l,rfl,hl⟩:=rx.dK_inv;obtain⟨k,w,h1,h2,h3,h4⟩:=h;refine⟨l,w,rfl,?_,q _ _ H2 h4 (Same.refl _) (Sj h3)⟩;rw[PN ry h1,←h2];exact DGet.k hl
 ·rename_i kvs e;rw[e]at rx;obtain⟨l,rfl,hl⟩:=rx.dT_inv;obtain⟨k,w,h1,h2,h3,h4⟩:=h;obtain⟨b,rfl,hb⟩:=TQ ry h1;refine⟨l,w,rfl,?_,q _ _ H2 h4 (Same.refl _) (Sj h3)⟩;rw[←h2];exact DGet.t hl hb
 ·exact h.elim
def fDIn(neg:Bool):S->S->(S->Prop)->Prop:=λy x R=>match x.d with
 | .dK kvs=>∃k,keyD y.d=some k/\R (.sh (.bl (if neg then !(valV kvs k).isSome else(valV kvs k).isSome)))
 | .dT kvs=>∃k,Kp y.d=some k/\R (.sh (.bl (if neg then !(valV kvs k).isSome else(valV kvs k).isSome)))
 |_=>False
def RU{td ty:TE}{a b:PTE}(ha:SndE K mg E ty a)(hb:SndE K mg E td b):SndE K mg E (Dd ty td) (p2 a b (fDIn true)):=by
 show SndE K mg E (tOp (λy x H Q=>∃a o,x=.ref a/\DGet H a y o/\Q (.bl (!o.isSome)) H) ty td) _;refine se_2 ha hb λH0 H H2 Z y x u v R Q s0 s1 hm ty tx h q=>?_;have rx:=tx.rp s0;have ry:=ty.rp s0;unfold fDIn at h;split at h
 ·rename_i kvs e;rw[e]at rx;obtain⟨l,rfl,hl⟩:=rx.dK_inv;obtain⟨k,h1,h4⟩:=h;refine⟨l,_,rfl,?_,q _ _ H2 h4 (Same.refl _) (.bl _)⟩;rw[PN ry h1];exact DGet.k hl
 ·rename_i kvs e;rw[e]at rx;obtain⟨l,rfl,hl⟩:=rx.dT_inv;obtain⟨k,h1,h4⟩:=h;obtain⟨b,rfl,hb⟩:=TQ ry h1;exact⟨l,_,rfl,DGet.t hl hb,q _ _ H2 h4 (Same.refl _) (.bl _)⟩
 ·exact h.elim
def D9(i:Nat)(b a:PTE):PTS:=λR γ=>match γ[i]? with
 |some (some (.own (.dK kvs)))=>a γ (λs=>b γ (λy=>∃k u,keyD y.d=some k/\PL s.d=some u/\kvs.length<100000/\R.nx (γ.set i (some (.own (.dK (putK kvs k u)))))) (R.ex γ)) (R.ex γ)
 |some (some (.own (.dT kvs)))=>a γ (λs=>b γ (λy=>∃k u,Kp y.d=some k/\PL s.d=some u/\kvs.length<100000/\R.nx (γ.set i (some (.own (.dT (putK kvs k u)))))) (R.ex γ)) (R.ex γ)
 |_=>False
def Sr(i:Nat){ty tv:TE}{a b:PTE}(hb:SndE K mg E ty b)(ha:SndE K mg E tv a):SndS K mg E (Fq (tVar i) ty tv) (D9 i b a):=by
 intro H0 B H σ γ R D hB env h e;have hx:∀c H',R.ex γ c->Same H H'->XE mg (E σ) c H':=λc H' hc S'=>e.ex σ γ c H' hc (env.grow S') (Fr.grow S');unfold D9 at h;split at h
 ·rename_i kvs hi;obtain⟨v,hv,l,rfl,hb0,hl⟩:=env.slot i _ hi;refine ha H0 B H σ γ _ _ _ env h (λs u H1 h1 S1 t1=>⟨_,hv,?_⟩) hx;have env1:=env.grow S1;refine hb H0 B H1 σ γ _ _ _ env1 h1 (λy w H2 h2 S2 t2=>?_) λc H' hc S'=>hx c H' hc (S1.trans S');obtain⟨k,z,k1,k2,k3,k4⟩:=h2;have env2:=env1.grow S2;have eu:=Bv (t1.rp env1.same) k2;have ew:=PN (t2.rp env2.same) k1;subst eu ew;refine⟨l,_,rfl,DPut.k (S2 _ _ (S1 _ _ hl)) (WY k3 (by decide)),?_⟩;obtain⟨e2,f2⟩:=env2.mutate (es:=.dK (putK kvs k u)) (us:=.dK (putK kvs k u)) hi hv trivial λF H' SF hF=>hF;exact e.nx _ _ _ k4 e2 ((Fr.grow (S1.trans S2)).trans f2)
 ·rename_i kvs hi;obtain⟨v,hv,l,rfl,hb0,hl⟩:=env.slot i _ hi;refine ha H0 B H σ γ _ _ _ env h (λs u H1 h1 S1 t1=>⟨_,hv,?_⟩) hx;have env1:=env.grow S1;refine hb H0 B H1 σ γ _ _ _ env1 h1 (λy w H2 h2 S2 t2=>?_) λc H' hc S'=>hx c H' hc (S1.trans S');obtain⟨k,z,k1,k2,k3,k4⟩:=h2;have env2:=env1.grow S2;have eu:=Bv (t1.rp env1.same) k2;obtain⟨b',rfl,hb'⟩:=TQ (t2.rp env2.same) k1;subst eu;refine⟨l,_,rfl,DPut.t (S2 _ _ (S1 _ _ hl)) hb' (WY k3 (by decide)),?_⟩;obtain⟨e2,f2⟩:=env2.mutate (es:=.dT (putK kvs k u)) (us:=.dT (putK kvs k u)) hi hv trivial λF H' SF hF=>hF;exact e.nx _ _ _ k4 e2 ((Fr.grow (S1.trans S2)).trans f2)
 ·exact h.elim
def Lx(a:PTE):PTS:=λR γ=>a γ (λs=>match s.shd with|some d=>R.rt (.sh d)|none=>False) (R.ex γ)
def SY{te:TE}{a:PTE}(ha:SndE K mg E te a):SndS K mg E (tRet te) (Lx a):=by
 intro H0 B H σ γ R D hB env h e;refine ha H0 B H σ γ _ _ _ env h (λs v H1 h1 S1 t1=>?_) λc H' hc S'=>e.ex σ γ c H' hc (env.grow S') (Fr.grow S');split at h1
 ·rename_i d hd;have r:=t1.shd (env.grow S1).same env.zm S1 hd;exact e.rt (.sh d) v H1 h1 (env.same.trans S1) (Rp.mono (Jy (Same.refl _) λb _ _ z y=>z (.inl y)) r)
 ·exact h1.elim
def Ck(i:Nat)(γ:Γ):Nat:=match γ[i]? with
 |some (some (.own (.lst ds)))=>ds.length
 |_=>0
def Pv{α:Type}(d:α)(ds:List α):atI (d::ds) 0=some d:=T1 (by decide) rfl
def em(l:Int)(p:List Int):D:=.lst ((l::p).map D.int)
def NI(l:Int)(p:List Int):atI ((l::p).map D.int) (-1)=some (.int (Jq l p)):=by
 refine Uv ?_;unfold atI ixN;rw[ZZ (by omega),Ya (by rw[Y1];omega)];have e:(-1+((l::p).length:Int)).toNat=p.length:=by rw[Y1];omega
 rw[e];exact TC l p
end
section
variable {K:Za}{mg:Str->Option Value}{E:L2.St->XK}{H0 H H1 H':Hp}{B Z Z':Addr->Prop}{σ:L2.St}{γ:Γ}
def AG:List S->(S->Prop)->Prop
 |[s],R=>∃ns:List Int,s.d=.lst (ns.map D.int)/\R (.sh (.int ns.sum))
 |_,_=>False
def D3{ta:TA}{r:PTA}(hr:SndA K mg E ta r):SndE K mg E (tCB (λxs H Q=>∃(p:Addr) (ns:List Int),xs=[.ref p]/\SqL K H p (ns.map V.int)/\Q (.int ns.sum) H) ta) (pCB AG r):=by
 refine Xa hr λH0 H H1 Z ss vs R Q s0 s1 hm tv h q=>?_;unfold AG at h;split at h
 ·obtain⟨v,rfl,t1⟩:=tv.one_inv;obtain⟨ns,e,hR⟩:=h;have rv:=t1.rp s0;rw[e]at rv;obtain⟨a,rfl,ha⟩:=rv.ints_inv;exact⟨a,ns,rfl,SqL.of ha,q _ _ H1 hR (Same.refl _) (.int _)⟩
 ·exact h.elim
def BH:List S->(S->Prop)->Prop
 |[s],R=>∃ns:List Int,s.d=.lst (ns.map D.int)/\0<ns.length/\∀m,m∈ns->(∀a∈ns,m<=a)->R (.sh (.int m))
 |_,_=>False
def G4{ta:TA}{r:PTA}(hr:SndA K mg E ta r):SndE K mg E (tCB (λxs H Q=>∃(p:Addr) (ns:List Int),xs=[.ref p]/\SqL K H p (ns.map V.int)/\0<ns.length/\∀M,M∈ns->(∀a∈ns,M<=a)->Q (.int M) H) ta) (pCB BH r):=by
 refine Xa hr λH0 H H1 Z ss vs R Q s0 s1 hm tv h q=>?_;unfold BH at h;split at h
 ·obtain⟨v,rfl,t1⟩:=tv.one_inv;obtain⟨ns,e,hne,hR⟩:=h;have rv:=t1.rp s0;rw[e]at rv;obtain⟨a,rfl,ha⟩:=rv.ints_inv;exact⟨a,ns,rfl,SqL.of ha,hne,λm h1 h2=>q _ _ H1 (hR m h1 h2) (Same.refl _) (.int _)⟩
 ·exact h.elim
def AS:List S->(S->Prop)->Prop
 |[s],R=>∃bs:List Bool,s.d=.lst (bs.map D.bl)/\R (.sh (.bl (bs.any id)))
 |_,_=>False
def Rps.bls {K:Za}{H:Hp}:∀{js:List Bool}{vs:List V},Rps K H (js.map D.bl) vs->vs=js.map V.bl
 |[],_,.nil=>rfl
 |j::r,_,.cons h t=>by rw[Rp.bl_inv h,Rps.bls t];rfl
def A6{ta:TA}{r:PTA}(hr:SndA K mg E ta r):SndE K mg E (tCB (λxs H Q=>∃(p:Addr) (bs:List Bool),xs=[.ref p]/\SqL K H p (bs.map V.bl)/\Q (.bl (bs.any id)) H) ta) (pCB AS r):=by
 refine Xa hr λH0 H H1 Z ss vs R Q s0 s1 hm tv h q=>?_;unfold AS at h;split at h
 ·obtain⟨v,rfl,t1⟩:=tv.one_inv;obtain⟨bs,e,hR⟩:=h;have rv:=t1.rp s0;rw[e]at rv;obtain⟨a,us,rfl,ha,r1⟩:=rv.lst_inv;rw[r1.bls]at ha;exact⟨a,bs,rfl,SqL.of ha,q _ _ H1 hR (Same.refl _) (.bl _)⟩
 ·exact h.elim
def fEqE(neg:Bool):S->S->(S->Prop)->Prop:=λx y R=>match x.d,y.d with
 | .lst ds,.lst []=>R (.sh (.bl (if neg then !ds.isEmpty else ds.isEmpty)))
 |_,_=>False
def IQ{neg:Bool}{ta tb:TE}{a b:PTE}(ha:SndE K mg E ta a)(hb:SndE K mg E tb b):SndE K mg E (tOp (rEqE K neg) ta tb) (p2 a b (fEqE neg)):=by
 refine se_2 ha hb λH0 H H2 Z x y v u R Q s0 s1 hm tx ty h q=>?_;have rx:=tx.rp s0;have ry:=ty.rp s0;unfold fEqE at h;split at h
 ·rename_i ds e1 e2;rw[e1]at rx;rw[e2]at ry;obtain⟨l,us,rfl,hl,r⟩:=rx.lst_inv;obtain⟨m,ws,rfl,hm',r'⟩:=ry.lst_inv;cases r'
  refine⟨l,m,us,rfl,rfl,SqL.of hl,SqL.of hm',?_⟩;rw[NX r.len];exact q _ _ H2 h (Same.refl _) (.bl _)
 ·exact h.elim
def BK(x y:Int){k:Int}(h:k=0\/k=1):atI [D.int x,D.int y] k=some (.int (if k=0 then x else y)):=by
 rcases h with rfl|rfl
 ·rfl
 ·rfl
def EH{js:List Nat}{γ:Γ}{g:PTG}{body:PTS}{s:S}{R:PEnds}{ds:List D}(P:D->Prop)(hP:∀d∈ds,P d)(inv:Nat->Γ->Prop)(h0:inv 0 (clr js γ))(turn:∀(i:Nat) d γ',i<ds.length->P d->inv i γ'->g (s.sub d) γ' λγ2=>body {R with nx:=λγ3=>inv (i+1) (clr js γ3),ct:=λγ3=>inv (i+1) (clr js γ3),bk:=R.nx} γ2)(done:∀γ',inv ds.length γ'->R.nx γ'):ForW js γ g body R ds.length (λi=>s.sub (ds.getD i .non)):=by
 refine⟨⟨inv,h0,λi γ' hi h=>turn i _ γ' hi (hP _ ?_) h,done⟩⟩;rw[Yp,ZU hi];exact Yr hi
def Pe{α:Type}(xs:List α)(lo hi:Option Int):(cutD xs lo hi).Sublist xs:=(WU _ _).trans (List.drop_sublist _ _)
def Ic{R:S->Prop}{s:S}{a:Addr}{ds es:List D}(h:s=.own ds\/(ds=es/\s=.bor (.loc a (.lst es))))(k:R (.own ds)):AliasW R s (.bor (.loc a (.lst es))) (.own es):=by
 rcases h with rfl|⟨rfl,rfl⟩
 ·exact⟨.inr k⟩
 ·exact⟨.inl ⟨rfl,k⟩⟩
end
section
variable {K:Za}{mg:Str->Option Value}{E:L2.St->XK}{H0 H H1 H':Hp}{B Z Z':Addr->Prop}{σ:L2.St}{γ:Γ}
def EnvR.gone (Ev:EnvR K H0 B H σ γ) (i:Nat):EnvR K H0 B H (σ.set i none) (γ.set i none)/\Fr B H σ γ H (σ.set i none) (γ.set i none):=by
 obtain⟨e1,f1⟩:=Ev.drop i
 have got:∀(j:Nat) (s:S),(γ.set i none)[j]?=some (some s)->j≠i:=λj s h=>by
  rcases JM h with⟨_,e,_⟩|⟨n,_⟩
  ·cases e
  ·exact n
 have hz:∀b,zof B (γ.set i none) (σ.set i none) b↔zof B (γ.set i none) σ b:=λb=>by
  constructor
  ·rintro(z|⟨j,ds,x,z1,z2,z3⟩)
   ·exact .inl z
   ·rw[UA (got j _ z1)]at z2;exact .inr ⟨j,ds,x,z1,z2,z3⟩
  ·rintro(z|⟨j,ds,x,z1,z2,z3⟩)
   ·exact .inl z
   ·exact .inr ⟨j,ds,x,z1,by rw[UA (got j _ z1)];exact z2,z3⟩
 have ez:zof B (γ.set i none) (σ.set i none)=zof B (γ.set i none) σ:=funext λb=>propext (hz b);refine⟨⟨e1.same,by rw[Wo];exact e1.len,e1.bm,λk j a a' ds es b h1 h2 h3 h4 h5 h6=>?_,λj s h=>?_⟩,λb o h z=>?_⟩
 ·rw[UA (got k _ h1)]at h3;rw[UA (got j _ h2)]at h4;exact e1.own k j a a' ds es b h1 h2 h3 h4 h5 h6
 ·obtain⟨v,h1,h2⟩:=e1.slot j s h;rw[ez];exact⟨v,by rw[UA (got j _ h)];exact h1,h2⟩
 ·rw[ez];exact f1 b o h z
end
end Pu
namespace PySem
open Sem (wp)
structure VPairs {K:Type} (es:List DictEntry) (kvs:List (K×Value)):Prop where
 length:es.length=kvs.length
 get?:∀{i:Nat} {e:DictEntry} {k:K} {v:Value},es[i]?=some e->kvs[i]?=some (k,v)->True/\e.val=v
def VDict{K:Type}(h:Heap)(a:Addr)(kvs:List (K×Value))(ep:Nat):Prop:=
 ∃o es,h.get? a=some o/\o.ExactDict/\o.data=.dict es ep/\True/\VPairs es.toList kvs/\True
section
variable {prog:Program}{w:World}{K:Type}{A:Around}{E:Value->Shared->Prop}{s:Shared}
def RH(d:Addr)(hd:(d==sysModules)=false) :
  MeetsIn prog w (Builtin.«dict.values» ⟨[.ref d],[]⟩) (λ_ R s=>s.TypeIs (.ref d) "dict"/\
   R (.ok (.ret (.ref s.heap.objs.size))) {s with heap:=s.heap.push {cls:=.type "dict_values",data:=.fields #[.ref d]}}):=
 .of_wp λA R s ⟨hm,h⟩=>by
  refine ZT ?_;unfold Builtin.Dict.noArgs;refine ZT (wpAny_notOrdered_dict hm ?_);show wpAny _ _ (pure d) _ _ s;refine ZW ?_;show wpAny _ _ (Builtin.Dict.showsAll d >>= _) _ _ s;unfold Builtin.Dict.showsAll;rw[ZZ (by rw[hd];exact Yj)];refine ZT (ZW ?_);exact ZT (YH (ZW ⟨_,rfl,h⟩))
def M7{v d:Addr}{kvs:List (K×Value)}{ep:Nat}{Q:Value->Shared->Prop}(hv:s.heap.IsValuesView v d)(hm:VDict s.heap d kvs ep)(hQ:Q (.ref s.heap.objs.size) {s with heap:=s.heap.push {cls:=.type "dict_valueiterator",data:=.fields #[.ref d,.int 0 0,.int kvs.length 0,.int ep 0]}}) :
  wpAny (model prog w) A (pyIter (.ref v)) Q E s:=by
 obtain⟨ov,hov,hcv,hdv⟩:=id hv;obtain⟨o,es,ho,hc,hdat,hk,hp,hn⟩:=id hm;refine wpAny_pyIter_slot hv.typeIs F.slot_dict_values_iter (Wy F.slot_dict_values_iter hv.typeIs F.entry_dict_values_iter ?_ (F.args_dict_values_iter_1 _));unfold Builtin.«dict_values.__iter__»;refine ZT (ZW ?_);refine ZT ?_;unfold Builtin.Dict_items.dictOf;refine ZT (QW hov hdv (x:=.ref d) rfl (ZW ?_));refine ZT ?_;unfold Builtin.Dict_items.newIterator;refine ZT (wpAny_dictEntries ho hdat ?_);refine ZT (wpAny_dictEpoch ho hdat ?_);have hsz:es.size=kvs.length:=by rw[←hp.length];simp
 have hown:Builtin.Dict_items.ownsTuple "dict_valueiterator"=false:=by decide
 simp only[hown,Qo,QA];refine YH (ZW ⟨_,rfl, "dict_valueiterator",_,⟨_,Yi _ rfl,rfl⟩,F.slot_dict_valueiterator_next.lookup,?_⟩);simpa [rawInt,hsz]using hQ
def Rb{it d:Addr}{i ep:Nat}{kvs:List (K×Value)}{k:K}{v:Value}{Q:Option Value->Shared->Prop}(hit:s.heap.IsValIter it d i kvs.length ep)(hm:VDict s.heap d kvs ep)(hx:kvs[i]?=some (k,v))(hQ:∀h',h'.IsValIter it d (i+1) kvs.length ep->Heap.SameBut it s.heap h'->Q (some v) {s with heap:=h'}) :
  wpAny (model prog w) A (pyNext (.ref it)) Q E s:=by
 obtain⟨o,ho,hc,hd⟩:=id hit;obtain⟨od,es,hod,hcd,hdd,hk,hp,hn⟩:=id hm;unfold pyNext
 refine ZT (wpAny_attempt (Qv (name:=Str.ofString "__next__") hit.typeIs Wp
  (Wy Wp hit.typeIs F.entry_dict_valueiterator_next ?_ (F.args_dict_valueiterator_next_1 _))))
 refine ZT (ZW ?_);refine ZT ?_;refine ZT ?_
 first|refine ZT (Wt hit.typeIs (ZW ?_))|refine ZT (WH hit.typeIs (ZW ?_))
 refine ZT (wpAny_fieldsOf ho hd ?_);have hown:Builtin.Dict_items.ownsTuple "dict_valueiterator"=false:=by decide
 simp only[hown,Qo,QA];show wpAny _ _ (if (Value.ref d==Value.none)=true then _ else _) _ _ s;rw[ZZ (show ¬((Value.ref d==Value.none)=true)from Yj)]
 refine ZT (ZW ?_);refine ZT (wpAny_dictEntries hod hdd ?_);have hsz:es.size=kvs.length:=by rw[←hp.length];simp
 rw[ZZ (by rw[hsz];simp)];refine ZT (ZW ?_);refine ZT (wpAny_dictEpoch hod hdd ?_);rw[ZZ (by simp)];refine ZW ?_
 have hlt:i<kvs.length:=by
  rcases Nat.lt_or_ge i kvs.length with h|h
  ·exact h
  ·simp[WZ h]at hx
 have hlt':i<es.size:=by rw[hsz];exact hlt
 have hval:es[i].val=v:=(hp.get? (e:=es[i]) (by simp[hlt']) hx).2;simp only[show ¬((i:Int)<0)from by omega,QA,YA,Wa hlt']
 refine ZT ?_
 first|refine ZT (Wt hit.typeIs (ZW ?_))|refine ZT (WH hit.typeIs (ZW ?_))
 refine ZT (QC hit.typeIs ?_);show wpAny _ _ (setField (.ref it) 1 (rawInt ((i:Int)+1)) >>= _) _ _ s;refine ZT (Wk ho hd (by simp) ?_)
 have hit':(s.heap.update it (Obj.mapFields (·.setIfInBounds 1 (rawInt ((i:Int)+1))))).IsValIter it d (i+1) kvs.length ep:=
  ⟨_,YK _ ho (Wl (YR hd _)),(Qz ..).trans hc,by rw[YR hd];simp[rawInt]⟩
 refine ZT (Ws ?_);refine ZT (QC (s:={s with heap:=s.heap.update it (Obj.mapFields (·.setIfInBounds 1 (rawInt ((i:Int)+1))))}) hit'.typeIs ?_)
 refine ZT (QC (s:={s with heap:=s.heap.update it (Obj.mapFields (·.setIfInBounds 1 (rawInt ((i:Int)+1))))}) hit'.typeIs ?_)
 show wpAny _ _ (pure es[i].val) _ _ _;exact ZW (ZW ⟨_,rfl,ZW (hval▸hQ _ hit' (YU ..))⟩)
def IH{it d:Addr}{i ep:Nat}{kvs:List (K×Value)}{Q:Option Value->Shared->Prop}(hh:A.handled=none)(hit:s.heap.IsValIter it d i kvs.length ep)(hm:VDict s.heap d kvs ep)(hx:kvs[i]?=none)(hQ:∀h',Heap.ExtBut it s.heap h'->Q none {s with heap:=h'}):wpAny (model prog w) A (pyNext (.ref it)) Q E s:=by
 obtain⟨o,ho,hc,hd⟩:=id hit;obtain⟨od,es,hod,hcd,hdd,hk,hp,hn⟩:=id hm;unfold pyNext
 refine ZT (wpAny_attempt (Qv (name:=Str.ofString "__next__") hit.typeIs Wp
  (Wy Wp hit.typeIs F.entry_dict_valueiterator_next ?_ (F.args_dict_valueiterator_next_1 _))))
 refine ZT (ZW ?_);refine ZT ?_;refine ZT ?_
 first|refine ZT (Wt hit.typeIs (ZW ?_))|refine ZT (WH hit.typeIs (ZW ?_))
 refine ZT (wpAny_fieldsOf ho hd ?_);have hown:Builtin.Dict_items.ownsTuple "dict_valueiterator"=false:=by decide
 simp only[hown,Qo,QA];show wpAny _ _ (if (Value.ref d==Value.none)=true then _ else _) _ _ s;rw[ZZ (show ¬((Value.ref d==Value.none)=true)from Yj)]
 refine ZT (ZW ?_);refine ZT (wpAny_dictEntries hod hdd ?_);have hsz:es.size=kvs.length:=by rw[←hp.length];simp
 rw[ZZ (by rw[hsz];simp)];refine ZT (ZW ?_);refine ZT (wpAny_dictEpoch hod hdd ?_);rw[ZZ (by simp)];refine ZW ?_;have hge:es.size<=i:=by rw[hsz];simpa using hx
 simp only[show ¬((i:Int)<0)from by omega,QA,YA,Q3 hge]
 refine ZT ?_
 first|refine ZT (Wt hit.typeIs (ZW ?_))|refine ZT (WH hit.typeIs (ZW ?_))
 show wpAny _ _ (setField (.ref it) 0 .none >>= _) _ _ s;refine ZT (Wk ho hd (by simp) ?_);show wpAny _ _ (newExc (.type "StopIteration") [] >>= _) _ _ _;refine ZT ?_;simp only[newExc,newTuple];refine ZT (YH ?_ (by size_fits));refine ZT (m:=firstArgMember _ _) (wpAny_of_eq (a:=Value.none) (by first|rfl|(simp only[firstArgMember];rfl)) ?_)
 refine YH ?_ (by size_fits);simp only[raiseNew];refine ZT (wpAny_handled ?_);rw[show A.in1.handled=none from hh]
 refine ZT (ZW (wpAny_throw ?_));refine ZT (wpAny_isInstance (T:="StopIteration") (b:=true) ⟨_,Yi _ rfl,rfl⟩ isSubtype_stop ?_);exact ZW (hQ _ (((YU ..).extBut.push _).push _))
end
end PySem
namespace Own
open PySem PySem.Spec PyProof.Rows L2
def Dc(K:Za):R2:=λx y H Q=>∃a b xs ys,x=.ref a/\y=.ref b/\SqT K H a xs/\SqT K H b ys/\xs.length+ys.length<=sizeLine/\
 (xs=[]->Q (.ref b) H)/\(xs≠[]->ys=[]->Q (.ref a) H)/\(xs≠[]->ys≠[]->∀p,H p=none->Q (.ref p) (upd H p (.tup (xs++ys))))
section
variable {X:Cx}{K:Za}
def GJ(hK:X.K=K:=by rfl):OpR X (binaryOp .Add) (Dc K):=by
 subst hK;intro pins s σ H x y v u Q I rx ry h;obtain⟨a,b,xs,ys,rfl,rfl,ha,hb,hz,q0,q1,q2⟩:=h;cases rx
 cases ry
 by_cases hx:xs=[]
 ·obtain⟨its,r1,p1,_⟩:=I.tuple ha;obtain⟨its2,r2,p2,_⟩:=I.tuple hb;have e:its=[]:=r1.nil_iff.mpr hx;obtain⟨⟨cls,dd,data,sl⟩,ho,hc,n,hd⟩:=id p1;obtain⟨⟨cls2,dd2,data2,sl2⟩,ho2,hc2,n2,hd2⟩:=id p2;simp only at hc hd hc2 hd2;subst hc hd hc2 hd2
  exact concat_meets ⟨_,ho,rfl⟩ ⟨_,ho2,rfl⟩ noFill_tuple_add seq_tuple_add Q2 Qu (Qm _ _)
   (tuple_addW0 a b its.toArray its2.toArray n n2 dd dd2 sl sl2 (by simp[e])) ⟨ho,ho2,⟨.ref b,H,I,rfl,q0 hx⟩⟩
 ·exact GO pins s σ H (.ref a) (.ref b) _ _ Q I rfl rfl ⟨a,b,xs,ys,rfl,rfl,ha,hb,hx,hz,q1 hx,q2 hx⟩
def HM{b:Addr}{x:V}{ws:List (Value×Value)}(h:VV [(.ref b,x)] ws):∃r,ws=[(.ref b,r)]/\RelV x r:=by
 cases h with
 |cons h t=>
  cases t
  rename_i y;obtain⟨u,r⟩:=y;obtain⟨h1,h2⟩:=h;cases (show u=Value.ref b from h1)
  exact⟨r,rfl,h2⟩
def A1(tk tv:TE):TE:=λσ H Q=>∀p,H p=none->tk σ (upd H p (.dT [])) λy H1=>tv σ H1 λx H2=>H2 p=some (.dT [])/\∃b ks,y=.ref b/\H2 b=some (.tup (ks.map kV))/\Q (.ref p) (upd H2 p (.dT [(ks,x)]))
def M4{k v:Expr}{tk tv:TE}{pos:Pos}(hu:X.A.units+1<cLine)(hk:PE X k tk)(hv:PE X v tv):PE X (.Dict [some k] [v] pos) (A1 tk tv):=by
 intro pins s σ H Q I q;have hn:=I.hok.fresh (Yc s.heap.objs.size);have I1:=I.laid (a:=s.heap.objs.size) (o:=.dT []) (h':=s.heap.push {cls:=.type "dict",data:=.dict #[]}) (t':=s.toks) (λ_ _ q=>ZY _ q) (Yc _) (CU s.heap I.big)
 refine wpAny_Dict_any rfl rfl (by simp) (by simp) (thn ((Gb hk hv Iu) pins _ σ _ (λps H2=>match ps with
  |[(y,x)]=>H2 s.heap.objs.size=some (.dT [])/\∃b ks,y=.ref b/\H2 b=some (.tup (ks.map kV))/\Q (.ref s.heap.objs.size) (upd H2 s.heap.objs.size (.dT [(ks,x)]))
  |_=>False) I1 (q _ hn)) λws s2 ⟨ps,H2,I2,rel,h2⟩=>?_)
 split at h2
 ·rename_i y x;obtain⟨e,b,ks,ey,eb,q2⟩:=h2;subst ey;obtain⟨wv,ew,rv⟩:=HM rel;subst ew;obtain⟨z,hd,xs,rel',dd⟩:=Ti I2.hok e;cases rel'
  unfold storeAll;rw[QJ];refine ZT (ZT (wpAny_dictSet_heap (hsz:=We _) (show(tupleKind _).room X.A from Nat.lt_of_succ_lt hu) (Pp I2.hok eb) dd λh' dd' hs=>ZW ?_))
  dsimp only
  rw[List.forIn_nil];refine ZW ?_;obtain⟨qo,es,ep,hq,h2,h3,h4,_,h5⟩:=dd';refine⟨.ref s.heap.objs.size,_,T4 (ob:=.dT [(ks,x)]) I2 (by rw[e];exact True.intro) hs ⟨qo,hq⟩ ⟨(by show 1<=sizeLine;decide),hd,[(ks,b,wv)],?_,qo,es,ep,hq,h2,h3,h4,h5⟩,rfl,q2⟩;refine .cons ⟨rfl,?_,rv⟩ .nil;rw[Jn (Bf eb e (λz=>nomatch z))];exact eb
 ·exact h2.elim
end
section
variable {prog:Program}{w:World}{A:Around}{K:Type}{d r:Addr}{kvs:List (K×Value)}{ep:Nat}{h h':Heap}
def VDict.at (x:VDict h d kvs ep) (e:∀o,h.get? d=some o->h'.get? d=some o):VDict h' d kvs ep:=let ⟨o,es,ho,r⟩:=x;⟨o,es,e _ ho,r⟩
def VDict.lt (x:VDict h d kvs ep):d<h.objs.size:=let ⟨_,_,ho,_⟩:=x;Yd ho
def Gw(hh:A.handled=none)(I d:Addr)(hne:d≠I)(kvs:List (K×Value))(ep:Nat) :
  Walks prog w A I [I,d] [I] kvs.length (λi v=>∃k,kvs[i]?=some (k,v)) (λi h=>h.IsValIter I d i kvs.length ep/\VDict h d kvs ep) where
 sub:=λb hb=>by simp at hb;simp[hb]
 frame:=λ_ _ _ st hk=>⟨st.1.at λo e=>hk I (by simp) o e,VDict.at st.2 λo e=>hk d (by simp) o e⟩
 item:=λi s Q E hi st hQ=>by
  refine Rb (k:=(kvs[i]).1) (v:=(kvs[i]).2) st.1 st.2 (by simp[hi]) λh' hit' hs'=>?_;exact hQ _ h' s.toks ⟨(kvs[i]).1,by simp[hi]⟩ ⟨hit',VDict.at st.2 λo e=>hs'.extBut d o hne e⟩ λb o hb e=>hs'.extBut b o (λh=>hb (by simp[h])) e
 done:=λs Q E st hQ=>IH hh st.1 st.2 (by simp) λh' he'=>hQ h' s.toks λb o hb e=>he' b o (λh=>hb (by simp[h])) e
 self:=λ_ _ _ _ st hQ=>wpAny_pyIter_valiter st.1 hQ
def Rk:PySem.W.KdlSrc prog w "dict_values" r d kvs.length (λi v=>∃k,kvs[i]?=some (k,v)) (λh=>h.IsValuesView r d/\VDict h d kvs ep) where
 type:=λ_ hm=>hm.1.typeIs
 there:=λ_ hm=>⟨let ⟨_,ho,_⟩:=hm.1;Yd ho,VDict.lt hm.2⟩
 keep:=λ_ _ hm hk=>⟨let ⟨o,ho,x⟩:=hm.1;⟨o,hk r (.inl rfl) o ho,x⟩,VDict.at hm.2 λo e=>hk d (.inr rfl) o e⟩
 notList:=by decide
 notTuple:=by decide
 hint:=λ_ _ _ _ hm hq=>PySem.W.kdl_hint_values hm.1.typeIs hq
 iter:=λ_ _ hh hm=>⟨_,_,(λ_ _ hq=>M7 hm.1 hm.2 hq),Gw hh _ d (Yy (VDict.lt hm.2)) kvs ep,⟨⟨_,Yi _ rfl,rfl,rfl⟩,VDict.at hm.2 λo e=>ZY _ e⟩⟩
end
def KR(v d:Addr):HO:=.ext λh=>h.IsValuesView v d
def Sf:V->List V->Hp->VK->Prop:=λx vs H Q=>∃d kvs,x=.ref d/\vs=[]/\H d=some (.dT kvs)/\∀v,H v=none->Q (.ref v) (upd H v (KR v d))
section
variable {X:Cx}
def Ro:MtR X "dict.values" Sf:=by
 intro pins s σ H x xs v us Q I rx rv h;obtain⟨d,kvs,rfl,rfl,hd,q⟩:=h;cases rx
 have hus:=rv.zero;subst hus;obtain⟨z,lo,xs,rel,dd⟩:=Ti I.hok hd;obtain⟨o,es,ep,ho,hx,_⟩:=id dd;refine call_meetsIn PySem.F.slot_dict_values ⟨o,ho,hx.1⟩ PySem.F.entry_dict_values (PySem.F.args_dict_values_1 _) (RH d lo) ⟨⟨o,ho,hx.1⟩,?_⟩;refine⟨.ref s.heap.objs.size,_,I.laid (a:=s.heap.objs.size) (o:=KR s.heap.objs.size d) (t':=s.toks) (λ_ _ q=>ZY _ q) (Yc _) ⟨⟨_,Yi _ rfl,rfl,rfl⟩,⟨_,Yi _ rfl⟩,λh1 h2 ⟨o,ho,r⟩ e=>⟨o,e o ho,r⟩⟩,rfl,q _ (I.hok.fresh (Yc _))⟩
def IY{K:Za}{o:Expr}{to:TE}{name:Str}{apos cpos:Pos}(ho:PE X o to)(hK:X.K=K:=by rfl)(hn:name = "values":=by rfl)(hbase:attributeBase o name X.env (eval o X.env)=eval o X.env:=by rfl)(hline:(apos.endLine==cpos.line)=true:=by rfl):PE X (.Call (.Attribute o name apos) [] [] cpos) (tBM0 K "dict" Sf to):=by
 subst hK hn;exact Lw PySem.F.plainAttrs_dict PySem.F.slot_dict_values PySem.F.type_dict_values Ro ho hbase hline
def NS{H:Hp}:∀{kvs:List (List Key×V)}{xs:List (List Key×Addr×Value)},KT H kvs xs->Vals (kvs.map (·.2)) (xs.map (·.2.2))
 |_,_,.nil=>.nil
 |_,_,.cons h r=>.cons h.2.2 (NS r)
def ML(hc:X.calm=true):Uh X (.type "list") (λxs H Q=>∃(v d:Addr) (kvs:List (List Key×V)),xs=[.ref v]/\H v=some (KR v d)/\H d=some (.dT kvs)/\∀l,H l=none->Q (.ref l) (upd H l (.lst (kvs.map (·.2))))):=by
 intro pins s σ H xs us Q I rv h;obtain⟨v,d,kvs,rfl,hv,hd,q⟩:=h;obtain⟨u,rfl,ru⟩:=rv.one;obtain rfl:u=Value.ref v:=ru;obtain⟨z,lo,xs,rel,dd⟩:=Ti I.hok hd;obtain⟨o,es,ep,ho,hx,hdat,he,hk,hn⟩:=id dd;have view:s.heap.IsValuesView v d:=(I.hok v _ hv).1;have hl:xs.length=kvs.length:=by simpa using(NS rel).length.symm
 have vd:VDict s.heap d (xs.map λx=>((),x.2.2)) ep:=by
  refine⟨o,es,ho,hx,hdat,trivial,⟨by rw[he,ZV,ZV],λ{i e k v} h1 h2=>⟨trivial,?_⟩⟩,trivial⟩;rw[he,Ye]at h1;rw[Ye]at h2;cases hi:xs[i]? with
  |none=>rw[hi]at h1;cases h1
  |some x=>
   rw[hi]at h1 h2;cases h1
   cases h2
   rfl
 refine PySem.W.kdl_call Rk (I.ok.hd hc) ⟨view,vd⟩ (by rw[ZV];omega) λh' tk acc' c' hk hD hacc=>?_;refine⟨.ref s.heap.objs.size,upd H s.heap.objs.size (.lst (kvs.map (·.2))),?_,rfl,q _ (I.hok.fresh (Yc _))⟩;have ev:=PySem.W.kdl_vals_eq (kvs:=xs.map λx=>((),x.2.2)) acc'.toList (by rw[YE];exact hacc.1) λj u hu=>hacc.2 j u (by rw[←hu,Wb]);refine I.laid (t':=tk) hk (Yc _) ⟨by rw[ZV];exact z,acc'.toList,c',?_,by simpa using hD⟩;rw[ev,YL];exact NS rel
end
end Own
namespace Pu
open PySem PySem.Spec PyProof.Rows L2 Own M
section
variable {K:Za}{mg:Str->Option Value}{E:L2.St->XK}{H0 H H1 H':Hp}{B Z Z':Addr->Prop}{σ:L2.St}{γ:Γ}
def tupD:Option D->Option (List D)
 |some (.tup ds)=>some ds|_=>none
def Bj{o:Option D}{ds:List D}(h:tupD o=some ds):o=some (.tup ds):=by
 unfold tupD at h;split at h
 ·cases h;rfl
 ·cases h
def RO:S->S->(S->Prop)->Prop:=λx y R=>∃ds es,tupD x.shd=some ds/\tupD y.shd=some es/\ds.length+es.length<=100000/\R (.sh (.tup (ds++es)))
def EL{ta tb:TE}{a b:PTE}(ha:SndE K mg E ta a)(hb:SndE K mg E tb b):SndE K mg E (tOp (Dc K) ta tb) (p2 a b RO):=by
 refine se_2 ha hb λH0 H H2 Z x y v u R Q s0 s1 hm tx ty h q=>?_;obtain⟨ds,es,e1,e2,hz,h⟩:=h;have hm':∀b,Z b->Mut (H2 b):=λb z=>Xi s1 (hm b z);have r1:=tx.shd s0 hm s1 (Bj e1);have r2:=ty.shd s0 hm s1 (Bj e2);obtain⟨l,us,rfl,h1,k1⟩:=Rp.tup_inv r1;obtain⟨m,ws,rfl,h2,k2⟩:=Rp.tup_inv r2;refine⟨l,m,us,ws,rfl,rfl,SqT.of (off_sub _ _ h1),SqT.of (off_sub _ _ h2),by rw[k1.len,k2.len];exact Yn hz (by decide),λe=>?_,λ_ e=>?_,λ_ _ p np=>?_⟩
 ·subst e;cases k1
  exact q _ _ _ h (Same.refl _) r2
 ·subst e;cases k2
  refine q _ _ _ h (Same.refl _) ?_;rw[YO];exact r1
 ·refine q _ _ _ h (JP np) (.tup (JK Jw λz=>?_) (Rps.mono (Jy (JP np) λ_ _ _ z=>z) (k1.append k2)))
  have:=hm' p z
  rw[np]at this;exact this
def pIT(a:PTE):PTI:=λγ R X=>a γ (λs=>∃ds,tupD s.shd=some ds/\R ds.length λi=>.sh (ds.getD i .non)) X
def KY{te:TE}{a:PTE}(ha:SndE K mg E te a):SndI K mg E (iTup K te) (pIT a):=by
 intro H0 B H σ γ R X Q env h q qx;refine ha H0 B H σ γ _ X _ env h (λs v H1 h1 S1 t1=>?_) qx;have env1:=env.grow S1;obtain⟨ds,ed,h1⟩:=h1;have r1:=t1.shd env1.same env.zm S1 (Bj ed);obtain⟨l,vs,rfl,hl,k1⟩:=Rp.tup_inv r1;refine⟨l,rfl,⟨vs,SqT.of (off_sub _ _ hl)⟩,q _ _ _ H1 h1 S1 ⟨λi H' Z' hi lt=>?_,λH' Z' lt=>?_⟩⟩
 ·have hd:ds[i]?=some (ds.getD i .non):=by rw[Yp,ZU hi];rfl
  obtain⟨u,hu,tu⟩:=k1.get hd;have k:=off_sub _ _ (lt.off _ _ hl);refine⟨⟨vs,u,SqT.of k,hu⟩,λx H'' y=>?_⟩;obtain⟨rfl,y⟩:=y
  have:=y vs (SqT.of k)
  rw[hu]at this;cases this
  exact⟨Same.refl _,Rp.mono lt.off tu⟩
 ·exact⟨vs,SqT.of (off_sub _ _ (lt.off _ _ hl)),by rw[k1.len];exact Yc _⟩
def K6:List (List Key×V)->Bool
 |[]=>true
 |p::r=>PU p.2&&K6 r
def Fl:∀{kvs:List (List Key×V)},K6 kvs=true->Rps K H (kvs.map λp=>vD p.2) (kvs.map (·.2))
 |[],_=>.nil
 |p::r,h=>by
  unfold K6 at h;rw[Y5]at h;exact .cons (Sj h.1) (Fl h.2)
def He:List V->Hp->VK->Prop:=λxs H Q=>∃(v d:Addr) (kvs:List (List Key×V)),xs=[.ref v]/\H v=some (KR v d)/\H d=some (.dT kvs)/\∀l,H l=none->Q (.ref l) (upd H l (.lst (kvs.map (·.2))))
def Mm(a:PTE):PTE:=λγ R X=>a γ (λs=>∃kvs,s.d=.dT kvs/\K6 kvs=true/\R (.own (.lst (kvs.map λp=>vD p.2)))) X
def Rv{te:TE}{a:PTE}(ha:SndE K mg E te a):SndE K mg E (tCB He (Ua (tBM0 K "dict" Sf te) tNil)) (Mm a):=by
 intro H0 B H σ γ R X Q env h q qx;refine ha H0 B H σ γ _ X _ env h (λs v H1 h1 S1 t1=>?_) qx;obtain⟨kvs,e,hs,hR⟩:=h1;have env1:=env.grow S1;have rx:=t1.rp env1.same;rw[e]at rx;obtain⟨l,rfl,hl⟩:=rx.dT_inv;refine⟨.inr (.inr (.inl ⟨rfl,.inr ⟨kvs,hl⟩⟩)),l,kvs,rfl,rfl,hl,λp np=>?_⟩;refine⟨p,l,kvs,rfl,Jw,by rw[Jn (JO hl np)];exact hl,λm nm=>?_⟩;have S2:Same H1 (upd H1 p (KR p l)):=JP np;exact q _ _ _ hR ((S1.trans S2).trans (JP nm)) ⟨m,rfl,(λ_ e=>e▸(S1.trans S2).free nm),_,Jw,Fl hs⟩
def Gu(a b:PTE):PTE:=λγ R X=>a γ (λy=>b γ (λx=>∃ks u,Kp y.d=some ks/\PL x.d=some u/\R (.own (.dT [(ks,u)]))) X) X
def GS{tk tv:TE}{a b:PTE}(ha:SndE K mg E tk a)(hb:SndE K mg E tv b):SndE K mg E (A1 tk tv) (Gu a b):=by
 intro H0 B H σ γ R X Q env h q qx;intro p np;have S0:Same H (upd H p (.dT [])):=JP np;have env0:=env.grow S0;refine ha H0 B _ σ γ _ X _ env0 h (λy v H1 h1 S1 t1=>?_) λc H' hc S'=>qx c H' hc (S0.trans S');have env1:=env0.grow S1;refine hb H0 B H1 σ γ _ X _ env1 h1 (λx w H2 h2 S2 t2=>?_) λc H' hc S'=>qx c H' hc ((S0.trans S1).trans S');have env2:=env1.grow S2;obtain⟨ks,u,k1,k2,k3⟩:=h2;have eu:=Bv (t2.rp env2.same) k2;obtain⟨b',rfl,hb'⟩:=TQ (Rp.mono S2 (t1.rp env1.same)) k1;subst eu;refine⟨S2 _ _ (S1 _ _ Jw),b',ks,rfl,hb',q _ _ _ k3 (λc o hc=>?_) ⟨p,rfl,(λ_ e=>e▸np),Jw⟩⟩
 have:c≠p:=λe=>by subst e;rw[np]at hc;cases hc
 rw[Jn this];exact S2 _ _ (S1 _ _ (S0 _ _ hc))
end
section
variable {X:Cx}{K:Za}
def P6{tg l:Expr}{tl:TE}(hl:PE X l tl)(hK:X.K=K:=by rfl):PI X tg l (iTup K tl):=by subst hK;exact O3 hl
end
end Pu
namespace M
open PySem PySem.Spec PyProof.Rows L2 Own Pu
def tD(ms:List Int):D:=.tup (ms.map D.int)
def kT(ms:List Int):List Key:=ms.map Sum.inl
def OL(ms:List Int):arg (tD ms)=.sh (tD ms):=by
 unfold arg tD imm;rw[KN]
def Pb{N:List Str}{ms:List Int}{ds:List D}:Xd N (tD ms::ds)=some (.sh (tD ms))::(ds.map (λd=>some (arg d))++List.replicate (N.length-(ds.length+1)) none):=by
 unfold Xd;rw[Ys,OL];rfl
def Ta(ms:List Int):Kp (tD ms)=some (kT ms):=by
 show Kx (ms.map D.int)=some (ms.map Sum.inl)
 induction ms with
 |nil=>rfl
 |cons m r ih=>
  rw[Ys,Ys];unfold Kx;rw[ih];rfl
def Mf(ms:List Int):tupD (some (tD ms))=some (ms.map D.int):=rfl
def Ju(ms:List Int)(h:Int):List Int:=ms.filter λm=>decide (m≠h)
def Xh(ws:List (Int×Int))(ms:List Int)(h:Int):Bool:=!(ws.any λq=>decide (q.1=h)&&decide (q.2∈ms))
def firstM(ws:List (Int×Int))(ms:List Int)(h:Int):Bool:=!(ws.any λq=>decide (q.2=h)&&decide (q.1∈ms))
def J6(hs:List Int):List (List Int):=hs.foldl (λS h=>S++S.map (·++[h])) [[]]
def XA(hs:List Int)(h:Int):J6 (hs++[h])=J6 hs++(J6 hs).map (·++[h]):=by
 unfold J6;rw[List.foldl_append];rfl
def K7{P:List Int->Prop}(h0:P [])(h1:∀r h,P r->P (r++[h]))(l:List Int):P l:=by
 have key:∀r:List Int,P r.reverse:=λr=>by
  induction r with
  |nil=>exact h0
  |cons a r ih=>rw[List.reverse_cons];exact h1 _ _ ih
 rw[←List.reverse_reverse l];exact key _
def Fm(hs:List Int):(J6 hs).length=2 ^ hs.length:=by
 refine K7 (P:=λhs=>(J6 hs).length=2 ^ hs.length) rfl (λr h ih=>?_) hs;rw[XA,Yl,ZV,ih,Yl,Wj,Nat.pow_succ];omega
def Pa(hs:List Int):∀ms∈J6 hs,ms.Sublist hs:=by
 refine K7 (P:=λhs=>∀ms∈J6 hs,ms.Sublist hs) (λms h=>?_) (λr h ih ms hm=>?_) hs
 ·have:ms=[]:=by simpa [J6]using h
  subst this;exact .slnil
 ·rw[XA,Yt]at hm;rcases hm with hm|hm
  ·exact(ih _ hm).trans (List.sublist_append_left _ _)
  ·obtain⟨n,hn,rfl⟩:=Y4.mp hm;exact(ih _ hn).append (List.Sublist.refl _)
def oc(c:Int->Int->Int):List Int->Int
 |[]=>0
 |a::r=>(r.map (c a)).sum+oc c r
def Keeps(ws:List (Int×Int))(o:List Int):Prop:=o.Pairwise λa b=>(b,a)∉ws
structure Least (ws:List (Int×Int)) (c:Int->Int->Int) (ms:List Int) (v:Int):Prop where
 is:∃o:List Int,o.Perm ms/\Keeps ws o/\oc c o=v
 le:∀o:List Int,o.Perm ms->Keeps ws o->v<=oc c o
def Tc(c:Int->Int->Int)(l:Int):∀o:List Int,oc c (o++[l])=oc c o+(o.map (c · l)).sum
 |[]=>by simp[oc]
 |a::r=>by
  rw[Wi];unfold oc;rw[Tc c l r];simp only[Yu,Ys,Vi,List.sum_append,W6,List.sum_nil];omega
def KC{f:Int->Int}{xs ys:List Int}(h:xs.Perm ys):(xs.map f).sum=(ys.map f).sum:=by
 induction h with
 |nil=>rfl
 |cons x _ ih=>rw[Ys,Ys,W6,W6,ih]
 |swap x y l=>
  simp only[Ys,W6];omega
 |trans _ _ i1 i2=>exact i1.trans i2
def Xo{ms:List Int}{h:Int}(nd:ms.Nodup)(hm:h∈ms):ms.Perm (h::Ju ms h):=by
 have e:Ju ms h=ms.erase h:=by
  unfold Ju;rw[nd.erase_eq_filter];congr 1;funext m;by_cases z:m=h<;>simp[z,bne]
 rw[e];exact List.perm_cons_erase hm
def less_sub{ms:List Int}{h:Int}:(Ju ms h).Sublist ms:=QP
def lastM_iff{ws:List (Int×Int)}{ms:List Int}{h:Int}:Xh ws ms h=true↔∀b∈ms,(h,b)∉ws:=by
 unfold Xh;rw[Q0,Vd];constructor
 ·intro k b hb hw;exact k _ hw (by simp[hb])
 ·intro k q hq z;simp only[Y5,WA]at z;obtain⟨z1,z2⟩:=z;subst z1;exact k q.2 z2 hq
def firstM_iff{ws:List (Int×Int)}{ms:List Int}{h:Int}:firstM ws ms h=true↔∀b∈ms,(b,h)∉ws:=by
 unfold firstM;rw[Q0,Vd];constructor
 ·intro k b hb hw;exact k _ hw (by simp[hb])
 ·intro k q hq z;simp only[Y5,WA]at z;obtain⟨z1,z2⟩:=z;subst z1;exact k q.1 z2 hq
def Ew{ws:List (Int×Int)}{c:Int->Int->Int}{ms:List Int}{vs:Int->Int}{M:Int}(nd:ms.Nodup)(hw:∀q∈ws,q.1≠q.2)(hv:∀l∈ms,Least ws c (Ju ms l) (vs l))(h1:∃l∈ms,Xh ws ms l=true/\M=vs l+((Ju ms l).map (c · l)).sum)(h2:∀l∈ms,Xh ws ms l=true->M<=vs l+((Ju ms l).map (c · l)).sum):Least ws c ms M:=by
 constructor
 ·obtain⟨l,hl,hlast,e⟩:=h1;obtain⟨o,o1,o2,o3⟩:=(hv l hl).is;refine⟨o++[l],?_,?_,?_⟩
  ·exact(List.perm_append_singleton l o).trans (((List.Perm.cons l o1)).trans (Xo nd hl).symm)
  ·refine Qe.mpr ⟨o2,List.pairwise_singleton _ _,λa ha b hb=>?_⟩;rw[ZX.mp hb];exact lastM_iff.mp hlast a (less_sub.subset (o1.mem_iff.mp ha))
  ·rw[Tc,o3,e,KC o1]
 ·intro o o1 o2;rcases List.eq_nil_or_concat o with rfl|⟨p,l,rfl⟩
  ·obtain⟨l,hl,_⟩:=h1;rw[o1.nil_eq.symm]at hl;cases hl
  ·rw[List.concat_eq_append]at o1 o2 ⊢;have hl:l∈ms:=o1.mem_iff.mp (by simp);obtain⟨k1,_,k2⟩:=Qe.mp o2
   have pp:p.Perm (Ju ms l):=by
    have:=((List.perm_append_singleton l p).symm.trans o1).trans (Xo nd hl)
    exact this.cons_inv
   have hlast:Xh ws ms l=true:=lastM_iff.mpr λb hb=>by
    rcases Yh.mp ((Xo nd hl).mem_iff.mp hb)with e|hb'
    ·subst e;exact λz=>hw _ z rfl
    ·exact k2 b (pp.mem_iff.mpr hb') l (ZX.mpr rfl)
   have a1:=h2 l hl hlast;have a2:=(hv l hl).le p pp k1;rw[Tc,KC pp];omega
def BL(a b:List Int)(l:Int):Ju (a++b) l=Ju a l++Ju b l:=List.filter_append ..
def DV{a:List Int}{l:Int}(h:l∉a):Ju a l=a:=List.filter_eq_self.mpr λm hm=>Yb λe=>h (e▸hm)
def LU(hs:List Int):∃T,J6 hs=[]::T:=by
 refine K7 (P:=λhs=>∃T,J6 hs=[]::T) ⟨[],rfl⟩ (λr h ⟨T,e⟩=>?_) hs;rw[XA,e];exact⟨_,rfl⟩
def An(hs:List Int):(J6 hs).getLast?=some hs:=by
 refine K7 (P:=λhs=>(J6 hs).getLast?=some hs) rfl (λr h e=>?_) hs;rw[XA,List.getLast?_append,List.getLast?_map,e];rfl
def CF{hs:List Int}:hs.Nodup->(J6 hs).Nodup:=by
 refine K7 (P:=λhs=>hs.Nodup->(J6 hs).Nodup) (λ_=>by simp[J6]) (λr h ih nd=>?_) hs;obtain⟨n1,_,n2⟩:=YV.mp nd;rw[XA];refine YV.mpr ⟨ih n1,?_,λa ha b hb e=>?_⟩
 ·exact List.Pairwise.map _ (λa b hne e=>hne (List.append_cancel_right e)) (ih n1)
 ·obtain⟨c,hc,rfl⟩:=Y4.mp hb;subst e;exact n2 h ((Pa r _ ha).subset (by simp)) h (by simp) rfl
def AK{hs:List Int}:hs.Nodup->∀(k:Nat) (ms:List Int),(J6 hs)[k]?=some ms->∀l∈ms,∃j:Nat,j<k/\(J6 hs)[j]?=some (Ju ms l):=by
 refine K7 (P:=λhs=>hs.Nodup->∀(k:Nat) (ms:List Int),(J6 hs)[k]?=some ms->∀l∈ms,∃j:Nat,j<k/\(J6 hs)[j]?=some (Ju ms l)) (λ_ k ms e l hl=>?_) (λr h ih nd k ms e l hl=>?_) hs
 ·have:ms=[]:=by
   have:=Yv e
   simpa [J6]using this
  subst this;cases hl
 ·obtain⟨n1,_,n2⟩:=YV.mp nd;rw[XA]at e ⊢;by_cases hk:k<(J6 r).length
  ·rw[YM hk]at e;obtain⟨j,hj,ej⟩:=ih n1 k ms e l hl;exact⟨j,hj,by rw[YM (by omega)];exact ej⟩
  ·rw[YY (by omega),Ye]at e;cases q:(J6 r)[k-(J6 r).length]? with
   |none=>rw[q]at e;cases e
   |some n=>
    rw[q]at e;cases e
    have hh:h∉n:=λz=>n2 h ((Pa r n (Yv q)).subset z) h (by simp) rfl;by_cases el:l=h
    ·subst el
     have e1:Ju (n++[l]) l=n:=by
      rw[BL,DV hh];simp[Ju]
     obtain⟨j,hj,ej⟩:=Y9.mp (Yv q);refine⟨j,by omega,?_⟩;rw[YM hj,e1,ZU hj,ej]
    ·have hln:l∈n:=by
      rcases Yt.mp hl with z|z
      ·exact z
      ·exact absurd (ZX.mp z) el
     have e1:Ju (n++[h]) l=Ju n l++[h]:=by
      rw[BL];congr 1;exact DV λz=>el (ZX.mp z)
     obtain⟨j,hj,ej⟩:=ih n1 _ n q l hln;refine⟨(J6 r).length+j,by omega,?_⟩;rw[YY (by omega),Ye,Nat.add_sub_cancel_left,ej,e1];rfl
def Tr{a b:List Int}(h:kT a=kT b):a=b:=List.map_inj_right (λ_ _=>Sum.inl.inj) |>.mp h
def BU(hs:List Int)(ws:List (Int×Int)):Prop:=∀ms:List Int,ms.Sublist hs->ms≠[]->∃l∈ms,∀b∈ms,(l,b)∉ws
structure Tab (ws:List (Int×Int)) (c:Int->Int->Int) (S:List (List Int)) (kvs:List (List Key×V)):Prop where
 keys:kvs.map (·.1)=S.map kT
 val:∀ms∈S,∃v,valV kvs (kT ms)=some (.int v)/\Least ws c ms v
def RW(ws:List (Int×Int))(c:Int->Int->Int):Tab ws c [[]] [([],.int 0)]:=by
 refine⟨rfl,λms hm=>?_⟩;rw[ZX.mp hm];refine⟨0,rfl,⟨[],.refl _,.nil,rfl⟩,λo ho _=>?_⟩;rw[ho.eq_nil];exact Int.le_refl _
def Tab.put {ws:List (Int×Int)}{c:Int->Int->Int}{S:List (List Int)}{kvs:List (List Key×V)}{ms:List Int}{v:Int} (T:Tab ws c S kvs) (hn:ms∉S) (L:Least ws c ms v):Tab ws c (S++[ms]) (putK kvs (kT ms) (.int v)):=by
 have no:valV kvs (kT ms)=none:=by
  cases e:valV kvs (kT ms)with
  |none=>rfl
  |some u=>
   unfold valV at e;cases q:kvs.find? (λkv=>decide (kv.1=kT ms))with
   |none=>rw[q]at e;cases e
   |some x=>
    have h1:=List.mem_of_find?_eq_some q;have h2:=List.find?_some q;have h3:x.1∈kvs.map (·.1):=Y4.mpr ⟨x,h1,rfl⟩;rw[T.keys,Yg h2]at h3;obtain⟨n,hn',e'⟩:=Y4.mp h3;rw[Tr e']at hn';exact absurd hn' hn
 constructor
 ·rw[Gy _ no,Yu,Yu,T.keys];rfl
 ·intro n hn';rw[Tv];by_cases e:n=ms
  ·subst e;exact⟨v,Ya rfl,L⟩
  ·rw[ZZ λz=>e (Tr z)];rcases Yt.mp hn' with z|z
   ·exact T.val n z
   ·exact absurd (ZX.mp z) e
open Classical in
def FK{ms:List Int}{P:Int->Int->Prop}(h:∀l∈ms,∃v,P l v):∃f:Int->Int,∀l∈ms,P l (f l):=
 ⟨λl=>if hl:l∈ms then Classical.choose (h l hl)else 0,λl hl=>by
  simp only[dif_pos hl];exact Classical.choose_spec (h l hl)⟩
def LB{ls:List Int}{ws:List (Int×Int)}{r:List Int}(R:Ring ls (ws.map λq=>(q.2,q.1)) r):Ring ls ws r.reverse:=by
 have sw:∀{x y:Int},(x,y)∈(ws.map λq=>(q.2,q.1))->(y,x)∈ws:=λh=>by
  obtain⟨q,hq,e⟩:=Y4.mp h;cases e
  exact hq
 refine⟨by rw[QS];exact R.two,List.pairwise_reverse.mpr (R.nodup.imp λh=>Ne.symm h),λx hx=>R.sub x (List.mem_reverse.mp hx),λi x y h1 h2=>?_,λx y h1 h2=>?_⟩
 ·have hi:i+1<r.length:=by
   have:=(Yk.mp h2).1
   rw[QS]at this;exact this
  rw[QD (by omega)]at h1 h2;exact sw (R.chain (r.length-1-(i+1)) y x h2 (by rw[←h1];congr 1;omega))
 ·have two:=R.two;rw[QD (by omega)]at h1;rw[QS,QD (by omega)]at h2;exact sw (R.last y x (by rw[←h2];congr 1;omega) (by rw[←h1];congr 1))
def CH{hs:List Int}{ws:List (Int×Int)}(hu:∀q∈ws,q.1≠q.2)(h:¬ ∃r,Ring hs ws r):BU hs ws:=λms hm hne=>by
 refine YC λz=>h ?_
 have h1:∀x∈ms,∃y∈ms,(y,x)∈(ws.map λq=>(q.2,q.1)):=λx hx=>by
  refine YC λk=>z ⟨x,hx,λb hb hw=>k ⟨b,hb,Y4.mpr ⟨_,hw,rfl⟩⟩⟩
 obtain⟨r,R⟩:=DR (ws:=ws.map λq=>(q.2,q.1)) (λq hq=>by
  obtain⟨p,hp,e⟩:=Y4.mp hq;subst e;exact λe=>hu p hp e.symm) hne h1
 have F:=LB R;exact⟨_,F.two,F.nodup,λx hx=>hm.subset (F.sub x hx),F.chain,F.last⟩
def CO:∀{kvs:List (List Key×V)},(kvs.map (·.1)).Nodup->∀p∈kvs,valV kvs p.1=some p.2
 |[],_,p,h=>by cases h
 |q::r,nd,p,h=>by
  rw[Ys,Y8]at nd;rcases Yh.mp h with e|h
  ·rw[e];exact UM rfl
  ·rw[UL λe=>nd.1 (Y4.mpr ⟨p,h,e.symm⟩)];exact CO nd.2 p h
def TabV(ws:List (Int×Int))(c:Int->Int->Int)(S:List (List Int))(vs:List Int):Prop:=vs.length=S.length/\∀(i:Nat) (ms:List Int) (v:Int),S[i]?=some ms->vs[i]?=some v->Least ws c ms v
def Tab.vals {ws:List (Int×Int)}{c:Int->Int->Int}{S:List (List Int)}{kvs:List (List Key×V)} (T:Tab ws c S kvs) (nd:S.Nodup):∃vs:List Int,kvs.map (·.2)=vs.map V.int/\TabV ws c S vs:=by
 have nk:(kvs.map (·.1)).Nodup:=by
  rw[T.keys];exact List.Pairwise.map _ (λa b hne e=>hne (Tr e)) nd
 have hk:∀p∈kvs,∃ms∈S,p.1=kT ms/\∃v,p.2=.int v/\Least ws c ms v:=λp hp=>by
  have h1:p.1∈kvs.map (·.1):=Y4.mpr ⟨p,hp,rfl⟩;rw[T.keys]at h1;obtain⟨ms,hm,e⟩:=Y4.mp h1;obtain⟨v,h2,h3⟩:=T.val ms hm;rw[e,CO nk p hp]at h2;exact⟨ms,hm,e.symm,v,Yf h2,h3⟩
 have hl:kvs.length=S.length:=by
  have:=YD List.length T.keys
  rw[ZV,ZV]at this;exact this
 refine⟨kvs.map λp=>match p.2 with | .int v=>v|_=>0,?_,by rw[ZV,hl],λi ms v h1 h2=>?_⟩
 ·rw[YL];refine QO λp hp=>?_;obtain⟨ms,_,_,v,e,_⟩:=hk p hp;show p.2=V.int (match p.2 with | .int v=>v|_=>0)
  rw[e]
 ·rw[Ye]at h2;cases q:kvs[i]? with
  |none=>rw[q]at h2;cases h2
  |some p=>
   rw[q]at h2;obtain⟨ms',hm',e1,u,e2,L⟩:=hk p (Yv q);have h3:(kvs.map (·.1))[i]?=some p.1:=by rw[Ye,q];rfl
   rw[T.keys,Ye,h1]at h3;have e3:ms=ms':=Tr ((Yf h3).trans e1);subst e3
   have e4:u=v:=by
    have:=Yf h2
    simp only[e2]at this;exact this
   rw[←e4];exact L
def BZ:∀{kvs:List (List Key×V)}{vs:List Int},kvs.map (·.2)=vs.map V.int->K6 kvs=true/\kvs.map (λp=>vD p.2)=vs.map D.int
 |[],[],_=>⟨rfl,rfl⟩
 |p::r,v::vs,h=>by
  rw[Ys,Ys,Qj]at h;obtain⟨h1,h2⟩:=BZ h.2;unfold K6;rw[h1,Ys,Ys,h2,h.1];exact⟨rfl,rfl⟩
structure Best (ws:List (Int×Int)) (c:Int->Int->Int) (ms o:List Int):Prop where
 perm:o.Perm ms
 keeps:Keeps ws o
 le:∀p:List Int,p.Perm ms->Keeps ws p->oc c o<=oc c p
 first:∀p:List Int,p.Perm ms->Keeps ws p->oc c p=oc c o->o=p\/sl o p
def RG(ws:List (Int×Int))(c:Int->Int->Int):Best ws c [] []:=by
 refine⟨.refl _,.nil,λp hp _=>?_,λp hp _ _=>.inl hp.eq_nil.symm⟩;rw[hp.eq_nil];exact Int.le_refl _
def Dx{ws:List (Int×Int)}{c:Int->Int->Int}{ms:List Int}{vs:Int->Int}{V g:Int}{p:List Int}(nd:ms.Nodup)(hu:∀q∈ws,q.1≠q.2)(hv:∀l∈ms,Least ws c (Ju ms l) (vs l))(hV:Least ws c ms V)(hp:(g::p).Perm ms)(hk:Keeps ws (g::p))(e:oc c (g::p)=V):g∈ms/\firstM ws ms g=true/\vs g+((Ju ms g).map (c g)).sum=V/\p.Perm (Ju ms g)/\oc c p=vs g:=by
 have hg:g∈ms:=hp.mem_iff.mp (Yz ..);have pp:p.Perm (Ju ms g):=(hp.trans (Xo nd hg)).cons_inv;obtain⟨k1,k2⟩:=W2.mp hk
 have hf:firstM ws ms g=true:=firstM_iff.mpr λb hb=>by
  rcases Yh.mp ((Xo nd hg).mem_iff.mp hb)with e|hb'
  ·subst e;exact λz=>hu _ z rfl
  ·exact k1 b (pp.mem_iff.mpr hb')
 have a1:=(hv g hg).le p pp k2;obtain⟨o,o1,o2,o3⟩:=(hv g hg).is;have a2:=hV.le (g::o) ((List.Perm.cons g o1).trans (Xo nd hg).symm) (W2.mpr ⟨λb hb=>firstM_iff.mp hf b (less_sub.subset (o1.mem_iff.mp hb)),o2⟩);have e1:oc c (g::p)=(p.map (c g)).sum+oc c p:=rfl;have e2:oc c (g::o)=(o.map (c g)).sum+oc c o:=rfl;have s1:=KC (f:=c g) pp;have s2:=KC (f:=c g) o1;exact⟨hg,hf,by omega,pp,by omega⟩
def R9{ws:List (Int×Int)}{c:Int->Int->Int}{ms o:List Int}{vs:Int->Int}{V f:Int}(nd:ms.Nodup)(hu:∀q∈ws,q.1≠q.2)(hv:∀l∈ms,Least ws c (Ju ms l) (vs l))(hV:Least ws c ms V)(hf:f∈ms)(h1:firstM ws ms f=true)(h2:vs f+((Ju ms f).map (c f)).sum=V)(h3:∀g∈ms,firstM ws ms g=true->vs g+((Ju ms g).map (c g)).sum=V->f<=g)(B:Best ws c (Ju ms f) o):Best ws c ms (f::o):=by
 have eo:oc c o=vs f:=by
  obtain⟨p,p1,p2,p3⟩:=(hv f hf).is
  have:=(hv f hf).le o B.perm B.keeps
  have:=B.le p p1 p2
  omega
 have es:=KC (f:=c f) B.perm
 have e:oc c (f::o)=V:=by
  show(o.map (c f)).sum+oc c o=V;omega
 refine⟨(List.Perm.cons f B.perm).trans (Xo nd hf).symm,W2.mpr ⟨λb hb=>firstM_iff.mp h1 b (less_sub.subset (B.perm.mem_iff.mp hb)),B.keeps⟩,λp p1 p2=>?_,λp p1 p2 p3=>?_⟩
 ·rw[e];exact hV.le p p1 p2
 ·cases p with
  |nil=>rw[p1.nil_eq.symm]at hf;cases hf
  |cons g p=>
   obtain⟨q1,q2,q3,q4,q5⟩:=Dx nd hu hv hV p1 p2 (p3.trans e);have hle:=h3 g q1 q2 q3;by_cases eg:f=g
   ·subst eg;rcases B.first p q4 (W2.mp p2).2 (q5.trans eo.symm)with z|z
    ·exact .inl (by rw[z])
    ·exact .inr (sl_cons.mpr z)
   ·exact .inr (.inl (by omega))
end M
namespace Pu
open PySem PySem.Spec PyProof.Rows L2 Own
section
variable {K:Za}{mg:Str->Option Value}{E:L2.St->XK}{H0 H H1 H':Hp}{B Z Z':Addr->Prop}{σ:L2.St}{γ:Γ}
def O.from:O->O->Prop
 | .ins x _ _ cs,.ins x' _ _ cs'=>x'=x/\∀c∈cs,∃c'∈cs',c'.1=c.1
 | .lsA x _,.lsA x' _=>x'=x
 |_,_=>False
def O.from_adr {o o':O}{a:Addr} (h:o.from o'):∀b,o.adr a b->o'.adr a b:=by
 unfold O.from at h
 split at h
 ·intro b hb;rcases hb with hb|⟨c,hc,hb⟩
  ·exact .inl (hb.trans h.1.symm)
  ·obtain⟨c',q1,q2⟩:=h.2 c hc;exact .inr ⟨c',q1,hb.trans q2.symm⟩
 ·intro b hb;exact(show b=_ from hb).trans h.symm
 ·exact h.elim
def O.from_at {o o':O}{a a':Addr}{F F' H H':Hp} (h:o.from o') (h1:OR K F H a o) (h2:OR K F' H' a' o'):a'=a:=by
 unfold O.from at h
 split at h
 ·exact h2.1.trans (h.1.trans h1.1.symm)
 ·exact h2.1.trans (h.trans h1.1.symm)
 ·exact h.elim
abbrev Pw:=O->List S->(O->D->Prop)->(O->Str->Prop)->Prop
def S.pass:S->Option S
 | .sh d=>some (.sh d) | .own o=>some (.sh o.d)
 | .bor d=>match imm d with|true=>some (.sh d)|false=>some (.bor d)
 | .tmp d=>match imm d with|true=>some (.sh d)|false=>none
 | .view _=>none
def S.flat:S->Prop
 | .sh _=>True | .bor _=>True|_=>False
def passes:List S->Option (List S)
 |[]=>some []
 |s::r=>match s.pass,passes r with|some s',some r'=>some (s'::r')|_,_=>none
structure After (K:Za) (B:Addr->Prop) (H:Hp) (a:Addr) (o o':O) (H':Hp):Prop where
 same:Same (off (o.adr a) H) H'
 old:∀b,o.adr a b->o'.adr a b
 new:∀b,o'.adr a b->o.adr a b\/H b=none
 at_:OR K (off (λb=>B b\/o'.adr a b) H') H' a o'
def spW(mg:Str->Option Value)(c:Pw)(K:Za):Sp:=λvs H Q E=>∃(o:O) (a:Addr) (ss:List S) (us:List V) (B:Addr->Prop) (R:O->D->Prop) (X:O->Str->Prop),
 vs=.ref a::us/\(∀b,B b->Mut (H b)/\¬o.adr a b)/\OR K (off (λb=>B b\/o.adr a b) H) H a o/\TVs K (λb=>B b\/o.adr a b) (off (o.adr a) H) H H ss us/\(∀s∈ss,s.flat)/\c o ss R X/\
 (∀o' d v H',R o' d->After K B H a o o' H'->Rp K (off (λb=>B b\/o'.adr a b) H') d v->Q v H')/\∀o' e H',X o' e->After K B H a o o' H'->XE mg E e H'
def TVs.get:∀{ss:List S}{vs:List V}{i:Nat}{s:S},TVs K Z H0 H H' ss vs->ss[i]?=some s->∃v,vs[i]?=some v/\TV K Z H0 H H' s v
 |_,_,_,_,.nil,e=>by simp at e
 |_,_,0,_,.cons h _,e=>by simp at e;subst e;exact⟨_,rfl,h⟩
 |_,_,i+1,s,.cons _ r,e=>by
  obtain⟨v,h1,h2⟩:=TVs.get (i:=i) (s:=s) r (by simpa using e);exact⟨v,by simpa using h1,h2⟩
def X5(N:List Str)(o:O)(ss:List S):Γ:=some (.own o)::(ss.map some++List.replicate (N.length-(ss.length+1)) none)
def Io{N:List Str}{o:O}{a:Addr}{ss:List S}{us:List V}(hB:∀b,B b->Mut (H b)/\¬o.adr a b)(ho:OR K (off (λb=>B b\/o.adr a b) H) H a o)(r:TVs K (λb=>B b\/o.adr a b) (off (o.adr a) H) H H ss us)(hf:∀s∈ss,s.flat)(hn:ss.length+1<=N.length) :
  EnvR K (off (o.adr a) H) B H (start N (.ref a::us)) (X5 N o ss):=by
 have hlen:=r.len
 have get:∀(i:Nat) (s:S),(X5 N o ss)[i+1]?=some (some s)->ss[i]?=some s:=λi s h=>by
  unfold X5 at h;rw[WK]at h;by_cases hi:i<ss.length
  ·rw[YM (by rw[ZV];exact hi),Ye,ZU hi]at h;rw[ZU hi];exact YD some (Yf (Yf h))
  ·rw[YY (by rw[ZV];omega),Qt]at h;split at h<;>cases h
 have noown:∀(i:Nat) (es:O),(X5 N o ss)[i+1]?≠some (some (.own es)):=λi es h=>hf _ (Yv (get i _ h))
 have st0:(start N (V.ref a::us))[0]?=some (some (.ref a)):=by
  unfold L2.start;rfl
 have hz:∀b,zof B (X5 N o ss) (start N (V.ref a::us)) b->B b\/o.adr a b:=λb z=>by
  rcases z with z|⟨i,es,a',h1,h2,h3⟩
  ·exact .inl z
  ·cases i with
   |zero=>
    rw[st0]at h2;cases h2
    have:o=es:=by
     have h1:some (some (S.own o))=some (some (S.own es)):=h1;cases h1
     rfl
    subst this;exact .inr h3
   |succ i=>exact absurd h1 (noown i es)
 refine⟨off_sub,?_,λb h=>(hB b h).1,λi j x x' es es' b h1 h2 _ _ _ _=>?_,λi s h=>?_⟩
 ·unfold L2.start X5;simp[hlen]
 ·cases i with
  |succ i=>exact absurd h1 (noown i es)
  |zero=>
   cases j with
   |zero=>rfl
   |succ j=>exact absurd h2 (noown j es')
 ·cases i with
  |zero=>
   have h:some (some (S.own o))=some (some s):=h;cases h
   refine⟨_,st0,a,rfl,λb hb=>?_,ho.mono (Jy (Same.refl _) λb _ _ z y=>z (hz b y)) λ_ _ _ q=>q⟩;unfold off;rw[Ya hb]
  |succ i=>
   have hs:=get i s h;obtain⟨v,hv,tv⟩:=r.get hs;refine⟨v,?_,?_⟩
   ·unfold L2.start;rw[YM (by rw[ZV,Y1];have:=(Yk.mp hv).1;omega),Ye,WK,hv];rfl
   ·have:=hf s (Yv hs)
    cases s with
    |bor d=>exact tv
    |sh d=>exact Rp.mono (Jy (Same.refl _) λb _ _ z y=>z (hz b y)) tv
    |own _=>exact this.elim
    |view _=>exact this.elim
    |tmp _=>exact this.elim
def finW(o:O)(R:O->D->Prop)(γ:Γ)(d:D):Prop:=∃o',γ[0]?=some (some (.own o'))/\o.from o'/\R o' d
def finX(o:O)(X:O->Str->Prop)(γ:Γ)(e:Str):Prop:=∃o',γ[0]?=some (some (.own o'))/\o.from o'/\X o' e
def AX(o:O)(R:O->D->Prop)(X:O->Str->Prop):PEnds:={nx:=λγ=>finW o R γ .non,rt:=λ_=>False,ex:=finX o X,rv:=finW o R}
def NL{a:Addr}{o o':O}{σ':L2.St}{γ':Γ}(ho:OR K (off (λb=>B b\/o.adr a b) H) H a o)(e:EnvR K (off (o.adr a) H) B H' σ' γ')(h:γ'[0]?=some (some (.own o')))(k:o.from o'):After K B H a o o' H'/\∀b,B b\/o'.adr a b->zof B γ' σ' b:=by
 obtain⟨v,h1,a',rfl,h2,h3⟩:=e.slot 0 _ h;have ea:=O.from_at k ho h3;subst ea;have hz:∀b,B b\/o'.adr a' b->zof B γ' σ' b:=λb z=>z.imp id λz=>⟨0,o',a',h,h1,z⟩;refine⟨⟨e.same,O.from_adr k,λb hb=>?_,h3.mono (Jy (Same.refl _) λb _ _ z y=>z (hz b y)) λ_ _ _ q=>q⟩,hz⟩
 have:=h2 b hb
 unfold off at this;by_cases q:o.adr a' b
 ·exact .inl q
 ·rw[ZZ q]at this;exact .inr this
def MC{c:Pw}{N:List Str}{t:TS}{p:PTS}{vs:List V}{Q:VK}{Ec:XK}{n:Nat}(h:spW mg c K vs H Q Ec)(snd:SndS K mg (λ_=>Ec) t p)(hn:n+1<=N.length)(hp:∀o ss R X,c o ss R X->ss.length=n/\p (AX o R X) (X5 N o ss)):t {nx:=λ_ H'=>Q .non H',rt:=Q} (start N vs) H:=by
 obtain⟨o,a,ss,us,B,R,X,rfl,hB,ho,r,hf,hc,hQ,hX⟩:=h;obtain⟨e,hp⟩:=hp o ss R X hc;have env:=Io (N:=N) hB ho r hf (by rw[e];exact hn);refine snd _ B H _ _ _ _ (λb z=>?_) env hp ⟨λσ' γ' H' h1 e1 f1=>?_,λ_ _ _ z=>z.elim,λσ' γ' c H' h1 e1 f1=>?_,λ_ _ _ z=>z.elim,λ_ _ _ z=>z.elim,λσ' γ' d v H' h1 e1 f1 rd=>?_⟩
 ·obtain⟨q1,q2⟩:=hB b z;obtain⟨x,hx⟩:=P4 q1;exact⟨x,JK hx q2⟩
 ·obtain⟨o',q1,q2,q3⟩:=h1;exact hQ o' .non .non H' q3 (NL ho e1 q1 q2).1 .non
 ·obtain⟨o',q1,q2,q3⟩:=h1;exact hX o' c H' q3 (NL ho e1 q1 q2).1
 ·obtain⟨o',q1,q2,q3⟩:=h1;obtain⟨k1,k2⟩:=NL ho e1 q1 q2;exact hQ o' d v H' q3 k1 (Rp.mono (Jy (Same.refl _) λb _ _ z y=>z (k2 b y)) rd)
def On{c:Pw}{vs:List V}{Q:VK}{Ec:XK}{n:Nat}(h:spW mg c K vs H Q Ec)(hn:∀o ss R X,c o ss R X->ss.length=n):vs.length=n+1:=by
 obtain⟨o,a,ss,us,B,R,X,rfl,_,_,r,_,hc,_⟩:=h;rw[Y1,r.len,hn o ss R X hc]
abbrev PTW:=Γ->(Γ->D->Prop)->(Γ->Str->Prop)->Prop
def SndW(K:Za)(mg:Str->Option Value)(E:L2.St->XK)(t:TE)(p:PTW):Prop:=∀(H0:Hp) (B:Addr->Prop) (H:Hp) (σ:L2.St) (γ:Γ) (R:Γ->D->Prop) (X:Γ->Str->Prop) (Q:VK),(∀b,B b->∃o,H0 b=some o)->EnvR K H0 B H σ γ->p γ R X->
 (∀γ' d v H',R γ' d->EnvR K H0 B H' σ γ'->Fr B H σ γ H' σ γ'->Rp K (off (zof B γ' σ) H') d v->Q v H')->(∀γ' c H',X γ' c->EnvR K H0 B H' σ γ'->Fr B H σ γ H' σ γ'->XE mg (E σ) c H')->t σ H Q
variable {te:TE}{w:PTW}
def Lv(w:PTW):PTS:=λR γ=>w γ (λγ' _=>R.nx γ') R.ex
def TN(hw:SndW K mg E te w):SndS K mg E (T3 te) (Lv w):=by
 intro H0 B H σ γ R D hB env h e;exact hw H0 B H σ γ _ _ _ hB env h (λγ' d v H1 h1 e1 f1 _=>e.nx σ γ' H1 h1 e1 f1) λγ' c H' hc e' f'=>e.ex σ γ' c H' hc e' f'
def Hs(w:PTW):PTS:=λR γ=>w γ R.rv R.ex
def FY(hw:SndW K mg E te w):SndS K mg E (tRet te) (Hs w):=by
 intro H0 B H σ γ R D hB env h e;exact hw H0 B H σ γ _ _ _ hB env h (λγ' d v H1 h1 e1 f1 rd=>e.rv σ γ' d v H1 h1 e1 f1 rd) λγ' c H' hc e' f'=>e.ex σ γ' c H' hc e' f'
def Mz(a:PTE):PTS:=λR γ=>a γ (λs=>match s.shd with|some d=>R.rv γ d|none=>False) (R.ex γ)
def Oh{a:PTE}(ha:SndE K mg E te a):SndS K mg E (tRet te) (Mz a):=by
 intro H0 B H σ γ R D hB env h e;refine ha H0 B H σ γ _ _ _ env h (λs v H1 h1 S1 t1=>?_) λc H' hc S'=>e.ex σ γ c H' hc (env.grow S') (Fr.grow S');split at h1
 ·rename_i d ed;exact e.rv σ γ d v H1 h1 (env.grow S1) (Fr.grow S1) (t1.shd (env.grow S1).same env.zm S1 ed)
 ·exact h1.elim
def Ot{s s':S}(h:s.pass=some s'):s'.flat:=by
 cases s with
 |sh d=>cases h;trivial
 |own o=>cases h;trivial
 |bor d=>unfold S.pass at h;cases q:imm d<;>simp[q]at h<;>subst h<;>trivial
 |tmp d=>
  unfold S.pass at h;cases q:imm d<;>simp[q]at h
  subst h;trivial
 |view o=>cases h
def Bw:∀{ss ss':List S},passes ss=some ss'->∀s∈ss',s.flat
 |[],_,h=>by cases h;simp
 |s::r,_,h=>by
  unfold passes at h;split at h
  ·rename_i s1 r1 e1 e2;cases h
   intro x hx;rcases Yh.mp hx with rfl|hx
   ·exact Ot e1
   ·exact Bw e2 x hx
  ·cases h
def TV.pass {s s':S}{v:V}{P W:Addr->Prop}{HB:Hp} (h0:Same H0 H') (hm:∀b,Z b->Mut (H b)) (S1:Same H H') (hb:Same H0 (off P HB)) (hs:Same (off Z H') (off W HB)) (h:TV K Z H0 H H' s v) (e:s.pass=some s'):TV K W (off P HB) HB HB s' v:=by
 have shd:∀d,s.shd=some d->Rp K (off W HB) d v:=λd ed=>Rp.mono hs (h.shd h0 hm S1 ed);cases s with
 |sh d=>cases e;exact shd _ rfl
 |own o=>cases e;exact shd _ rfl
 |view o=>cases e
 |tmp d=>
  unfold S.pass at e;cases q:imm d with
  |false=>simp[q]at e
  |true=>simp[q]at e;subst e;exact shd d (by unfold S.shd;simp[q])
 |bor d=>
  unfold S.pass at e;cases q:imm d with
  |false=>simp[q]at e;subst e;exact Rp.mono hb h
  |true=>simp[q]at e;subst e;exact shd d (by unfold S.shd;simp[q])
def TVs.pass {P W:Addr->Prop}{HB:Hp} (h0:Same H0 H') (hm:∀b,Z b->Mut (H b)) (S1:Same H H') (hb:Same H0 (off P HB)) (hs:Same (off Z H') (off W HB)):∀{ss ss':List S}{vs:List V},TVs K Z H0 H H' ss vs->passes ss=some ss'->TVs K W (off P HB) HB HB ss' vs
 |_,_,_,.nil,e=>by cases e;exact .nil
 |_,_,_,.cons h r,e=>by
  unfold passes at e;split at e
  ·rename_i s1 r1 e1 e2;cases e
   exact .cons (h.pass h0 hm S1 hb hs e1) (TVs.pass h0 hm S1 hb hs r e2)
  ·cases e
def Lh{c:Pw}{i:Nat}{o:O}{a:Addr}{ss ss':List S}{us:List V}{R:Γ->D->Prop}{X:Γ->Str->Prop}{Q:VK}{Ec:XK}(env:EnvR K H0 B H σ γ)(hB:∀b,B b->∃o,H0 b=some o)(S1:Same H H1)(hi:γ[i]?=some (some (.own o)))(ha:σ[i]?=some (some (.ref a)))(t1:TVs K (zof B γ σ) H0 H H1 ss us)(hp:passes ss=some ss')(hc:c o ss' (λo' d=>R (γ.set i (some (.own o'))) d) (λo' e=>X (γ.set i (some (.own o'))) e))(q:∀γ' d v H',R γ' d->EnvR K H0 B H' σ γ'->Fr B H σ γ H' σ γ'->Rp K (off (zof B γ' σ) H') d v->Q v H')(qx:∀γ' c H',X γ' c->EnvR K H0 B H' σ γ'->Fr B H σ γ H' σ γ'->XE mg Ec c H'):spW mg c K (.ref a::us) H1 Q Ec:=by
 have env1:=env.grow S1;obtain⟨v,h1,a',ev,h3,h4⟩:=env1.slot i _ hi;rw[ha]at h1;cases h1
 cases ev
 have za:∀b,o.adr a b->zof B γ σ b:=λb hb=>.inr ⟨i,o,a,hi,ha,hb⟩
 have aft:∀o' H',After K (λb=>zof B γ σ b/\¬o.adr a b) H1 a o o' H'->EnvR K H0 B H' σ (γ.set i (some (.own o')))/\Fr B H σ γ H' σ (γ.set i (some (.own o')))/\∀b x,H' b=some x->¬((zof B γ σ b/\¬o.adr a b)\/o'.adr a b)->¬zof B (γ.set i (some (.own o'))) σ b:=λo' H' A=>by
  have hzz:∀b x,H' b=some x->¬((zof B γ σ b/\¬o.adr a b)\/o'.adr a b)->¬zof B (γ.set i (some (.own o'))) σ b:=λb x _ n z=>by
   rcases z with z|⟨j,fs,a',e1,e2,e3⟩
   ·refine n (.inl ⟨.inl z,λw=>?_⟩);obtain⟨u,hu⟩:=hB b z;rw[h3 b w]at hu;cases hu
   ·rcases JM e1 with⟨ej,q,_⟩|⟨nj,q⟩
    ·subst ej;cases q
     rw[ha]at e2;cases e2
     exact n (.inr e3)
    ·exact n (.inl ⟨.inr ⟨j,fs,a',q,e2,e3⟩,λw=>nj (env.own j i a' a fs o b q hi e2 ha e3 w)⟩)
  obtain⟨k1,k2⟩:=env1.change (o':=o') (H':=H') hi ha (λb x hx n=>A.same b x (JK hx n)) (λb hb=>A.at_.mut b (A.old b hb)) A.new (A.at_.mono (Jy (Same.refl _) λb x hx z=>hzz b x hx z) λ_ _ _ q=>q);exact⟨k1,(Fr.grow S1).trans k2,hzz⟩
 refine⟨o,a,ss',us,λb=>zof B γ σ b/\¬o.adr a b,_,_,rfl,λb hb=>⟨env1.zm b hb.1,hb.2⟩,h4.mono (Jy (Same.refl _) λb _ _ z y=>z (y.elim (λy=>y.1) (za b))) λ_ _ _ q=>q,?_,Bw hp,hc,λo' d v H' hR A rd=>?_,λo' e H' hX A=>?_⟩
 ·refine t1.pass env1.same env.zm S1 (λb x hx=>JK (env1.same b x hx) λw=>?_) (Jy (Same.refl _) λb _ _ z y=>z (y.elim (λy=>y.1) (za b))) hp;rw[h3 b w]at hx;cases hx
 ·obtain⟨k1,k2,k3⟩:=aft o' H' A;exact q _ d v H' hR k1 k2 (Rp.mono (λb x h=>let ⟨p1,p2⟩:=UV h;JK p1 (k3 b x p1 p2)) rd)
 ·obtain⟨k1,k2,_⟩:=aft o' H' A;exact qx _ e H' hX k1 k2
def Zaf(i:Nat)(c:Pw)(r:PTA):PTW:=λγ R X=>match γ[i]? with
 |some (some (.own o))=>r γ (λss=>match passes ss with|some ss'=>c o ss' (λo' d=>R (γ.set i (some (.own o'))) d) (λo' e=>X (γ.set i (some (.own o'))) e)|none=>False) (X γ)
 |_=>False
def fFld(C:Addr)(xs:List Str)(j:Nat):S->(S->Prop)->Prop
 | .view (.ins _ C' xs' cs),R=>C'=C/\xs'=xs/\∃c,cs[j]?=some c/\R (.view (.lst c.2))
 | .bor (.ins C' xs' ds),R=>C'=C/\xs'=xs/\∃d,ds[j]?=some d/\R (arg d)
 |_,_=>False
def pFld(C:Addr)(xs:List Str)(j:Nat)(a:PTE):PTE:=λγ R X=>a γ (λs=>fFld C xs j s R) X
def Rp.ins_inv {C:Addr}{xs:List Str}{ds:List D}{v:V} (h:Rp K H (.ins C xs ds) v):∃a dx vs,v=.ref a/\H a=some (.ins C dx (xs.zip vs))/\xs.length=vs.length/\Rps K H ds vs:=by
 cases h with
 |ins h e r=>exact⟨_,_,_,rfl,h,e,r⟩
def FldAt(f:Str)(xs:List Str)(j:Nat):Prop:=∀vs:List V,xs.length=vs.length->(xs.zip vs).lookup f=vs[j]?
def TK{C:Addr}{f:Str}{xs:List Str}(j:Nat){a:PTE}(hc:Cls K C)(hn:NoAttr K C f)(hj:FldAt f xs j)(ha:SndE K mg E te a):SndE K mg E (tFld K te f) (pFld C xs j a):=by
 intro H0 B H σ γ R X Q env p q qx;refine ha H0 B H σ γ _ X _ env p (λs v H1 h1 S1 t1=>?_) qx;have env1:=env.grow S1;unfold fFld at h1;split at h1
 ·rename_i x C' xs' cs;obtain⟨rfl,rfl,c,ec,hR⟩:=h1;obtain⟨b,rfl,e1,e2,⟨dx,e3⟩,e4,e5⟩:=t1;obtain⟨us,u1,u2⟩:=e4 c (Yv ec);refine⟨b,_,dx,_,_,rfl,e3,hc,hn,?_,q _ _ H1 hR S1 ⟨c.1,rfl,us,u1,u2⟩⟩;rw[hj _ (by rw[ZV];exact e2),Ye,ec];rfl
 ·rename_i C' xs' ds;obtain⟨rfl,rfl,d,ed,hR⟩:=h1;obtain⟨b,dx,vs,rfl,e1,e2,e3⟩:=Rp.ins_inv (show Rp K H0 (.ins C' xs' ds) v from t1)
  obtain⟨u,hu,ru⟩:=e3.get ed;refine⟨b,_,dx,_,u,rfl,env1.same _ _ e1,hc,hn,by rw[hj _ e2];exact hu,q _ _ H1 hR S1 (argR env1.zm env1.same ru)⟩
 ·exact h1.elim
def FP(C:Addr)(xs:List Str)(c:Pc)(a:PTE)(r:PTA):PTE:=λγ R X=>a γ (λs=>match s.d with
 | .ins C' xs' ds=>C'=C/\xs'=xs/\r γ (λss=>c (.ins C' xs' ds::ss.map S.d) (λs=>R s.back) X) X
 |_=>False) X
def NoFld(m:Str)(xs:List Str):Prop:=∀vs:List V,(xs.zip vs).lookup m=none
def Ad(C:Addr)(m:Str)(sp:Sp)(E:L2.St->XK)(ta:TE)(t:TA):TE:=λσ H Q=>ta σ H λx H1=>∃a dx fs,x=.ref a/\H1 a=some (.ins C dx fs)/\fs.lookup m=none/\t σ H1 λvs H2=>sp (x::(vs++[])) H2 Q (E σ)
def Cg{C:Addr}{m:Str}{xs:List Str}{c:Pc}{ta:TA}{a:PTE}{r:PTA}(hx:NoFld m xs)(ha:SndE K mg E te a)(hr:SndA K mg E ta r):SndE K mg E (Ad C m (spOf mg c K) E te ta) (FP C xs c a r):=by
 intro H0 B H σ γ R X Q env p q qx;refine ha H0 B H σ γ _ X _ env p (λs v H1 h1 S1 t1=>?_) qx;have env1:=env.grow S1;split at h1
 ·rename_i C' xs' ds ed;obtain⟨rfl,rfl,h1⟩:=h1;have rs:=t1.rp env1.same;rw[ed]at rs;obtain⟨b,dx,vs,rfl,e1,e2,e3⟩:=Rp.ins_inv rs;refine⟨b,dx,_,rfl,e1,hx vs,hr H0 B H1 σ γ _ X _ env1 h1 (λss us H2 h2 S2 t2=>?_) λc H' hc S'=>qx c H' hc (S1.trans S')⟩;have env2:=env1.grow S2;rw[YO];refine⟨_,_,X,Rps.cons (Rp.mono S2 rs) (t2.rps env2.same),h2,λs v H' hs S3 tv=>q _ _ H' hs ((S1.trans S2).trans S3) (tv.back env2 (S1.trans S2) S3),λe H' he S3=>qx e H' he ((S1.trans S2).trans S3)⟩
 ·exact h1.elim
def F6{C:Addr}{m:Str}{xs:List Str}{c:Pc}{ta:TA}{a:PTE}{r:PTA}{Ec:XK}(hx:NoFld m xs)(ha:SndE K mg (λ_=>Ec) te a)(hr:SndA K mg (λ_=>Ec) ta r):SndE K mg (λ_=>Ec) (Kg C m (spOf mg c K) [] Ec te ta) (FP C xs c a r):=Cg (E:=λ_=>Ec) hx ha hr
def O6(C:Addr)(xs:List Str)(c:Pc)(a:PTE)(r:PTA):PTE:=λγ R X=>a γ (λs=>match s.d with
 | .ins C' xs' ds=>C'=C/\xs'=xs/\r γ (λss=>c (.ins C' xs' ds::ss.map S.d) (λs=>R s.back) λ_=>False) X
 |_=>False) X
def U1{C:Addr}{m:Str}{xs:List Str}{c:Pc}{ta:TA}{a:PTE}{r:PTA}(hx:NoFld m xs)(ha:SndE K mg E te a)(hr:SndA K mg E ta r):SndE K mg E (Kg C m (spOf mg c K) [] E0 te ta) (O6 C xs c a r):=by
 intro H0 B H σ γ R X Q env p q qx;refine ha H0 B H σ γ _ X _ env p (λs v H1 h1 S1 t1=>?_) qx;have env1:=env.grow S1;split at h1
 ·rename_i C' xs' ds ed;obtain⟨rfl,rfl,h1⟩:=h1;have rs:=t1.rp env1.same;rw[ed]at rs;obtain⟨b,dx,vs,rfl,e1,e2,e3⟩:=Rp.ins_inv rs;refine⟨b,dx,_,rfl,e1,hx vs,hr H0 B H1 σ γ _ X _ env1 h1 (λss us H2 h2 S2 t2=>?_) λc H' hc S'=>qx c H' hc (S1.trans S')⟩;have env2:=env1.grow S2;rw[YO];exact⟨_,_,_,Rps.cons (Rp.mono S2 rs) (t2.rps env2.same),h2,λs v H' hs S3 tv=>q _ _ H' hs ((S1.trans S2).trans S3) (tv.back env2 (S1.trans S2) S3),λ_ _ z=>z.elim⟩
 ·exact h1.elim
def Zah(i:Nat)(C:Addr)(xs:List Str)(c:Pw)(r:PTA):PTW:=λγ R X=>match γ[i]? with
 |some (some (.own (.ins x C' xs' cs)))=>C'=C/\xs'=xs/\r γ (λss=>match passes ss with|some ss'=>c (.ins x C' xs' cs) ss' (λo' d=>R (γ.set i (some (.own o'))) d) (λo' e=>X (γ.set i (some (.own o'))) e)|none=>False) (X γ)
 |_=>False
def FH(i:Nat)(C:Addr)(xs:List Str)(c:Pw)(r:PTA):PTW:=λγ R X=>match γ[i]? with
 |some (some (.own (.ins x C' xs' cs)))=>C'=C/\xs'=xs/\r γ (λss=>match passes ss with|some ss'=>c (.ins x C' xs' cs) ss' (λo' d=>R (γ.set i (some (.own o'))) d) (λ_ _=>False)|none=>False) (X γ)
 |_=>False
def Tf(i:Nat){C:Addr}{m:Str}{xs:List Str}{c:Pw}{ta:TA}{r:PTA}(hx:NoFld m xs)(hr:SndA K mg E ta r):SndW K mg E (Kg C m (spW mg c K) [] E0 (tVar i) ta) (FH i C xs c r):=by
 intro H0 B H σ γ R X Q hB env h q qx;unfold FH at h;split at h
 ·rename_i x C' xs' cs hi;obtain⟨rfl,rfl,h⟩:=h;obtain⟨v,hv,a,rfl,_,e1,e2,⟨dx,e3⟩,e4⟩:=env.slot i _ hi;refine⟨_,hv,a,dx,_,rfl,e3,hx _,hr H0 B H σ γ _ _ _ env h (λss us H1 h1 S1 t1=>?_) λc H' hc S'=>qx γ c H' hc (env.grow S') (Fr.grow S')⟩;rw[YO];split at h1
  ·rename_i ss' ep;exact Lh (X:=λ_ _=>False) env hB S1 hi hv t1 ep h1 q λ_ _ _ z=>z.elim
  ·exact h1.elim
 ·exact h.elim
def BV{α:Type}:∀{l:List α}{i j:Nat}{x:α},l.Nodup->l[i]?=some x->l[j]?=some x->i=j
 |[],_,_,_,_,h,_=>by simp at h
 |y::r,0,0,_,_,_,_=>rfl
 |y::r,0,j+1,x,hn,h1,h2=>by
  have e:y=x:=by simpa using h1
  exact absurd (e▸Yv (show r[j]?=some x by simpa using h2)) (Y8.mp hn).1
 |y::r,i+1,0,x,hn,h1,h2=>by
  have e:y=x:=by simpa using h2
  exact absurd (e▸Yv (show r[i]?=some x by simpa using h1)) (Y8.mp hn).1
 |y::r,i+1,j+1,x,hn,h1,h2=>YD (· + 1) (BV (l:=r) (Y8.mp hn).2 (by simpa using h1) (by simpa using h2))
def EnvR.cell {i j:Nat}{x C:Addr}{xs:List Str}{cs:List (Addr×List D)}{b:Addr}{ds es:List D}{us:List V} (env:EnvR K H0 B H σ γ) (hi:γ[i]?=some (some (.own (.ins x C xs cs)))) (hj:cs[j]?=some (b,ds)) (r:Rps K (off (zof B γ σ) H) es us) :
  EnvR K H0 B (upd H b (.lst us)) σ (γ.set i (some (.own (.ins x C xs (cs.set j (b,es))))))/\Fr B H σ γ (upd H b (.lst us)) σ (γ.set i (some (.own (.ins x C xs (cs.set j (b,es)))))):=by
 obtain⟨v,hv,a,rfl,e0,e1,e2,⟨dx,e3⟩,e4,e5⟩:=env.slot i _ hi;subst e1;have hjl:j<cs.length:=(Yk.mp hj).1;have hbm:(b,ds)∈cs:=Yv hj
 have hab:a≠b:=λz=>by
  obtain⟨ws,w1,_⟩:=e4 _ hbm;rw[←show a=b from z,e3]at w1
  cases w1
 have em:(cs.set j (b,es)).map (·.1)=cs.map (·.1):=by
  apply Ve;intro k;rw[Ye,Ye,List.getElem?_set];by_cases e:j=k
  ·subst e;rw[Ya rfl,Ya hjl,hj];rfl
  ·rw[ZZ e]
 have em2:(cs.set j (b,es)).map (λc=>V.ref c.1)=cs.map λc=>V.ref c.1:=by
  have:=YD (List.map V.ref) em
  rw[YL,YL]at this;exact this
 have adr:∀c,(O.ins a C xs (cs.set j (b,es))).adr a c->(O.ins a C xs cs).adr a c:=λc hc=>by
  rcases hc with hc|⟨d,hd,hc⟩
  ·exact .inl hc
  ·have:d.1∈(cs.set j (b,es)).map (·.1):=QT hd
   rw[em]at this;obtain⟨d',q1,q2⟩:=Y4.mp this;exact .inr ⟨d',q1,hc.trans q2.symm⟩
 have zb:∀c,(O.ins a C xs cs).adr a c->zof B γ σ c:=λc hc=>.inr ⟨i,_,a,hi,hv,hc⟩
 have So:Same (off (zof B γ σ) H) (off (zof B (γ.set i (some (.own (.ins a C xs (cs.set j (b,es)))))) σ) (upd H b (.lst us))):=λc u h=>by
  obtain⟨q1,q2⟩:=UV h;have nb:c≠b:=λz=>q2 (zb c (.inr ⟨_,hbm,z⟩));refine JK (by rw[Jn nb];exact q1) λz=>q2 ?_;rcases z with z|⟨k,fs,a',k1,k2,k3⟩
  ·exact .inl z
  ·rcases JM k1 with⟨ek,q,_⟩|⟨_,q⟩
   ·subst ek;cases q
    rw[hv]at k2;cases k2
    exact zb c (adr c k3)
   ·exact .inr ⟨k,fs,a',q,k2,k3⟩
 refine env.change hi hv (λc u hu n=>?_) (λc hc=>?_) (λc hc=>.inl (adr c hc)) ⟨rfl,by rw[Wo];exact e2,⟨dx,?_⟩,λc hc=>?_,by rw[em];exact e5⟩
 ·rw[Jn λz=>n (.inr ⟨_,hbm,z⟩)];exact hu
 ·by_cases z:c=b
  ·rw[z,Jw];trivial
  ·rw[Jn z];exact env.zm c (zb c hc)
 ·rw[Jn hab,em2];exact e3
 ·obtain⟨k,hk,ek⟩:=List.getElem_of_mem hc;have hk':(cs.set j (b,es))[k]?=some c:=by rw[ZU hk,ek]
  rcases JM hk' with⟨_,q,_⟩|⟨nk,q⟩
  ·subst q;exact⟨us,Jw,Rps.mono So r⟩
  ·obtain⟨ws,w1,w2⟩:=e4 c (Yv q)
   have nb:c.1≠b:=λz=>nk (by
    have h1:(cs.map (·.1))[k]?=some b:=by rw[Ye,q];exact YD some z
    have h2:(cs.map (·.1))[j]?=some b:=by rw[Ye,hj];rfl
    exact BV e5 h1 h2)
   exact⟨ws,by rw[Jn nb];exact w1,Rps.mono So w2⟩
def Ao(i j:Nat)(C:Addr)(xs:List Str)(a:PTE):PTW:=λγ R X=>match γ[i]? with
 |some (some (.own (.ins x C' xs' cs)))=>C'=C/\xs'=xs/\∃c,cs[j]?=some c/\a γ (λs=>match s.shd with
  |some d=>c.2.length<10000000/\R (γ.set i (some (.own (.ins x C' xs' (cs.set j (c.1,c.2++[d])))))) .non
  |none=>False) (X γ)
 |_=>False
def Si(i j:Nat){C:Addr}{f:Str}{xs:List Str}{a:PTE}(hc:Cls K C)(hn:NoAttr K C f)(hj:FldAt f xs j)(ha:SndE K mg E te a):SndW K mg E (tBM K "list" SQ (tFld K (tVar i) f) (Ua te tNil)) (Ao i j C xs a):=by
 intro H0 B H σ γ R X Q hB env h q qx;unfold Ao at h;split at h
 ·rename_i x C' xs' cs hi;obtain⟨rfl,rfl,c,ec,h⟩:=h;obtain⟨v,hv,b,rfl,_,e1,e2,⟨dx,e3⟩,e4,e5⟩:=env.slot i _ hi;obtain⟨us,u1,u2⟩:=e4 c (Yv ec);refine⟨_,hv,b,_,dx,_,V.ref c.1,rfl,e3,hc,hn,?_,.inl ⟨rfl,us,SqL.of u1⟩,ha H0 B H σ γ _ _ _ env h (λs u H1 h1 S1 t1=>?_) λc H' hc S'=>qx γ c H' hc (env.grow S') (Fr.grow S')⟩
  ·rw[hj _ (by rw[ZV];exact e2),Ye,ec];rfl
  ·have env1:=env.grow S1;split at h1
   ·rename_i d ed;have rd:=t1.shd env1.same env.zm S1 ed;refine⟨c.1,us,u,rfl,rfl,S1 _ _ u1,by rw[u2.len];exact WY h1.1 (by decide),?_⟩;obtain⟨k1,k2⟩:=env1.cell (es:=c.2++[d]) (us:=us++[u]) hi ec (Rps.append (Rps.mono (Jy S1 λ_ _ _ z=>z) u2) (.cons rd .nil));exact q _ _ _ _ h1.2 k1 ((Fr.grow S1).trans k2) .non
   ·exact h1.elim
 ·exact h.elim
def PutAt(f:Str)(xs:List Str):Prop:=∀(vs:List V) (y:V),xs.length=vs.length->putF f y (xs.zip vs)=(xs++[f]).zip (vs++[y])
def OA(i:Nat)(C:Addr)(f:Str)(xs:List Str)(a:PTE):PTS:=λR γ=>a γ (λs=>match s with
 | .own (.lst ds)=>(match γ[i]? with
  |some (some (.own (.ins x C' xs' cs)))=>C'=C/\xs'=xs/\xs.length<1000/\∀b,R.nx (γ.set i (some (.own (.ins x C' (xs++[f]) (cs++[(b,ds)])))))
  |_=>False)
 |_=>False) (R.ex γ)
def Bt(i:Nat){C:Addr}{f:Str}{xs:List Str}{a:PTE}(hc:Cls K C)(hn:NoAttr K C f)(hp:PutAt f xs)(ha:SndE K mg E te a):SndS K mg E (sFld K (tVar i) te f) (OA i C f xs a):=by
 intro H0 B H σ γ R D hB env h e;refine ha H0 B H σ γ _ _ _ env h (λs v H1 h1 S1 t1=>?_) λc H' hc S'=>e.ex σ γ c H' hc (env.grow S') (Fr.grow S');have env1:=env.grow S1;split at h1
 ·rename_i ds;split at h1
  ·rename_i x C' xs' cs hi;obtain⟨rfl,rfl,hl,h1⟩:=h1;obtain⟨u,hv,b,rfl,e0,e1,e2,⟨dx,e3⟩,e4,e5⟩:=env.slot i _ hi;subst e1;obtain⟨l,rfl,l0,vs,l1,l2⟩:=t1;have l0:H l=none:=l0 l rfl;have na:b≠l:=JO e3 l0;refine⟨_,hv,b,_,dx,_,rfl,S1 _ _ e3,hc,hn,?_,?_⟩
   ·rw[List.length_zip,ZV];omega
   ·rw[hp _ _ (by rw[ZV];exact e2)]
    have nl:∀c∈cs,c.1≠l:=λc hc=>by
     obtain⟨ws,w1,_⟩:=e4 c hc;exact JO w1 l0
    have nb:∀c∈cs,c.1≠b:=λc hc z=>by
     obtain⟨ws,w1,_⟩:=e4 c hc;rw[z,e3]at w1;cases w1
    have zb:∀c,(O.ins b C' xs' cs).adr b c->zof B γ σ c:=λc hc=>.inr ⟨i,_,b,hi,hv,hc⟩
    have key:∀c u,H1 c=some u->¬(zof B γ σ c\/c=l)->¬zof B (γ.set i (some (.own (.ins b C' (xs'++[f]) (cs++[(l,ds)]))))) σ c:=λc u _ n z=>by
     rcases z with z|⟨k,fs,a',k1,k2,k3⟩
     ·exact n (.inl (.inl z))
     ·rcases JM k1 with⟨ek,q,_⟩|⟨_,q⟩
      ·subst ek;cases q
       rw[hv]at k2;cases k2
       rcases k3 with k3|⟨d,hd,k3⟩
       ·exact n (.inl (zb c (.inl k3)))
       ·rcases Yt.mp hd with hd|hd
        ·exact n (.inl (zb c (.inr ⟨d,hd,k3⟩)))
        ·rw[ZX]at hd;subst hd;exact n (.inr k3)
      ·exact n (.inl (.inr ⟨k,fs,a',q,k2,k3⟩))
    have So:Same (off (λc=>zof B γ σ c\/c=l) H1) (off (zof B (γ.set i (some (.own (.ins b C' (xs'++[f]) (cs++[(l,ds)]))))) σ) (upd H1 b (.ins C' dx ((xs'++[f]).zip ((cs.map λc=>V.ref c.1)++[.ref l]))))):=λc u h=>by
     obtain⟨q1,q2⟩:=UV h;exact JK (by rw[Jn λz=>q2 (.inl (zb c (.inl z)))];exact q1) (key c u q1 q2)
    have S0:Same (off (zof B γ σ) H) (off (λc=>zof B γ σ c\/c=l) H1):=Jy S1 λc u hc z y=>y.elim z λy=>by rw[y,l0]at hc;cases hc
    obtain⟨k1,k2⟩:=env.change (o':=.ins b C' (xs'++[f]) (cs++[(l,ds)])) (H':=upd H1 b (.ins C' dx ((xs'++[f]).zip ((cs.map λc=>V.ref c.1)++[.ref l])))) hi hv
     (λc u hu n=>by rw[Jn λz=>n (.inl z)];exact S1 _ _ hu)
     (λc hc=>by
      by_cases z:c=b
      ·rw[z,Jw];trivial
      ·rw[Jn z];exact env1.zm c (zb c hc))
     (λc hc=>by
      rcases hc with hc|⟨d,hd,hc⟩
      ·exact .inl (.inl hc)
      ·rcases Yt.mp hd with hd|hd
       ·exact .inl (.inr ⟨d,hd,hc⟩)
       ·rw[ZX]at hd;subst hd;exact .inr (by rw[show c=l from hc];exact l0))
     ⟨rfl,by rw[Yl,Yl,e2];rfl,⟨dx,by rw[Jw,Yu];rfl⟩,λc hc=>by
      rcases Yt.mp hc with hc|hc
      ·obtain⟨ws,w1,w2⟩:=e4 c hc;exact⟨ws,by rw[Jn (nb c hc)];exact S1 _ _ w1,Rps.mono So (Rps.mono S0 w2)⟩
      ·rw[ZX]at hc;subst hc;exact⟨vs,by rw[Jn (λz=>na z.symm)];exact l1,Rps.mono So l2⟩,by
      rw[Yu,YV]
      exact⟨e5,by simp,λc hc d hd z=>by
       obtain⟨c',q1,q2⟩:=Y4.mp hc
       have:d=l:=by simpa using hd
       exact nl c' q1 (q2.trans (z.trans this))⟩⟩
    exact e.nx _ _ _ (h1 l) k1 k2
  ·exact h1.elim
 ·exact h1.elim
def ER{C:Addr}{c:Pw}{ss ss':List S}{us:List V}{R:S->Prop}{X:XR}{Q:VK}{Ec:XK}(env:EnvR K H0 B H σ γ)(S1:Same H H1)(t1:TVs K (zof B γ σ) H0 H H1 ss us)(ep:passes ss=some ss')(h1:∀x,c (.ins x C [] []) ss' (λo' d=>d=.non/\R (.own o')) (λ_ e=>X e))(q:∀s v H',R s->Same H H'->TV K (zof B γ σ) H0 H H' s v->Q v H')(qx:∀c H',X c->Same H H'->XE mg Ec c H') :
  ∀x dx,H1 x=none->H1 dx=none->dx≠x->spW mg c K (.ref x::us) (upd (upd H1 dx (.own x)) x (.ins C dx [])) (λv H2=>v=.non/\Q (.ref x) H2) Ec:=by
 have env1:=env.grow S1;intro x dx nx ndx nex
 have S2:Same H1 (upd (upd H1 dx (.own x)) x (.ins C dx [])):=λb o e=>by
  rw[Jn (JO e nx),Jn (JO e ndx)];exact e
 have aft:∀o' H',After K (zof B γ σ) (upd (upd H1 dx (.own x)) x (.ins C dx [])) x (.ins x C [] []) o' H'->Same H1 H'/\∀b,o'.adr x b->H b=none:=λo' H' A=>by
  refine⟨λb o e=>A.same b o (JK (S2 b o e) λz=>?_),λb hb=>?_⟩
  ·rcases z with z|⟨c,hc,_⟩
   ·rw[z,nx]at e;cases e
   ·cases hc
  ·rcases A.new b hb with(z|⟨c,hc,_⟩)|z
   ·rw[z];exact S1.free nx
   ·cases hc
   ·exact S1.free (S2.free z)
 refine⟨.ins x C [] [],x,ss',us,zof B γ σ,_,_,rfl,λb hb=>⟨Xi S2 (env1.zm b hb),λz=>?_⟩,⟨rfl,rfl,⟨dx,Jw⟩,(λc hc=>by cases hc),Wx⟩,?_,Bw ep,h1 x,λo' d v H' hR A rd=>?_,λo' e H' hX A=>?_⟩
 ·rcases z with z|⟨c,hc,_⟩
  ·have:=env1.zm b hb
   rw[z,nx]at this;exact this
  ·cases hc
 ·refine t1.pass env1.same env.zm S1 (λb o e=>JK (S2 _ _ (env1.same b o e)) λz=>?_) (Jy S2 λb o e z y=>?_) ep
  ·rcases z with z|⟨c,hc,_⟩
   ·rw[z,(env1.same).free nx]at e;cases e
   ·cases hc
  ·rcases y with y|y|⟨c,hc,_⟩
   ·exact z y
   ·rw[y,nx]at e;cases e
   ·cases hc
 ·obtain⟨rfl,hR⟩:=hR;obtain⟨k1,k2⟩:=aft o' H' A;exact⟨Rp.non_inv rd,q _ _ H' hR (S1.trans k1) ⟨x,rfl,k2,A.at_⟩⟩
 ·exact qx e H' hX (S1.trans (aft o' H' A).1)
def M9(C:Addr)(c:Pw)(r:PTA):PTE:=λγ R X=>r γ (λss=>match passes ss with|some ss'=>∀x,c (.ins x C [] []) ss' (λo' d=>d=.non/\R (.own o')) (λ_ _=>False)|none=>False) X
def RJ{C:Addr}{c:Pw}{ta:TA}{r:PTA}(hr:SndA K mg E ta r):SndE K mg E (SU C (spW mg c K) [] E0 ta) (M9 C c r):=by
 intro H0 B H σ γ R X Q env p q qx;refine hr H0 B H σ γ _ X _ env p (λss us H1 h1 S1 t1=>?_) qx;split at h1
 ·rename_i ss' ep;rw[YO];exact ER (X:=λ_=>False) env S1 t1 ep h1 q λ_ _ z=>z.elim
 ·exact h1.elim
end
def len1{α:Type}{us:List α}(h:us.length=1):∃a,us=[a]:=List.length_eq_one_iff.mp h
def len2{α:Type}{us:List α}(h:us.length=2):∃a b,us=[a,b]:=by
 cases us with
 |nil=>cases h
 |cons a r=>obtain⟨b,rfl⟩:=len1 (us:=r) (by simpa using h);exact⟨a,b,rfl⟩
def len3{α:Type}{us:List α}(h:us.length=3):∃a b c,us=[a,b,c]:=by
 cases us with
 |nil=>cases h
 |cons a r=>obtain⟨b,c,rfl⟩:=len2 (us:=r) (by simpa using h);exact⟨a,b,c,rfl⟩
def len4{α:Type}{us:List α}(h:us.length=4):∃a b c d,us=[a,b,c,d]:=by
 cases us with
 |nil=>cases h
 |cons a r=>obtain⟨b,c,d,rfl⟩:=len3 (us:=r) (by simpa using h);exact⟨a,b,c,d,rfl⟩
def len5{α:Type}{us:List α}(h:us.length=5):∃a b c d e,us=[a,b,c,d,e]:=by
 cases us with
 |nil=>cases h
 |cons a r=>obtain⟨b,c,d,e,rfl⟩:=len4 (us:=r) (by simpa using h);exact⟨a,b,c,d,e,rfl⟩
structure DefM (K:Za) (W:Addr->Prop) (x q:Str) (st:Stmt) (ps:List Str):Prop where
 ex:∃f fd,Fun K x q st f fd/\W f/\Binds K fd ps []
structure CalleeM (P:Program) (w:World) (K:Za) (mg:Str->Option Value) (base:Heap) (CX:CXT) (k:Nat) (W:Addr->Prop) (ps:List Str) (sp:Sp):Prop where
 ex:∃f fd,FnOk P w K mg base CX k f fd ps sp/\W f/\Binds K fd ps []
section
variable {P:Program}{w:World}{K:Za}{mg:Str->Option Value}{base:Heap}{W:Addr->Prop}
def DefM.ok {x q:Str}{st:Stmt}{N ps:List Str}{k:Nat}{sp:Sp} (D:DefM K W x q st ps) (S:FnScope N ps (Jk st)) (len:∀vs H Q E,sp vs H Q E->vs.length=ps.length)
  (hbody:∀(f:Addr) (cdv:Value) (A:Around) (outer:List Env) (s:Shared) (H:Hp) (vs:List V) (Q:VK) (E:XK),Room k (A.deeper (envOfC q (Jk st) s.heap.objs.size f cdv))->sp vs H Q E->
   ∃t,PSs (cxOf CX0 P w K mg base N q (Jk st) f cdv A outer s H E).nox (JV st) t/\t {nx:=λ_ H'=>Q .non H',rt:=Q} (start N vs) H):CalleeM P w K mg base CX0 (k+1) W ps sp:=by
 obtain⟨f,fd,F,hm,hb⟩:=D.ex;exact⟨f,fd,F.ok S len λcdv A outer s H vs Q E hr h=>hbody f cdv A outer s H vs Q E hr h,hm,hb⟩
def DefM.okX {x q:Str}{st:Stmt}{N ps:List Str}{k:Nat}{sp:Sp} (D:DefM K W x q st ps) (S:FnScope N ps (Jk st)) (len:∀vs H Q E,sp vs H Q E->vs.length=ps.length)
  (hbody:∀(f:Addr) (cdv:Value) (A:Around) (outer:List Env) (s:Shared) (H:Hp) (vs:List V) (Q:VK) (E:XK),Room k (A.deeper (envOfC q (Jk st) s.heap.objs.size f cdv))->sp vs H Q E->
   ∃t,PSs (cxOf (ExcR.CXe P w) P w K mg base N q (Jk st) f cdv A outer s H E) (JV st) t/\t {nx:=λ_ H'=>Q .non H',rt:=Q} (start N vs) H):CalleeM P w K mg base (ExcR.CXe P w) (k+1) W ps sp:=by
 obtain⟨f,fd,F,hm,hb⟩:=D.ex;obtain⟨oc,od,kV,doc,pm,an,cdv,ct,osl,rfl,lk,hcd⟩:=F.ex;exact⟨f,_,NO lk hcd S len λA outer s H vs Q E hr hsp=>hbody f cdv A outer s H vs Q E hr hsp,hm,hb⟩
def P7{X:Cx}:UE (ExcR.CXe P w) X E0:=λ_ _ _ _ _ _ _ h=>by
 obtain⟨a,T,C,dx,H',_,_,z⟩:=h;exact z.elim
end
section
variable {X:Cx}{CX:CXT}{k:Nat}{Cc:Addr}{ps:List Str}{sp:Sp}{E:XK}{ES:L2.St->XK}{x m:Str}{p pos apos:Pos}{e o:Expr}{es:List Expr}{ta:TE}{t:TA}
def Tz{pl:Sem Bool}(C:CalleeM X.prog X.w X.K X.mg X.base CX k (Meth X.K Cc m) ps sp)(c:Cls X.K Cc)(hr:Room k X.A)(hx:UE CX X E)(he:PE X o ta)(ha:PA X (e::es) t)(hst:starEach (e::es) X.env=(false,eval e X.env)::starEach es X.env:=by rfl)(hpl:(backTo pos (starEach es X.env)).any (·.1)=false:=by rfl)
  (ht:eval (.Call (.Attribute o m apos) (e::es) [] pos) X.env=(do
   let ov ←eval o X.env
   standAt apos.atName
   let (f,first) ←holding [ov] (getMethod ov m pl)
   callWith pos f first (backTo pos (starEach (e::es) X.env)) (backToKw pos (keywordEach [] X.env))):=by rfl) :
  PE X (.Call (.Attribute o m apos) (e::es) [] pos) (Kg Cc m sp [] E ta t):=by
 obtain⟨f,fd,F,hm,hb⟩:=C.ex;exact IZ he c hm F hr hb .nil hx ha hst hpl ht
def Up{pl:Sem Bool}(C:CalleeM X.prog X.w X.K X.mg X.base CX k (Meth X.K Cc m) ps sp)(c:Cls X.K Cc)(hr:Room k X.A)(hx:UE CX X E)(he:PE X o ta)
  (ht:eval (.Call (.Attribute o m apos) [] [] pos) X.env=(do
   let ov ←eval o X.env
   standAt apos.atName
   let (f,first) ←holding [ov] (getMethod ov m pl)
   callWith pos f first (backTo pos (starEach [] X.env)) (backToKw pos (keywordEach [] X.env))):=by rfl) :
  PE X (.Call (.Attribute o m apos) [] [] pos) (Kg Cc m sp [] E ta tNil):=by
 obtain⟨f,fd,F,hm,hb⟩:=C.ex;exact Oj he c hm F hr hb .nil hx ht
def RQ{f:Addr}{fd:FuncData}{pins:List (Addr×Obj)}{σ:L2.St}{H:Hp}{s:Shared}{Q:VK}{us:List Value}{vs:List V}(F:FnOk X.prog X.w X.K X.mg X.base CX k f fd ps sp)(hr:Room k X.A)(hb:Binds X.K fd ps [])(hx:ExcR.By CX X ES)(I:Inv X pins σ H s)(r:Vals vs us)(h:sp vs H Q (ES σ)):wpAny (model X.prog X.w) X.A (call (.ref f) us) (EP X pins σ Q) X.xe s:=by
 have hl:(us++[]).length=ps.length:=by rw[YO,←r.length];exact F.len _ _ _ _ h
 refine QG (W1 (F.run X.A X.stack s H ⟨us,[]⟩ (us++[]) vs Q (ES σ) hr I.env0 (hb s us I.kIn hl) (by simpa using r) h) λr s' hq=>?_);cases r with
 |error e=>exact hx pins σ H s e s' I hq
 |ok fl=>
  cases fl with
  |ret u=>exact I.after hq
  |next=>exact False.elim hq
  |brk=>exact False.elim hq
  |cont=>exact False.elim hq
def LI{pl:Sem Bool}(C:CalleeM X.prog X.w X.K X.mg X.base CX k (Meth X.K Cc m) ps sp)(c:Cls X.K Cc)(hr:Room k X.A)(hx:ExcR.By CX X ES)(he:PE X o ta)
  (ht:eval (.Call (.Attribute o m apos) [] [] pos) X.env=(do
   let ov ←eval o X.env
   standAt apos.atName
   let (f,first) ←holding [ov] (getMethod ov m pl)
   callWith pos f first (backTo pos (starEach [] X.env)) (backToKw pos (keywordEach [] X.env))):=by rfl) :
  PE X (.Call (.Attribute o m apos) [] [] pos) (Ad Cc m sp ES ta tNil):=by
 obtain⟨f,fd,F,hm,hb⟩:=C.ex;intro pins s σ H Q I h;refine WX (pl:=pl) (thn (he pins s σ H _ I h) λu s1 ⟨x,H1,I1,rx,a,dx,fs,ex,ea,l,q⟩=>?_) ht;subst ex;obtain rfl:u=Value.ref a:=rx;refine Th I1 ea c hm l ?_;exact PySem.W.callWith_K0 (first:=[.ref a]) I1.kIn hm.kp (RQ (us:=[.ref a]) (vs:=[.ref a]) F hr hb hx I1 (.cons rfl .nil) q)
def HC(C:CalleeM X.prog X.w X.K X.mg X.base CX k (Mk X.K Cc) ps sp)(hm:X.mg x=some (.ref Cc))(hr:Room (k+1) X.A)(hx:UE CX X E)(ha:PA X (e::es) t)(hg:Gl X x:=by rfl)(hdb:(x==("__debug__" : Str))=false:=by decide)(he:starEach (e::es) X.env=(false,eval e X.env)::starEach es X.env:=by rfl)(hpl:(backTo pos (starEach es X.env)).any (·.1)=false:=by rfl) :
  PE X (.Call (.Name x p) (e::es) [] pos) (SU Cc sp [] E t):=by
 obtain⟨f,fd,F,M,hb⟩:=C.ex;exact Ml M F hr hg hm hb .nil hx ha hdb he hpl
end
abbrev PTF:=Γ->Str->(Str->Prop)->XR->Prop
section
variable {K:Za}{mg:Str->Option Value}{E:L2.St->XK}{t:ExcR.TF}{p:PTF}{te:TE}{a:PTE}
def SndF(K:Za)(mg:Str->Option Value)(E:L2.St->XK)(t:ExcR.TF)(p:PTF):Prop:=∀(H0:Hp) (B:Addr->Prop) (H:Hp) (σ:L2.St) (γ:Γ) (out:Str) (R:Str->Prop) (X:XR) (Q:Str->Hp->Prop),EnvR K H0 B H σ γ->p γ out R X->
 (∀x H',R x->Same H H'->Q x H')->(∀c H',X c->Same H H'->XE mg (E σ) c H')->t σ H out Q
def HQ:PTF:=λ_ out R _=>out.length<=sizeLine/\R out
def KE:SndF K mg E ExcR.fNil HQ:=λH0 B H σ γ out R X Q env h q _=>⟨h.1,q _ H h.2 (Same.refl _)⟩
def HD(x:Str)(p:PTF):PTF:=λγ out R X=>(out++x).length<=sizeLine/\p γ (out++x) R X
def Xu{x:Str}(h:SndF K mg E t p):SndF K mg E (ExcR.fStr x t) (HD x p):=λH0 B H σ γ out R X Q env hp q qx=>⟨hp.1,h H0 B H σ γ _ R X Q env hp.2 q qx⟩
def Oi(a:PTE)(p:PTF):PTF:=λγ out R X=>a γ (λs=>match s.d with
 | .int i=>i.natAbs.log2<1920/\(out++(Str.ofString (toString i))).length<=sizeLine/\p γ (out++Str.ofString (toString i)) R X
 | .str x=>x.length<=sizeLine/\(out++x).length<=sizeLine/\p γ (out++x) R X
 |_=>False) X
def Pz(ha:SndE K mg E te a)(h:SndF K mg E t p):SndF K mg E (ExcR.fVal te t) (Oi a p):=λH0 B H σ γ out R X Q env hp q qx=>by
 refine ha H0 B H σ γ _ X _ env hp (λs v H1 h1 S1 t1=>?_) qx;have env1:=env.grow S1;have rs:=t1.rp env1.same;split at h1
 ·rename_i i ei;rw[ei]at rs;exact .inl ⟨i,rs.int_inv,h1.1,h1.2.1,h H0 B H1 σ γ _ R X Q env1 h1.2.2 (λx H' hx S'=>q x H' hx (S1.trans S')) λc H' hc S'=>qx c H' hc (S1.trans S')⟩
 ·rename_i x ex;rw[ex]at rs;exact .inr ⟨x,rs.str_inv,h1.1,h1.2.1,h H0 B H1 σ γ _ R X Q env1 h1.2.2 (λx H' hx S'=>q x H' hx (S1.trans S')) λc H' hc S'=>qx c H' hc (S1.trans S')⟩
 ·exact h1.elim
def pF(p:PTF):PTE:=λγ R X=>p γ Str.empty (λx=>R (.sh (.str x))) X
def se_f(h:SndF K mg E t p):SndE K mg E (ExcR.tF t) (pF p):=λH0 B H σ γ R X Q env hp q qx=>
 h H0 B H σ γ _ _ X _ env hp (λx H' hx S'=>q _ _ H' hx S' (.str x)) qx
end
open M
abbrev plD(f:List (Int×Int)):D:=.lst (f.map prD)
abbrev dD(q:Str×List Int):D:=.tup (.str q.1::q.2.map D.int)
abbrev vF:List Str:=["book","fields","wished"]
abbrev vO(C x b1 b2 b3:Addr)(bk:List (Str×List Int))(fs ws:List (List (Int×Int))):O:=.ins x C vF [(b1,bk.map dD),(b2,fs.map plD),(b3,ws.map plD)]
abbrev vilD(C:Addr)(bk:List (Str×List Int))(fs ws:List (List (Int×Int))):D:=.ins C vF [.lst (bk.map dD),.lst (fs.map plD),.lst (ws.map plD)]
def Tn{α:Type}(f:α->D)(xs:List α)(x:α):atI ((xs++[x]).map f) (-1)=some (f x):=by
 refine Uv ?_;unfold atI ixN;rw[ZZ (by omega),Ya (by rw[Yl,Wj];omega)];show(xs++[x])[_]?=some x;have e:((-1:Int)+((xs++[x]).length:Int)).toNat=xs.length:=by rw[Yl,Wj];omega
 rw[e,YY (Yc _),Nat.sub_self];rfl
def Xm(e:Option Str)(X:Str->Prop)(R:Prop):Prop:=match e with|some c=>X c|none=>R
def Pf(h:Int):Option Str:=if 1<=h/\h<=10 then none else some "BadHolder"
def X1:List (Int×Int)->Option Str
 |[]=>none
 |q::r=>if ¬(1<=q.1/\q.1<=10)then some "BadHolder" else if ¬(1<=q.2/\q.2<=1000)then some "BadWidth" else X1 r
def K4(ps:List (Int×Int)):Option Str:=if 40<ps.length then some "TooManyStrips" else X1 ps
def Fu:∀{ps:List (Int×Int)},Field ps->X1 ps=none
 |[],_=>rfl
 |q::r,h=>by
  obtain⟨h1,h2,h3,h4⟩:=h q Yz;unfold X1;rw[ZZ (λz=>z ⟨h1,h2⟩),ZZ (λz=>z ⟨h3,h4⟩)];exact Fu λx hx=>h x (Yq _ hx)
def IX{ps:List (Int×Int)}(h:Field ps)(hl:ps.length<=40):K4 ps=none:=by
 unfold K4;rw[ZZ (by omega)];exact Fu h
def EF(q:Int×Int)(r:List (Int×Int)):X1 (q::r)=if ¬(1<=q.1/\q.1<=10)then some ("BadHolder" : Str)else if ¬(1<=q.2/\q.2<=1000)then some ("BadWidth" : Str)else X1 r:=rfl
def Ee:∀{a b:List Int},sl a b->¬sl b a
 |[],_,h,_=>by cases h
 |_::_,[],h,_=>by cases h
 |a::r,b::t,h,k=>by
  rcases h with h|⟨e,h⟩
  ·rcases k with k|⟨e,_⟩<;>omega
  ·rcases k with k|⟨_,k⟩
   ·omega
   ·exact Ee h k
def Xp(ws:List (Int×Int))(a b:Int):Option Str:=if ¬(1<=a/\a<=10)then some "BadHolder" else if ¬(1<=b/\b<=10)then some "BadHolder" else if a=b then some "LikeHolders" else if (a,b)∈ws then some "WishStands" else if 20<=ws.length then some "TooManyWishes" else none
def Kw(ws:List (Int×Int))(a b:Int):Option Str:=if (a,b)∈ws then none else some "NoWish"
def Xn(ws:List (Int×Int))(a b:Int):List (Int×Int):=ws.filter λq=>!decide (q=(a,b))
def Rn{ws:List (Int×Int)}{a b:Int}(h:UI ws)(e:Xp ws a b=none):UI (ws++[(a,b)]):=by
 unfold Xp at e;split at e
 ·cases e
 split at e
 ·cases e
 split at e
 ·cases e
 split at e
 ·cases e
 split at e
 ·cases e
 rename_i c1 c2 c3 c4 c5;obtain⟨h1,h2,h3⟩:=h;have k1:=Classical.not_not.mp c1;have k2:=Classical.not_not.mp c2;refine⟨by rw[Yl,Wj];omega,?_,λq hq=>?_⟩
 ·rw[YV];exact⟨h2,by simp,λx hx y hy z=>by rw[ZX]at hy;subst hy;exact c4 (z▸hx)⟩
 ·rcases Yt.mp hq with hq|hq
  ·exact h3 q hq
  ·rw[ZX]at hq;subst hq;exact⟨⟨k1.1,k1.2,k2.1,k2.2⟩,c3⟩
def Mu:UI []:=⟨by decide,Wx,λq hq=>by cases hq⟩
def N3(m:List Int)(k:Int):Int:=1+(k*m.getD 1 0+m.getD 2 0) % 10
def OJ{m:List Int}(hM:Menu m){x y:Int}(hx:0<=x/\x<=9)(hy:0<=y/\y<=9)(h:x≠y):N3 m x≠N3 m y:=by
 obtain⟨a,b,c,d,e,rfl,ha,⟨_,_,hb⟩,hc,hd,he⟩:=hM;intro z;apply h;have z':1+(x*b+c) % 10=1+(y*b+c) % 10:=z;rcases hb with rfl|rfl|rfl|rfl<;>omega
def two_ne{o r p:Int}(h1:0<=o/\o<p)(h2:0<=r/\r<p-1):(0<=(o+1+r) % p/\(o+1+r) % p<p)/\o≠(o+1+r) % p:=by
 refine⟨⟨Wg _ (by omega),Wd _ (by omega)⟩,?_⟩;by_cases h:o+1+r<p
 ·rw[Vf (by omega) h];omega
 ·rw[←Int.sub_emod_right,Vf (by omega) (by omega)];omega
def DY{ws:List (Int×Int)}{a b:Int}(h1:1<=a/\a<=10)(h2:1<=b/\b<=10)(h3:a≠b)(h4:(a,b)∉ws)(h5:ws.length<20):Xp ws a b=none:=by
 unfold Xp;rw[ZZ (λz=>z h1),ZZ (λz=>z h2),ZZ h3,ZZ h4,ZZ (by omega)]
def Mj{ws:List (Int×Int)}(h:UI ws){i:Nat}(hi:i<ws.length):Xp (ws.take i) ws[i].1 ws[i].2=none:=by
 obtain⟨⟨h1,h2,h3,h4⟩,h5⟩:=h.2.2 ws[i] (Yr hi);refine DY ⟨h1,h2⟩ ⟨h3,h4⟩ h5 (λz=>?_) (by rw[Y7];have:=h.1;omega);obtain⟨j,hj,e⟩:=Y9.mp z;rw[Y7]at hj;rw[Wr]at e
 have:=(Vg (h₀:=by omega) (h₁:=hi) h.2.1).mp (e.trans rfl)
 omega
abbrev d3(k:Str)(a b:Int):D:=.tup [.str k,.int a,.int b]
end Pu
namespace M
open PySem PySem.Spec PyProof.Rows L2 Own Pu
def GT(c:Int->Int->Int):∀o:List Int,oc c o.reverse=oc (λx y=>c y x) o
 |[]=>rfl
 |a::r=>by
  rw[List.reverse_cons,Tc,GT c r,KC (List.reverse_perm r)];simp only[oc];omega
def AC(ps:List (Int×Int)):∀o:List Int,oc (λx y=>pcM ps x y ps.length) o=ordM ps ps.length o
 |[]=>rfl
 |a::r=>by
  unfold oc ordM;rw[AC ps r]
def OD{ps:List (Int×Int)}{o:List Int}(hF:Field ps)(h:o.Perm (Js ps)):oc (λx y=>pcM ps x y ps.length) o=priM ps o ps.length:=by
 rw[AC];refine FV (h.nodup_iff.mpr ((Xc ps).imp (λh=>WI h))) ps.length λj hj=>?_;rw[Yp,ZU hj];exact h.mem_iff.mpr ((T8 hF).mpr (Y4.mpr ⟨_,Yr hj,rfl⟩))
def Ia{ps:List (Int×Int)}{o:List Int}(hF:Field ps)(h:o.Perm (Js ps)):∀p∈ps,p.1∈o:=λp hp=>h.mem_iff.mpr ((T8 hF).mpr (Y4.mpr ⟨p,hp,rfl⟩))
end M
namespace Pu
open PySem PySem.Spec PyProof.Rows L2 Own
section
variable {K:Za}{mg:Str->Option Value}{E:L2.St->XK}
def rNeT(K:Za):R2:=λx y H Q=>∃(p q:Addr) (xs ys:List V),x=.ref p/\y=.ref q/\SqT K H p xs/\SqT K H q ys/\xs.all Ux=true/\ys.all Ux=true/\Q (.bl (!eqL xs ys)) H
def Dp{X:Cx}(hu:X.A.units<cLine)(hK:X.K=K:=by rfl):OpR X (compareOp .NotEq) (rNeT K):=by
 subst hK;intro pins s σ H x y v u Q I rx ry h;obtain⟨p,q,xs,ys,rfl,rfl,hp,hq,f1,f2,k⟩:=h;obtain rfl:v=Value.ref p:=rx;obtain rfl:u=Value.ref q:=ry;obtain⟨us,r1,p1,_⟩:=I.tuple hp;obtain⟨ws,r2,p2,_⟩:=I.tuple hq;have l1:=r1.length;have l2:=r2.length;refine SeqAt.RcNeAt.tuples p1 p2 hu (λj h1 h2=>Nw r1 r2 f1 f2 j h1 h2) _ _ _ _ ⟨.bl (!eqL xs ys),H,I,?_,k⟩;show _=Value.bool (!eqL xs ys);unfold eqL;rw[Yo,Yo,←l1,←l2];by_cases e:xs.length=ys.length
 ·rw[Yb e,WM,←e,Nat.min_self,beq_self_eq_true,Bool.and_true]
 ·rw[Ym e,WE,YZ.mpr e,Bool.and_false]
def fNeT:S->S->(S->Prop)->Prop:=λx y R=>∃xs ys:List Int,x.d=.tup (xs.map D.int)/\y.d=.tup (ys.map D.int)/\R (.sh (.bl (!decide (xs=ys))))
def Aw{ta tb:TE}{a b:PTE}(ha:SndE K mg E ta a)(hb:SndE K mg E tb b):SndE K mg E (tOp (rNeT K) ta tb) (p2 a b fNeT):=by
 refine se_2 ha hb λH0 H H2 Z x y v u R Q s0 s1 hm tx ty h q=>?_;obtain⟨xs,ys,e1,e2,hR⟩:=h;have rx:=tx.rp s0;have ry:=ty.rp s0;rw[e1]at rx;rw[e2]at ry;obtain⟨p,us,rfl,hp,r1⟩:=Rp.tup_inv rx;obtain⟨p',ws,rfl,hp',r2⟩:=Rp.tup_inv ry;rw[r1.ints]at hp;rw[r2.ints]at hp';refine⟨p,p',_,_,rfl,rfl,SqT.of hp,SqT.of hp',Xg _,Xg _,?_⟩;rw[PK];exact q _ _ H2 hR (Same.refl _) (.bl _)
def BC{p q:Int×Int}{R:S->Prop}(h:R (.sh (.bl (!decide (p=q))))):fNeT (.sh (prD p)) (.sh (prD q)) R:=by
 refine⟨[p.1,p.2],[q.1,q.2],rfl,rfl,?_⟩
 have e:decide ([p.1,p.2]=[q.1,q.2])=decide (p=q):=by
  by_cases h:p=q
  ·rw[h,Yb rfl,Yb rfl]
  ·rw[Ym h,Ym];intro z;simp only[Qj,and_true]at z;exact h (Prod.ext z.1 z.2)
 rw[e];exact h
end
structure DI (K:Za) (x:Str) (st:Stmt):Prop where
 ex:∃f fd,PySem.W.nsIn K mainGlobals x=some (some (.ref f))/\Fun K x x st f fd
structure MI (K:Za) (C:Addr) (m q:Str) (st:Stmt):Prop where
 ex:∃f fd,PySem.W.findIn K (.ref C) m=some (some (.ref f))/\PySem.W.isFn K (.ref f)=true/\Fun K m q st f fd
section
variable {K:Za}{h:Heap}{mg:Str->Option Value}
def di{x:Str}{st:Stmt}{f:Addr}{oc:Value}{od an:Option Addr}{osl:Array (Option Value)}{kV doc pm cdv ct:Value}(a:PySem.W.nsIn K mainGlobals x=some (some (.ref f)))(l:K.lookup f=some ⟨oc,od,.func (PySem.W.fnOf x x (U4 st) (JV st) (Jk st) .none kV doc pm an cdv ct),osl⟩)(c:PySem.W.codeIn K cdv x=true)(k:PySem.W.keepIn K (.ref f)=true):DI K x st:=⟨f,_,a,PQ l c k⟩
def mi{C:Addr}{m q:Str}{st:Stmt}{f:Addr}{oc:Value}{od an:Option Addr}{osl:Array (Option Value)}{kV doc pm cdv ct:Value}(a:PySem.W.findIn K (.ref C) m=some (some (.ref f)))(i:PySem.W.isFn K (.ref f)=true)(l:K.lookup f=some ⟨oc,od,.func (PySem.W.fnOf m q (U4 st) (JV st) (Jk st) .none kV doc pm an cdv ct),osl⟩)(c:PySem.W.codeIn K cdv q=true)(k:PySem.W.keepIn K (.ref f)=true):MI K C m q st:=⟨f,_,a,i,PQ l c k⟩
def DI.d {x:Str}{st:Stmt}{ps:List Str} (D:DI K x st) (X:K.In h) (G0:h.Ns mainGlobals mg)
  (b:∀(kV doc pm:Value) (an:Option Addr) (cdv ct:Value) (us:List Value),us.length=ps.length->bindArgs (PySem.W.fnOf x x (U4 st) (JV st) (Jk st) .none kV doc pm an cdv ct) ⟨us,[]⟩=pure (ps.zip us)):Def K mg x st ps:=
 let ⟨_,_,a,F⟩:=D.ex
 ⟨_,_,F,YQ X G0 a,F.binds b⟩
def MI.d {C C':Addr}{m q:Str}{st:Stmt}{ps:List Str} (D:MI K C m q st) (e:C'=C)
  (b:∀(kV doc pm:Value) (an:Option Addr) (cdv ct:Value) (us:List Value),us.length=ps.length->bindArgs (PySem.W.fnOf m q (U4 st) (JV st) (Jk st) .none kV doc pm an cdv ct) ⟨us,[]⟩=pure (ps.zip us)):DefM K (Meth K C' m) m q st ps:=
 let ⟨_,_,a,i,F⟩:=D.ex
 ⟨_,_,F,by rw[e];exact⟨a,i,F.kp⟩,F.binds b⟩
def MI.i {C C':Addr}{q:Str}{st:Stmt}{ps:List Str} (D:MI K C "__init__" q st) (e:C'=C) (mk:PySem.W.makesIn K C=true) (kc:PySem.W.keepIn K (.ref C)=true)
  (b:∀(kV doc pm:Value) (an:Option Addr) (cdv ct:Value) (us:List Value),us.length=ps.length->bindArgs (PySem.W.fnOf "__init__" q (U4 st) (JV st) (Jk st) .none kV doc pm an cdv ct) ⟨us,[]⟩=pure (ps.zip us)):DefM K (Mk K C') "__init__" q st ps:=
 let ⟨_,_,a,i,F⟩:=D.ex
 ⟨_,_,F,by rw[e];exact⟨mk,a,i,kc⟩,F.binds b⟩
end
def fs{N P:List Str}{sc:Scope}(h1:sc.kind=.function:=by rfl)(h2:sc.isCoroutine=false:=by rfl)(h3:sc.isGenerator=false:=by rfl)(h4:N.Nodup:=by decide +kernel)(h5:N.take P.length=P:=by rfl)(h6:∀x∈P,sc.names.lookup x=some .local\/sc.names.lookup x=some .cell:=by decide +kernel)(h7:∀y∈sc.names,y.2≠.free:=by decide +kernel):FnScope N P sc:=⟨h1,h2,h3,h4,h5,h6,h7⟩
def pz{X:Cx}{pos:Pos}{x:Str}{e:Expr}{te:TE}{pos':Pos}(i:Nat)(hN:X.N.Nodup)(he:PE X e te)(hi:X.N[i]?=some x:=by rfl)(hx:Loc X.env.scope x:=by first|exact Or.inl rfl|exact Or.inr rfl)(hs:swapsWith e (some (.Name x pos')) pos.line X.env=pure false:=by rfl)(hf:X.fn x=true\/X.env.scope.names.lookup x=some .local:=by first|exact .inl rfl|exact .inr rfl|assumption) :
  PS X (.Assign [.Name x pos'] e pos) (tAsg te (Kr i)):=GG hN hi hx he hs hf
section
variable {K:Za}{mg:Str->Option Value}{E:L2.St->XK}{H0 H H1 H':Hp}{B Z Z':Addr->Prop}{σ:L2.St}{γ:Γ}
def two(o1 o2:O)(a1 a2:Addr):Addr->Prop:=λb=>o1.adr a1 b\/o2.adr a2 b
abbrev PTV:=Γ->(Γ->Bool->Prop)->(Γ->Str->Prop)->Prop
def SndV(K:Za)(mg:Str->Option Value)(E:L2.St->XK)(t:TT)(p:PTV):Prop:=∀(H0:Hp) (B:Addr->Prop) (H:Hp) (σ:L2.St) (γ:Γ) (R:Γ->Bool->Prop) (X:Γ->Str->Prop) (Q:Bool->Hp->Prop),(∀b,B b->∃o,H0 b=some o)->EnvR K H0 B H σ γ->p γ R X->
 (∀γ' b H',R γ' b->EnvR K H0 B H' σ γ'->Fr B H σ γ H' σ γ'->Q b H')->(∀γ' c H',X γ' c->EnvR K H0 B H' σ γ'->Fr B H σ γ H' σ γ'->XE mg (E σ) c H')->t σ H Q
def LN(p:PTV):PTV:=λγ R X=>p γ (λγ' b=>R γ' (!b)) X
def Hx{t:TT}{p:PTV}(hp:SndV K mg E t p):SndV K mg E (tNot t) (LN p):=by
 intro H0 B H σ γ R X Q hB env h q qx;exact hp H0 B H σ γ _ _ _ hB env h (λγ' b H' h1 e1 f1=>q γ' (!b) H' h1 e1 f1) qx
def pIfV(c:PTV)(p q:PTS):PTS:=λR γ=>c γ (λγ' b=>if b=true then p R γ' else q R γ') R.ex
def G9{tt:TT}{c:PTV}{t u:TS}{p q:PTS}(hc:SndV K mg E tt c)(hp:SndS K mg E t p)(hq:SndS K mg E u q):SndS K mg E (tIfS tt t u) (pIfV c p q):=by
 intro H0 B H σ γ R D hB env h e;refine hc H0 B H σ γ _ _ _ hB env h (λγ' b H' h1 e1 f1=>?_) λγ' c H' h1 e1 f1=>e.ex _ _ _ _ h1 e1 f1;cases b with
 |true=>
  rw[Ya rfl];exact hp H0 B H' σ γ' R D hB e1 (by simpa using h1) (e.from f1)
 |false=>
  rw[ZZ (by decide)];exact hq H0 B H' σ γ' R D hB e1 (by simpa using h1) (e.from f1)
def RN(w:PTW)(c:Pc)(r:PTA):PTV:=λγ R X=>w γ (λγ' d=>match d with | .int i=>pTru (FU c (Xt (pLst (Xt (pC (.int i)) pNil)) r)) γ' (λb=>R γ' b) (X γ')|_=>False) X
def EV{te:TE}{w:PTW}{c:Pc}{ta:TA}{r:PTA}(hw:SndW K mg E te w)(hr:SndA K mg E ta r):SndV K mg E (tTru K (XH (spOf mg c K) [] E0 (Ua (tLst (Ua te tNil)) ta))) (RN w c r):=by
 intro H0 B H σ γ R X Q hB env h q qx;refine hw H0 B H σ γ _ _ _ hB env h (λγ' d v H' h1 e1 f1 rd=>?_) qx;split at h1
 ·rename_i i;rw[rd.int_inv];exact JQ (Jr (JC (JI (JC (Je (i:=i)) J1)) hr)) H0 B H' σ γ' _ _ _ e1 h1 (λb H2 h2 S2=>q _ _ _ h2 (e1.grow S2) (f1.trans (Fr.grow S2))) λc H2 h2 S2=>qx _ _ _ h2 (e1.grow S2) (f1.trans (Fr.grow S2))
 ·exact h1.elim
end
open M
def A5{w:List (Int×Int)}{a b:Int}(h:(a,b)∈w):(Xn w a b).length<w.length:=by
 unfold Xn;refine Nat.lt_of_le_of_ne (YG _ _) λe=>?_
 have:=List.length_filter_eq_length_iff.mp e _ h
 simp at this
end Pu
namespace Pu
open PySem PySem.Spec PyProof.Rows L2 Own
section
variable {X:Cx}{k j:Nat}{x:Str}{ps:List Str}{sp:Sp}{e a b c:Expr}{es:List Expr}{t:TA}{te tf tg:TE}{p pos:Pos}
def fz(C:Callee X.prog X.w X.K X.mg X.base CX0 k x ps sp)(hr:Room j X.A)(ha:PA X (e::es) t)(hk:k<=j:=by decide)(hg:Gl X x:=by rfl)(hdb:(x==("__debug__" : Str))=false:=by decide)(he:starEach (e::es) X.env=(false,eval e X.env)::starEach es X.env:=by rfl)(hpl:(backTo pos (starEach es X.env)).any (·.1)=false:=by rfl) :
  PE X (.Call (.Name x p) (e::es) [] pos) (XH sp [] E0 t):=UH C (hr.mono hk) Uq ha hg hdb he hpl
def jx(K:Za)(ha:PE X a te)(hb:PE X b tf)(hK:X.K=K:=by rfl)(hs:AW b:=by intro _ _;rfl):PE X (.Subscript a b pos) (tOp (λx y H Q=>rIxL K x y H Q\/rIxT K x y H Q) te tf):=Nm (IJ hK) ha hb hs
def gz(i:Nat)(hN:X.N.Nodup)(hi:X.N[i]?=some x:=by rfl)(hx:Loc X.env.scope x:=by first|exact Or.inl rfl|exact Or.inr rfl)(hf:X.fn x=true\/X.env.scope.names.lookup x=some .local:=by first|exact .inl rfl|exact .inr rfl|assumption):PG X (.Name x pos) (Kr i):=N7 hN hi hx hf
def ln(K:Za)(hm:X.mg "len"=none)(ha:PE X a te)(hK:X.K=K:=by rfl)(hg:Gl X "len":=by rfl)(hs:starEach [a] X.env=(false,eval a X.env)::starEach [] X.env:=by rfl)(hpl:(backTo pos (starEach [] X.env)).any (·.1)=false:=by rfl) :
  PE X (.Call (.Name "len" p) [a] [] pos) (tCB (λxs H Q=>∃x n,xs=[x]/\LenV K x H n/\Q (.int (n:Nat)) H) (Ua te tNil)):=Uc (IG hK) hg hm PySem.boot_len (J0 ha J8 hs) (by decide) (by decide) hs hpl
def cq(K:Za)(hr:Room j X.A)(ha:PE X a te)(hb:PE X b tf)(hK:X.K=K:=by rfl):PT X (.Compare a [.Eq] [b] pos) (Ts (tOp (λx y H Q=>rEq x y H Q\/rEqL K false x y H Q) te tf)):=J2 (SS hr.units0 hK) ha hb (JN _)
def cn(K:Za)(hr:Room j X.A)(ha:PE X a te)(hb:PE X b tf)(hK:X.K=K:=by rfl):PT X (.Compare a [.NotEq] [b] pos) (Ts (tOp (λx y H Q=>rNe x y H Q\/rEqL K true x y H Q) te tf)):=J2 (GD hr.units0 hK) ha hb (JN _)
def az(ha:PE X a te)(h1:starEach [a] X.env=(false,eval a X.env)::starEach [] X.env:=by rfl):PA X [a] (Ua te tNil):=J0 ha J8 h1
def bz(ha:PE X a te)(hb:PE X b tf)(h1:starEach [a,b] X.env=(false,eval a X.env)::starEach [b] X.env:=by rfl)(h2:starEach [b] X.env=(false,eval b X.env)::starEach [] X.env:=by rfl):PA X [a,b] (Ua te (Ua tf tNil)):=J0 ha (J0 hb J8 h2) h1
def dz(ha:PE X a te)(hb:PE X b tf)(hc:PE X c tg)(h1:starEach [a,b,c] X.env=(false,eval a X.env)::starEach [b,c] X.env:=by rfl)(h2:starEach [b,c] X.env=(false,eval b X.env)::starEach [c] X.env:=by rfl)(h3:starEach [c] X.env=(false,eval c X.env)::starEach [] X.env:=by rfl):PA X [a,b,c] (Ua te (Ua tf (Ua tg tNil))):=J0 ha (J0 hb (J0 hc J8 h3) h2) h1
end
section
variable {K:Za}{mg:Str->Option Value}{E:L2.St->XK}{ta tb tc:TE}{a b c:PTE}
def sz(ha:SndE K mg E ta a):SndA K mg E (Ua ta tNil) (Xt a pNil):=JC ha J1
def tz(ha:SndE K mg E ta a)(hb:SndE K mg E tb b):SndA K mg E (Ua ta (Ua tb tNil)) (Xt a (Xt b pNil)):=JC ha (sz hb)
def uz(ha:SndE K mg E ta a)(hb:SndE K mg E tb b)(hc:SndE K mg E tc c):SndA K mg E (Ua ta (Ua tb (Ua tc tNil))) (Xt a (Xt b (Xt c pNil))):=JC ha (tz hb hc)
end
section
variable {K:Za}{h:Heap}{mg:Str->Option Value}{C C':Addr}{x m q:Str}{st:Stmt}{ps:List Str}
abbrev Bd(x q:Str)(st:Stmt)(ps:List Str):Prop:=∀(kV doc pm:Value) (an:Option Addr) (cdv ct:Value) (us:List Value),us.length=ps.length->bindArgs (PySem.W.fnOf x q (U4 st) (JV st) (Jk st) .none kV doc pm an cdv ct) ⟨us,[]⟩=pure (ps.zip us)
def DI.e (D:DI K x st) (X:K.In h) (G0:h.Ns mainGlobals mg) (b:Bd x x st ps:=by
  intro _ _ _ _ _ _ us hl
  first
   |(obtain⟨_,rfl⟩:=Pu.len1 hl;rfl)
   |(obtain⟨_,_,rfl⟩:=Pu.len2 hl;rfl)
   |(obtain⟨_,_,_,rfl⟩:=Pu.len3 hl;rfl)
   |(obtain⟨_,_,_,_,rfl⟩:=Pu.len4 hl;rfl)
   |(obtain⟨_,_,_,_,_,rfl⟩:=Pu.len5 hl;rfl)):Def K mg x st ps:=D.d X G0 b
def MI.e (D:MI K C m q st) (e:C'=C) (b:Bd m q st ps:=by
  intro _ _ _ _ _ _ us hl
  first
   |(obtain⟨_,rfl⟩:=Pu.len1 hl;rfl)
   |(obtain⟨_,_,rfl⟩:=Pu.len2 hl;rfl)
   |(obtain⟨_,_,_,rfl⟩:=Pu.len3 hl;rfl)
   |(obtain⟨_,_,_,_,rfl⟩:=Pu.len4 hl;rfl)):DefM K (Meth K C' m) m q st ps:=D.d e b
def MI.j (D:MI K C "__init__" q st) (e:C'=C) (mk:PySem.W.makesIn K C=true) (kc:PySem.W.keepIn K (.ref C)=true) (b:Bd "__init__" q st ps:=by
  intro _ _ _ _ _ _ us hl
  first
   |(obtain⟨_,rfl⟩:=Pu.len1 hl;rfl)
   |(obtain⟨_,_,rfl⟩:=Pu.len2 hl;rfl)
   |(obtain⟨_,_,_,rfl⟩:=Pu.len3 hl;rfl)):DefM K (Mk K C') "__init__" q st ps:=D.i e mk kc b
end
section
variable {P:Program}{w:World}{K:Za}{mg:Str->Option Value}{base:Heap}{N ps:List Str}{sp:Sp}{p:PTS}{x q:Str}{st:Stmt}{k:Nat}{W:Addr->Prop}
structure Uz (K:Za) (mg:Str->Option Value) (N ps:List Str) (sp:Sp) (p:PTS):Prop where
 len:∀vs H Q E,sp vs H Q E->vs.length=ps.length
 run:∀vs H Q E t,sp vs H Q E->SndS K mg (λ_=>E) t p->t {nx:=λ_ H'=>Q .non H',rt:=Q} (start N vs) H
def Uz.a {c:Pc} (hp:∀ds R X,c ds R X->ds.length=ps.length/\p {nx:=λ_=>R (.sh .non),rt:=R,ex:=λ_ e=>X e} (Xd N ds)) (hn:ps.length<=N.length:=by decide):Uz K mg N ps (spOf mg c K) p:=
 ⟨λ_ _ _ _ h=>EK h λds R X z=>(hp ds R X z).1,λ_ _ _ _ _ h s=>GI h s hn hp⟩
def Uz.c {c:Pw}{y:Str} (hp:∀o ss R X,c o ss R X->ss.length=ps.length/\p (AX o R X) (X5 N o ss)) (hn:ps.length+1<=N.length:=by decide):Uz K mg N (y::ps) (spW mg c K) p:=
 ⟨λ_ _ _ _ h=>On h λo ds R X z=>(hp o ds R X z).1,λ_ _ _ _ _ h s=>MC h s hn hp⟩
def _root_.Own.Def.oz (D:Def K mg x st ps) (S:FnScope N ps (Jk st))
  (tr:∀(f:Addr) (cdv:Value) (A:Around) (outer:List Env) (s:Shared) (H:Hp) (E:XK),Room k (A.deeper (envOfC x (Jk st) s.heap.objs.size f cdv))->
   ∃t,PSs (cxOf CX0 P w K mg base N x (Jk st) f cdv A outer s H E).nox (JV st) t/\SndS K mg (λ_=>E) t p) (u:Uz K mg N ps sp p):Callee P w K mg base CX0 (k+1) x ps sp:=
 D.ok S u.len λf cdv A outer s H vs Q E hr h=>(tr f cdv A outer s H E hr).elim λt z=>⟨t,z.1,u.run _ _ _ _ _ h z.2⟩
def _root_.Own.Def.ox (D:Def K mg x st ps) (S:FnScope N ps (Jk st))
  (tr:∀(f:Addr) (cdv:Value) (A:Around) (outer:List Env) (s:Shared) (H:Hp) (E:XK),Room k (A.deeper (envOfC x (Jk st) s.heap.objs.size f cdv))->
   ∃t,PSs (cxOf (ExcR.CXe P w) P w K mg base N x (Jk st) f cdv A outer s H E) (JV st) t/\SndS K mg (λ_=>E) t p) (u:Uz K mg N ps sp p):Callee P w K mg base (ExcR.CXe P w) (k+1) x ps sp:=
 ExcR.Def.okX D S u.len λf cdv A outer s H vs Q E hr h=>(tr f cdv A outer s H E hr).elim λt z=>⟨t,z.1,u.run _ _ _ _ _ h z.2⟩
def DefM.oz (D:DefM K W x q st ps) (S:FnScope N ps (Jk st))
  (tr:∀(f:Addr) (cdv:Value) (A:Around) (outer:List Env) (s:Shared) (H:Hp) (E:XK),Room k (A.deeper (envOfC q (Jk st) s.heap.objs.size f cdv))->
   ∃t,PSs (cxOf CX0 P w K mg base N q (Jk st) f cdv A outer s H E).nox (JV st) t/\SndS K mg (λ_=>E) t p) (u:Uz K mg N ps sp p):CalleeM P w K mg base CX0 (k+1) W ps sp:=
 D.ok S u.len λf cdv A outer s H vs Q E hr h=>(tr f cdv A outer s H E hr).elim λt z=>⟨t,z.1,u.run _ _ _ _ _ h z.2⟩
def DefM.ox (D:DefM K W x q st ps) (S:FnScope N ps (Jk st))
  (tr:∀(f:Addr) (cdv:Value) (A:Around) (outer:List Env) (s:Shared) (H:Hp) (E:XK),Room k (A.deeper (envOfC q (Jk st) s.heap.objs.size f cdv))->
   ∃t,PSs (cxOf (ExcR.CXe P w) P w K mg base N q (Jk st) f cdv A outer s H E) (JV st) t/\SndS K mg (λ_=>E) t p) (u:Uz K mg N ps sp p):CalleeM P w K mg base (ExcR.CXe P w) (k+1) W ps sp:=
 D.okX S u.len λf cdv A outer s H vs Q E hr h=>(tr f cdv A outer s H E hr).elim λt z=>⟨t,z.1,u.run _ _ _ _ _ h z.2⟩
end
section
variable {K:Za}{h:Heap}{mg:Str->Option Value}{x:Str}{C:Addr}
structure EI (K:Za) (x:Str) (C:Addr):Prop where
 a:PySem.W.nsIn K mainGlobals x=some (some (.ref C))
 g:ExcR.ErrGet K C
def ei{d:ClassData}(a:PySem.W.nsIn K mainGlobals x=some (some (.ref C)))(q:PySem.W.excIn K C [.type "ValueError",.type "Exception",.type "BaseException",.type "object"] "ValueError.__new__"=true)(ga:PySem.W.findIn K (.ref C) "__getattribute__"=some (some (.builtin "BaseException.__getattribute__")))(gt:PySem.W.findIn K (.ref C) "__getattr__"=some none)(cl:PySem.W.findIn K (.ref C) "__class__"=some (some (.builtin "object.__class__")))(i:PySem.W.clsIn K C=some d):EI K x C:=⟨a,⟨⟨q⟩,ga,gt,cl,by rw[i];rfl⟩⟩
def EI.c (y:EI K x C) (X:K.In h) (G0:h.Ns mainGlobals mg):ExcR.Jm mg x=C:=ExcR.Su (YQ X G0 y.a)
def EI.m (y:EI K x C) (X:K.In h) (G0:h.Ns mainGlobals mg):mg x=some (.ref (ExcR.Jm mg x)):=by rw[y.c X G0];exact YQ X G0 y.a
def EI.k (y:EI K x C) (X:K.In h) (G0:h.Ns mainGlobals mg):ExcR.ErrGet K (ExcR.Jm mg x):=by rw[y.c X G0];exact y.g
end
def NoFld.of {m:Str}:∀{xs:List Str},(xs.all λx=>!(m==x))=true->NoFld m xs
 |[],_,_=>rfl
 |_::_,_,[]=>rfl
 |x::xs,h,v::vs=>by
  rw[Q5,Y5]at h;show(match m==x with|true=>some v|false=>(xs.zip vs).lookup m)=none
  rw[show(m==x)=false by simpa using h.1];exact NoFld.of h.2 vs
def FldAt.of {f:Str} (h0:(f==f)=true):∀{xs:List Str}{j:Nat},((xs.take j).all λx=>!(f==x))=true->xs[j]?=some f->FldAt f xs j
 |[],_,_,e,_,_=>by simp at e
 |_::_,_,_,_,[],e=>by cases e
 |x::xs,0,_,e,v::vs,_=>by
  simp at e;subst e;show(match x==x with|true=>some v|false=>(xs.zip vs).lookup x)=some v
  rw[h0]
 |x::xs,j+1,h,e,v::vs,l=>by
  rw[List.take_succ_cons,Q5,Y5]at h;show(match f==x with|true=>some v|false=>(xs.zip vs).lookup f)=(v::vs)[j+1]?
  rw[show(f==x)=false by simpa using h.1];exact FldAt.of h0 (j:=j) h.2 (by simpa using e) vs (by simpa using l)
def PutAt.of {f:Str}:∀{xs:List Str},(xs.all λx=>decide (x≠f))=true->PutAt f xs
 |[],_,[],_,_=>rfl
 |[],_,_::_,_,e=>by cases e
 |_::_,_,[],_,e=>by cases e
 |x::xs,h,v::vs,y,e=>by
  rw[Q5,Y5]at h;show(if x=f then(x,y)::xs.zip vs else(x,v)::putF f y (xs.zip vs))=(x,v)::(xs++[f]).zip (vs++[y]);rw[ZZ (Yg h.1),PutAt.of h.2 vs y (by simpa using e)]
end Pu
namespace Lam
open PySem PySem.Spec PyProof.Rows L2 Own
section
variable {X:Cx}{pins:List (Addr×Obj)}{σ:L2.St}{H:Hp}{A:Around}{E:Value->Shared->Prop}{s:Shared}{kS D:Addr}{vs:List Value}{kz:List Int}{keys:Array Value}{e e1:Nat}
def Os{P:Program}{w:World}{H:Hp}{h:Heap}{a:Addr}{o:HO}(x:HOk P w H h)(hn:H a=none)(new:ObjOk P w (upd H a o) h a o):HOk P w (upd H a o) h:=λb u e=>by
 by_cases hb:b=a
 ·subst hb;rw[Jw]at e;cases e;exact new
 ·rw[Jn hb]at e;exact(x b u e).stay (λc v _ q=>q) (λc q=>by rw[Jn (JO q hn)];exact q) λc xs q=>by rw[Jn (JO q hn)];exact q
variable {P:PySem.Fin->Shared->Prop}
end
end Lam
namespace ExcR
open PySem PySem.Spec PyProof.Rows L2
open Sem (wp)
section
variable {prog:Program}{w:World}{A:Around}{E:Value->Shared->Prop}{h:Heap}{g:Array GenState}{d:Drawn}{t:Nat}{os:OsState}
variable {nm q:Str}{C N:Addr}{bs bm bmB:List Value}{hdct:Bool}{sn:List Str}{sub:List Value}{ab:Bool}{col:Option Bool}{dd:Option Addr}{k0 k1 k2 k3 k5:Option Value}{B Bn newId nid initId inN:String}{bmN:List Value}
def UN(C t:Addr)(dx:Option Addr):Obj:={cls:=.ref C,dict:=dx,data:=.fields #[.ref t,.none,.none,.none,.bool false,.none]}
def Hq(Fn:ExcBaseFacts Bn newId inN bmN)(hBn:bmB.contains (.type Bn)=true)(F:ExcBaseFacts B nid initId bmB)(T:OwnTail h bmB bm){mN:Str->Option Value}{rest:List Value}{fI:Addr}{oI:Obj}{Q:PySem.Fin->Shared->Prop}(hC:h.get? C=some (excClassObj nm q C N bs bm hdct sn sub ab col dd k0 k1 k2 k3 k5 newId))(hn:h.Ns N mN)(hi:mN "__init__"=some (.ref fI))(hfI:h.get? fI=some oI)(hfc:oI.cls=.type "function")(hq:∀h' e,Heap.MadeExcOf h h' e (.ref C) rest->wpAny (model prog w) A (call (.ref fI) (.ref e::rest)) (λr s'=>r=.none/\Q (.done (.ret (.ref e))) s') E ⟨h',g,d,t,os⟩)(hrest:rest.length<=sizeLine:=by size_fits) :
  wpAny (model prog w) A (Builtin.«type.__call__» ⟨.ref C::rest,[]⟩) Q E ⟨h,g,d,t,os⟩:=by
 repeat (first|with_reducible refine Wf hC ?_|with_reducible refine wpAny_madeBy_exc hC ?_|wp_step)
 refine codeAny_call_builtin_code (Code.quiet_builtin _ Fn.quiet) (wpAny_check_new_subU Fn hBn T hC ?_);refine codeAny_exc_new_subU Fn hBn F T hC ?_ hrest;show wpAny _ _ _ _ _ _
 have k:∀b o,h.get? b=some o->((h.push {cls:=.type "tuple",data:=.seq rest.toArray}).push {cls:=.ref C,data:=.fields #[.ref h.objs.size,.none,.none,.none,.bool false,.none]}).get? b=some o:=
  λb o e=>ZY _ (ZY _ e)
 have hC₁:=k _ _ hC;have hfI₁:=k _ _ hfI;have hn₁:=hn.keeps k;have T₁:=T.keeps k
 have hget:((h.push {cls:=.type "tuple",data:=.seq rest.toArray}).push
   {cls:=.ref C,data:=.fields #[.ref h.objs.size,.none,.none,.none,.bool false,.none]}).get? (h.objs.size+1)=some
   {cls:=.ref C,data:=.fields #[.ref h.objs.size,.none,.none,.none,.bool false,.none]}:=by heap_get
 have hcC:(Value.ref C::bm).contains (.ref C)=true:=by simp
 unfold isInstance
 repeat (first|with_reducible refine Wf hget ?_|(with_reducible refine QU hC₁ ?_;rw[hcC])|wp_step)
 show wpAny _ _ (typeLookup (.ref C) _) _ _ _;refine wpAny_typeLookup_tail hC₁ hn₁ T₁ F.mroIs F.init.lookup ?_;rw[hi];refine Ws (ZT ?_);unfold bindSpecial;refine ZT (wpAny_typeOf (T:="function") ⟨_,hfI₁,hfc⟩ ?_);rw[Ya (by decide)];refine ZW (ZT (YB (hq _ (h.objs.size+1) ⟨k,WB (WS _),h.objs.size,hget,WB (Yc _),?_⟩) (λr s' hr=>?_) λ_ _ x=>x))
 ·exact ZY _ (Heap.get?_push_at rfl rfl)
 ·obtain⟨rfl,hQ⟩:=hr
  wp_walk
  exact hQ
def Im(Fn:ExcBaseFacts Bn newId inN bmN)(hBn:bmB.contains (.type Bn)=true)(F:ExcBaseFacts B nid initId bmB)(T:OwnTail h bmB bm){mN:Str->Option Value}{rest:List Value}{fI:Addr}{oI:Obj}{Q:Value->Shared->Prop}(hC:h.get? C=some (excClassObj nm q C N bs bm hdct sn sub ab col dd k0 k1 k2 k3 k5 newId))(hn:h.Ns N mN)(hi:mN "__init__"=some (.ref fI))(hfI:h.get? fI=some oI)(hfc:oI.cls=.type "function")(hq:∀h' e,Heap.MadeExcOf h h' e (.ref C) rest->wpAny (model prog w) (A.under (.builtin "type.__call__" ⟨.ref C::rest,[]⟩)) (call (.ref fI) (.ref e::rest)) (λr s'=>r=.none/\Q (.ref e) s') E ⟨h',g,d,t,os⟩)(hrest:rest.length<=sizeLine:=by size_fits) :
  wpAny (model prog w) A (call (.ref C) rest) Q E ⟨h,g,d,t,os⟩:=by
 have f1:=tc_lookup;have f2:=tc_bind (.ref C);have hT:(⟨h,g,d,t,os⟩:Shared).TypeIs (.ref C) "type":=⟨_,hC,rfl⟩;refine QG (codeAny_of_tree ?_);show wpAny _ _ (callAny (.ref C) _) _ _ _
 repeat (any_goals (first|assumption|with_reducible refine Wf hC ?_|wp_step))
 refine⟨rfl,?_⟩;refine codeAny_call_builtin_at (Code.quiet_builtin _ (by decide +kernel)) entry_typeCall (wpAny_check_type_call_sub hC (Hq (hrest:=hrest) Fn hBn F T hC hn hi hfI hfc λh' e hm=>?_));exact hq h' e hm
end
section
variable {prog:Program}{w:World}{A:Around}{E:Value->Shared->Prop}{s:Shared}{env:Env}
variable {nm q:Str}{C N:Addr}{bs bm bmB:List Value}{hdct:Bool}{sn:List Str}{sub:List Value}{ab:Bool}{col:Option Bool}{dd:Option Addr}{k0 k1 k2 k3 k5:Option Value}{B Bn newId nid initId inN:String}{bmN:List Value}
def GA{x:Sem Value}{Q:Flow->Shared->Prop}(hbase:bm.contains (.type "BaseException")=true)(hh:A.handled=none)(h:wpAny (model prog w) A x (λv s₁=>∃e t dx,v=.ref e/\s₁.heap.get? C=some (excClassObj nm q C N bs bm hdct sn sub ab col dd k0 k1 k2 k3 k5 newId)/\s₁.heap.get? e=some (UN C t dx)/\E (.ref e) s₁) E s) :
  wpAny (model prog w) A (raiseStmt env (some x) none) Q E s:=by
 have hcB:(Value.ref C::bm).contains (.type "BaseException")=true:=by rw[Vc,hbase,Bool.or_true]
 unfold raiseStmt;refine ZT (YB h (λv s₁ h₁=>?_) λ_ _ x=>x);obtain⟨e,t,dx,rfl,hC,he,hE⟩:=h₁;obtain⟨hp,g,d,tk,os⟩:=s₁;unfold UN at he
 repeat (first|with_reducible refine Wf he ?_|with_reducible refine Wf hC ?_|(with_reducible refine QU hC ?_;rw[hcB])|wp_step)
 exact wpAny_raiseNew_none hh hE
def Zaa(Fn:ExcBaseFacts Bn newId inN bmN)(hBn:bmB.contains (.type Bn)=true)(F:ExcBaseFacts B nid initId bmB){mN:Str->Option Value}{x:Str}{np cpos pos:Pos}{args:List Expr}{fI:Addr}{oI:Obj}{Q:Flow->Shared->Prop}(hbase:bm.contains (.type "BaseException")=true)(hh:A.handled=none)(hplain:(backTo cpos (starEach args env)).any (·.1)=false)(hi:mN "__init__"=some (.ref fI))(hfc:oI.cls=.type "function")
  (h:wpAny (model prog w) A (eval (.Name x np) env) (λf s₁=>f=.ref C/\wpAny (model prog w) A (evalArgs (.ref C) true (backTo cpos (starEach args env)) [])
   (λa s₂=>a.kw=[]/\a.pos.length<=sizeLine/\s₂.heap.get? C=some (excClassObj nm q C N bs bm hdct sn sub ab col dd k0 k1 k2 k3 k5 newId)/\s₂.heap.Ns N mN/\OwnTail s₂.heap bmB bm/\s₂.heap.get? fI=some oI/\
    ∀h' e,Heap.MadeExcOf s₂.heap h' e (.ref C) a.pos->wpAny (model prog w) (A.under (.builtin "type.__call__" ⟨.ref C::a.pos,[]⟩)) (call (.ref fI) (.ref e::a.pos))
     (λr s'=>r=.none/\s'.heap.get? C=some (excClassObj nm q C N bs bm hdct sn sub ab col dd k0 k1 k2 k3 k5 newId)/\(∃t dx,s'.heap.get? e=some (UN C t dx))/\E (.ref e) s') E {s₂ with heap:=h'}) E s₁) E s) :
  wpAny (model prog w) A (exec (.Raise (some (.Call (.Name x np) args [] cpos)) none pos) env) Q E s:=by
 rw[arm_exec_Raise];refine ZT (Qf (GA (C:=C) (nm:=nm) (q:=q) (N:=N) (bs:=bs) (bm:=bm) (hdct:=hdct) (sn:=sn) (sub:=sub) (ab:=ab) (col:=col) (dd:=dd) (k0:=k0) (k1:=k1) (k2:=k2) (k3:=k3) (k5:=k5) (newId:=newId) hbase hh (ZT (YB (wpAny_Call_ofName (YB h (λf s₁ h₁=>?_) λ_ _ x=>x)) (λv s₃ h₃=>ZT (Qf (ZW h₃))) λ_ _ x=>x))));obtain⟨rfl,h₁⟩:=h₁;unfold callWith;refine ZT (Ws (YB h₁ (λa s₂ h₂=>ZT (Qf ?_)) λ_ _ x=>x));obtain⟨apos,akw⟩:=a;obtain⟨hkw,hlen,hC,hn,T,hfI,h₂⟩:=h₂;obtain rfl:akw=[]:=hkw;obtain⟨hp,g,d,tk,os⟩:=s₂;simp only[hplain];refine ZT (wpAny_keeperOf_exc hC ?_);refine ZT (Im (hrest:=hlen) Fn hBn F T hC hn hi hfI hfc λh' e hm=>YB (h₂ h' e hm) (λr s' z=>?_) λ_ _ x=>x);obtain⟨rfl,hC',⟨t,dx,he⟩,hE⟩:=z;exact⟨rfl,ZT (Ws (wpAny_point (ZW ⟨e,t,dx,rfl,hC',he,hE⟩)))⟩
end
end ExcR
namespace ExcR
open PySem PySem.Spec PyProof.Rows L2
open Sem (wp)
open Builtin Builtin.ObjectAttr
def UQ:List Value:=[.type "ValueError",.type "Exception",.type "BaseException",.type "object"]
def P5:List Value->Bool
 | .ref _::r=>P5 r
 |l=>l==UQ
def Az(self:Value):∀{l:List Value},P5 l=true->refuseLoop self "__setattr__" l=pure ()
 | .ref c::r,e=>by rw[refuseLoop_ref];exact Az self (l:=r) e
 |[],e=>by cases e
 | .type n::r,e=>by
  have:Value.type n::r=UQ:=beq_iff_eq.mp e
  rw[this];exact PySem.F.store_ValueError.passes self
def FQ:∀{l:List Value},P5 l=true->l.contains (.type "object")=true
 | .ref c::r,e=>by rw[Vc,FQ (l:=r) e,Bool.or_true]
 |[],e=>by cases e
 | .type n::r,e=>by
  have:Value.type n::r=UQ:=beq_iff_eq.mp e
  rw[this];decide
structure ErrSt (K:Za) (C:Addr):Prop where
 po:(PySem.W.clsIn K C).any (λcd=>P5 cd.mro&&cd.hasDict)=true
 sa:PySem.W.findIn K (.ref C) "__setattr__"=some (some (.builtin "object.__setattr__"))
section
variable {prog:Program}{w:World}{A:Around}{E:Value->Shared->Prop}{s:Shared}{K:Za}{x C t:Addr}{name:Str}{v:Value}
def OP{Q:Unit->Shared->Prop}(X:K.In s.heap)(hx:s.heap.get? x=some (UN C t none))(c:ErrSt K C)(n:NoAttr K C name)
  (h:∀h',h'.get? x=some (UN C t (some s.heap.objs.size))->h'.Ns1 s.heap.objs.size (λy=>if y=name then some v else none)->(∀b o,b≠x->s.heap.get? b=some o->h'.get? b=some o)->s.heap.objs.size<=h'.objs.size->
   Q () {s with heap:=h',toks:=s.toks+2}):wpAny (model prog w) A (setAttr (.ref x) name v) Q E s:=by
 have SF:=PySem.F.store_object;have J:PySem.W.InstAt s.heap x (UN C t none) C none:=⟨hx,rfl,rfl,True.intro⟩;obtain⟨cd,hc,ho⟩:=Q7 c.po;obtain⟨ho,hd'⟩:=(Y5 _ _▸ho:_/\_);have ne:cd.mro.isEmpty=false:=by cases q:cd.mro with|nil=>rw[q]at ho;cases ho|cons _ _=>rfl
 have sub:PySem.W.Looks (model prog w) s.heap (isInstance (.ref x) (.type "object")) true:=J.type.andThen (PySem.W.looks_mroIn X (by unfold PySem.W.mroIn;rw[hc,Option.bind_some,ZZ (by rw[ne];decide),FQ ho]));have hm:PySem.W.Looks (model prog w) s.heap (mroOf (.ref C)) cd.mro:=(QN X hc).andThen .now;refine PySem.W.set_plain X J c.sa (QK SF.slot.plain SF.entry (@PySem.W.check_slot (model prog w) _ _ {s with toks:=s.toks+1} "object.__setattr__" "object" "__setattr__" (.ref x) [.str name s.toks,v] [] _ SF.kind SF.split sub (SF.args (.ref x) (.str name s.toks) v) ?_))
 rw[PySem.W.osa_eq,refuse_eq];refine ZT (ZT (J.type.here (s:={s with toks:=s.toks+1}) (ZT (hm.here (s:={s with toks:=s.toks+1}) ?_))))
 rw[Az _ ho];refine ZW (ZT (J.type.here (s:={s with toks:=s.toks+1}) (ZT (QY (s:={s with toks:=s.toks+1}) (WC X n) (ZT (ZW ?_))))))
 refine ZT (ZW (ZT (ZT (wpAny_loadPart hx (ZT (QY (s:={s with toks:=s.toks+1}) (QN X hc) ?_))))))
 rw[hd'];have hx₁:(s.heap.push {cls:=.type "dict",data:=.dict #[]}).get? x=some (UN C t none):=ZY _ hx;have hxs:x≠s.heap.objs.size:=Yy (Yd hx)
 show wpAny _ _ (do
  let d ←alloc {cls:=Value.type "dict",data:=Data.dict #[]}
  update x λo=>{cls:=o.cls,dict:=some d,data:=o.data,slots:=o.slots}
  dictMade (Value.ref C) x d) _ _ _
 refine ZT (wpAny_alloc' ?_);refine ZT (wpAny_update' hx₁ ?_);refine ZW (a:=some s.heap.objs.size) ?_
 have hgd:((s.heap.push {cls:=.type "dict",data:=.dict #[]}).update x λo=>{cls:=o.cls,dict:=some s.heap.objs.size,data:=o.data,slots:=o.slots}).get? s.heap.objs.size
   = some {cls:=.type "dict",data:=.dict #[]}:=
  (Heap.get?_update_ne _ _ _ _ hxs.symm).trans (Heap.get?_push_at rfl rfl)
 have hnd:((s.heap.push {cls:=.type "dict",data:=.dict #[]}).update x λo=>{cls:=o.cls,dict:=some s.heap.objs.size,data:=o.data,slots:=o.slots}).Ns s.heap.objs.size (λ_=>none):=
  ⟨_,#[],_,hgd,rfl,λe he=>absurd he (by simp),λ_=>rfl⟩
 show wpAny _ _ (storeInDict s.heap.objs.size (.str name s.toks) name v) _ _ _;unfold storeInDict newKeyGuard;refine ZT (ZW (ZT (wpAny_nsSet1 (Heap.Ns1.of_empty hnd) λh' hn' hs=>?_)));obtain⟨oD,esD,epD,hoD,hdD,hcD⟩:=hn'.count (Within.cons name v Within.nil);refine ZT (wpAny_lookBehind hoD (by rw[hdD];exact pastItsLine_dict (Yn hcD (by rw[Y1,List.length_nil,Q1];omega))) ?_);refine ZW (h h' ?_ hn' (λb ob hbx hb=>?_) ?_)
 ·refine(hs.2 x hxs).trans (YK _ hx₁ rfl)
 ·exact(hs.2 b (Yy (Yd hb))).trans ((Heap.get?_update_ne _ _ _ _ hbx).trans (ZY _ hb))
 ·rw[hs.1,Heap.size_update,WW];exact WS _
end
end ExcR
namespace ExcR
open PySem PySem.Spec PyProof.Rows L2
open Sem (wp)
open Builtin Builtin.ObjectAttr
section
variable {prog:Program}{w:World}{A:Around}{E:Value->Shared->Prop}{h:Heap}{g:Array GenState}{d:Drawn}{t:Nat}{os:OsState}{a C dx:Addr}{o:Obj}{K:Za}{name:Str}{v:Value}{mA:Str->Option Value}
def Og(k:K.In h)(hh:PySem.W.hasDictIn K C=true)(hx:h.get? a=some o)(hc:o.cls=.ref C)(hd:o.dict=some dx)(nc:PySem.W.notCls o=true)(ns:h.Ns1 dx mA)(hv:mA name=some v) :
  PySem.W.Looks (model prog w) h (inOwnDict name (.ref a)) (some v):=by
 obtain⟨od,ho,hl⟩:=F2 ns;obtain⟨cd,hcd,hd'⟩:=Q7 hh;refine PySem.W.looks_own k (od:=some od) ⟨hx,hc,nc,by rw[hd];exact ho⟩ hcd ?_;unfold PySem.W.ownOf;rw[hd',Ya rfl]
 dsimp only
 rw[hl,hv]
def IT{tk:Tok}{Q:PySem.Fin->Shared->Prop}(k:K.In h)(hh:PySem.W.hasDictIn K C=true)(n:NoAttr K C name)(hx:h.get? a=some o)(hc:o.cls=.ref C)(hd:o.dict=some dx)(nc:PySem.W.notCls o=true)(ns:h.Ns1 dx mA)(hv:mA name=some v)(hq:Q (.done (.ret v)) ⟨h,g,d,t,os⟩):wpAny (model prog w) A (Builtin.«object.__getattribute__» ⟨[.ref a,.str name tk],[]⟩) Q E ⟨h,g,d,t,os⟩:=by
 have L:=WC (M:=model prog w) k n;have L2:=Og (prog:=prog) (w:=w) k hh hx hc hd nc ns hv
 repeat (any_goals (first|assumption|(with_reducible refine Wf hx ?_;rw[hc])|with_reducible refine L.at ?_|with_reducible refine L2.at ?_|wp_step))
def IL{tk:Tok}{fill expr:Bool}{Q:Value->Shared->Prop}(k:K.In h)(ga:PySem.W.findIn K (.ref C) "__getattribute__"=some (some (.builtin "BaseException.__getattribute__")))(gt:PySem.W.findIn K (.ref C) "__getattr__"=some none)(ck:∀{A:Around} {E:Value->Shared->Prop} {t:Nat} {u:Value} {Q:Unit->Shared->Prop},Q () ⟨h,g,d,t,os⟩->wpAny (model prog w) A (checkBuiltinCall "BaseException.__getattribute__" ⟨[.ref a,u],[]⟩) Q E ⟨h,g,d,t,os⟩)(hh:PySem.W.hasDictIn K C=true)(n:NoAttr K C name)(hx:h.get? a=some o)(hc:o.cls=.ref C)(hd:o.dict=some dx)(nc:PySem.W.notCls o=true)(ns:h.Ns1 dx mA)(hv:mA name=some v)(hv':PySem.W.handedIn v=true)(hq:Q v ⟨h,g,d,t,os⟩):wpAny (model prog w) A (getAttrBy (.ref a) (.str name tk) fill expr) Q E ⟨h,g,d,t,os⟩:=by
 have f0:=F.attrBase_ValueError.ga.bind (.ref a);have hx0:(expr&&onTheHeap (Value.builtin "BaseException.__getattribute__"))=false:=by cases expr<;>rfl
 have x2:(Value.builtin "BaseException.__getattribute__" == Value.builtin "object.__getattribute__")=false:=by decide +kernel
 have x1:(onTheHeap (Value.ref C)&&Value.builtin "BaseException.__getattribute__" == Value.builtin "object.__getattribute__")=false:=by rw[x2];rfl
 have L:=WC (M:=model prog w) k ga;have L2:=WC (M:=model prog w) k gt
 repeat (any_goals (first|assumption|(with_reducible refine Wf hx ?_;rw[hc])|with_reducible refine L.at ?_|with_reducible refine L2.at ?_|wp_step))
 refine QK F.attrBase_ValueError.ga.plain F.entry_bexc_ga (ck (IT k hh n hx hc hd nc ns hv ?_));have hh':handedOut v=pure v:=PySem.W.handedOut_of hv';unfold handedOut at hh'
 repeat (any_goals (first|assumption|rw[hh']|wp_step))
def MJ{expr:Bool}{Q:Value->Shared->Prop}(k:K.In h)(ga:PySem.W.findIn K (.ref C) "__getattribute__"=some (some (.builtin "BaseException.__getattribute__")))(gt:PySem.W.findIn K (.ref C) "__getattr__"=some none)(ck:∀{A:Around} {E:Value->Shared->Prop} {t:Nat} {u:Value} {Q:Unit->Shared->Prop},Q () ⟨h,g,d,t,os⟩->wpAny (model prog w) A (checkBuiltinCall "BaseException.__getattribute__" ⟨[.ref a,u],[]⟩) Q E ⟨h,g,d,t,os⟩)(hh:PySem.W.hasDictIn K C=true)(n:NoAttr K C name)(hx:h.get? a=some o)(hc:o.cls=.ref C)(hd:o.dict=some dx)(nc:PySem.W.notCls o=true)(ns:h.Ns1 dx mA)(hv:mA name=some v)(hv':PySem.W.handedIn v=true)(hq:Q v ⟨h,g,d,t+1,os⟩):wpAny (model prog w) A (getAttr (.ref a) name expr) Q E ⟨h,g,d,t,os⟩:=by
 unfold getAttr
 repeat (any_goals (first|assumption|with_reducible apply IL k ga gt ck hh n hx hc hd nc ns hv hv'|wp_step))
end
end ExcR
namespace ExcR
open PySem PySem.Spec PyProof.Rows L2
section
variable {X:Cx}{pins:List (Addr×Obj)}{σ:L2.St}{H:Hp}{s:Shared}{a b:Addr}
def Dz{o:HO}(I:Inv X pins σ H s)(hn:H b=none)(hL:b≠X.env.locals)(hc:∀x c,X.env.cells.lookup x=some c->c≠b)(hp:∀p∈X.pn++pins,p.1≠b)(ne:∀c u,X.s₀.heap.get? c=some u->c≠b)(new:ObjOk X.prog X.w (upd H b o) s.heap b o):Inv X pins σ (upd H b o) s:=by
 refine⟨I.ok,I.os,I.bare,⟨λc u g n1 n2 n3=>I.base.keep c u g n1 n2 n3,λc u g n1 n2 n3=>I.base.slot c u g n1 n2 n3,λc u g n1 n2=>?_,I.base.there,λc ys g=>?_,λc u v g=>?_,λc ps g=>?_⟩,I.loc,I.cell,?_,λx c g=>?_,λp hp'=>?_,?_,I.len⟩
 ·rw[Jn (ne c u g)];exact I.base.free c u g n1 n2
 ·rw[Jn (JO (I.base.tups c ys g) hn)];exact I.base.tups c ys g
 ·rw[Jn (JO (I.base.frzs c u v g) hn)];exact I.base.frzs c u v g
 ·obtain⟨m,q⟩:=I.base.tbls c ps g;exact⟨m,by rw[Jn (JO q hn)];exact q⟩
 ·rw[Jn (Ne.symm hL)];exact I.free
 ·rw[Jn (hc x c g)];exact I.freeC x c g
 ·obtain⟨a1,a2,a3,a4,a5⟩:=I.pin p hp';exact⟨a1,by rw[Jn (hp p hp')];exact a2,a3,a4,a5⟩
 ·exact Lam.Os I.hok hn new
def layG{o:HO}{h':Heap}{t':Nat}(I:Inv X pins σ H s)(hex:X.ex=[])(na:s.heap.get? b=none)(k:∀c u,s.heap.get? c=some u->h'.get? c=some u)(new:ObjOk X.prog X.w (upd H b o) h' b o) :
  Inv X pins σ (upd H b o) {s with heap:=h',toks:=t'}:=by
 have ne:∀{c u},s.heap.get? c=some u->c≠b:=λ{c u} e z=>by rw[z,na]at e;cases e
 refine Dz (I.kept (t':=t') k) (Tt I.hok na) ?_ (λx c e=>?_) (λp hp=>ne (I.pin p hp).1) (λc u e=>?_) new
 ·obtain⟨m,⟨o1,es,ep,e1,_⟩,_⟩:=I.loc;exact(ne e1).symm
 ·obtain⟨v,o1,e1,_⟩:=I.cell x c e;exact ne e1
 ·obtain⟨u1,e1⟩:=I.base.there c u e (by rw[hex];simp);exact ne e1
def er(H:Hp)(a:Addr):Hp:=λb=>if b=a then none else H b
def TR{H:Hp}{a:Addr}:er H a a=none:=by unfold er;rw[Ya rfl]
def Xy{H:Hp}{a b:Addr}(h:b≠a):er H a b=H b:=by unfold er;rw[ZZ h]
def Mn{H:Hp}{a b:Addr}{o:HO}(h:er H a b=some o):H b=some o:=by
 by_cases z:b=a
 ·rw[z,TR]at h;cases h
 ·rw[Xy z]at h;exact h
def forget{φ:Heap->Prop}(I:Inv X pins σ H s)(ha:H a=some (.ext φ)):Inv X pins σ (er H a) s:=by
 have ne:∀{c o},H c=some o->(∀ψ,o≠HO.ext ψ)->c≠a:=λ{c o} e n z=>by rw[z,ha]at e;exact n _ (Yf e).symm
 have no:∀{c},H c=none->er H a c=none:=λ{c} e=>by
  by_cases z:c=a
  ·rw[z];exact TR
  ·rw[Xy z];exact e
 refine⟨I.ok,I.os,I.bare,⟨λc u g n1 n2 n3=>I.base.keep c u g n1 n2 n3,λc u g n1 n2 n3=>I.base.slot c u g n1 n2 n3,λc u g n1 n2=>no (I.base.free c u g n1 n2),I.base.there,λc ys g=>?_,λc u v g=>?_,λc ps g=>?_⟩,I.loc,I.cell,no I.free,λx c g=>no (I.freeC x c g),λp hp'=>?_,λc o e=>?_,I.len⟩
 ·have q:=I.base.tups c ys g;rw[Xy (ne q λ_ z=>nomatch z)];exact q
 ·have q:=I.base.frzs c u v g;rw[Xy (ne q λ_ z=>nomatch z)];exact q
 ·obtain⟨m,q⟩:=I.base.tbls c ps g;exact⟨m,by rw[Xy (ne q λ_ z=>nomatch z)];exact q⟩
 ·obtain⟨a1,a2,a3,a4,a5⟩:=I.pin p hp';exact⟨a1,no a2,a3,a4,a5⟩
 ·refine(I.hok c o (Mn e)).stay (λ_ _ _ z=>z) (λd z=>?_) λd xs z=>?_
  ·rw[Xy (ne z λ_ w=>nomatch w)];exact z
  ·rw[Xy (ne z λ_ w=>nomatch w)];exact z
def Ov{l:Addr}{xs:List V}(I:Inv X pins σ H s)(h:H l=some (.lst xs)):∃o,Inv X pins σ (upd H l (.frz o (.lst xs))) s:=by
 obtain⟨z,its,n,r,e⟩:=(show ObjOk X.prog X.w H s.heap l (.lst xs)from I.hok l _ h)
 exact⟨_,T4 (t':=s.toks) (h':=s.heap) (ob:=.frz _ (.lst xs)) I (by rw[h];trivial) ⟨rfl,λ_ _=>rfl⟩ ⟨_,e⟩ ⟨e,z,its,n,r,e⟩⟩
end
def Gd(K:Za)(C f:Addr):Prop:=∃(dd:Option Addr) (cd:ClassData) (sl:Array (Option Value)) (bm:List Value) (k0 k1 k2 k3 k5:Option Value),K.lookup C=some ⟨.type "type",dd,.cls cd,sl⟩/\cd.mro=.ref C::bm/\
 sl.toList=[k0,k1,k2,k3,some (.builtin "ValueError.__new__"),k5]/\cd.hasDel=false/\PySem.W.tailIn K UQ bm=true/\PySem.W.nsOkIn K cd.ns=true/\PySem.W.nsIn K cd.ns "__init__"=some (some (.ref f))
def Lp{K:Za}{h:Heap}{N:Addr}{mg:Str->Option Value}{n:Str}{v:Value}(X:K.In h)(G:h.Ns N mg)(e:PySem.W.nsIn K N n=some (some v)):mg n=some v:=by
 obtain⟨o,es,ep,ho,hd,_,hf⟩:=G;unfold PySem.W.nsIn at e;split at e
 ·rename_i c d es' n' sl q
  have:=X _ _ q
  rw[ho]at this;cases this
  cases hd
  split at e
  ·rename_i en he;cases e
   rw[←hf];unfold nsFind findBy;rw[←Array.find?_toList,he];rfl
  ·split at e<;>cases e
 ·cases e
structure ErrI (K:Za) (C f:Addr):Prop where
 q:Gd K C f
 fn:PySem.W.typeIn K (.ref f)=some (.type "function")
 st:ErrSt K C
 ga:PySem.W.findIn K (.ref C) "__getattribute__"=some (some (.builtin "BaseException.__getattribute__"))
 gt:PySem.W.findIn K (.ref C) "__getattr__"=some none
 nm:NoAttr K C "members"
def ErrI.hd {K:Za}{C f:Addr} (c:ErrI K C f):PySem.W.hasDictIn K C=true:=by
 obtain⟨cd,h1,h2⟩:=Q7 c.st.po;rw[Y5]at h2;unfold PySem.W.hasDictIn;rw[h1];exact h2.2
def ErrI.obj {K:Za}{C f:Addr}{h:Heap} (c:ErrI K C f) (k:K.In h):∃bm N nm q bs hdct sn sub ab col dd k0 k1 k2 k3 k5 mN,h.get? C=some (excClassObj nm q C N bs bm hdct sn sub ab col dd k0 k1 k2 k3 k5 "ValueError.__new__")/\h.Ns N mN/\mN "__init__"=some (.ref f)/\
  OwnTail h UQ bm:=by
 obtain⟨dd,cd,sl,bm,k0,k1,k2,k3,k5,ho,hm,hs,e3,e4,e5,e6⟩:=c.q;have hg:=k _ _ ho;cases cd with
 |mk nm bs mro ns qn hd sn sub ab col del=>
  simp only at hm e3 e5 e6
  have hsl:sl=#[k0,k1,k2,k3,some (.builtin "ValueError.__new__"),k5]:=by
   cases sl with
   |mk l=>simp only at hs;rw[hs]
  rw[hm,e3,hsl]at hg;exact⟨bm,ns,nm,qn,bs,hd,sn,sub,ab,col,dd,k0,k1,k2,k3,k5,_,hg,.of_isNs (Vb k e5),Lp k (.of_isNs (Vb k e5)) e6,PySem.W.tail_of_in k e4⟩
def ErrN(a C t:Addr)(dx:Option Addr):HO:=.ext λh=>h.get? a=some (UN C t dx)
def A9{P:Program}{w:World}{H:Hp}{h:Heap}{a C t:Addr}{dx:Option Addr}(e:h.get? a=some (UN C t dx)):ObjOk P w H h a (ErrN a C t dx):=⟨e,⟨_,e⟩,λ_ _ q k=>k _ q⟩
def Ac(K:Za)(f:Str)(ta te:TE):TS:=λD σ H=>te σ H λy H1=>ta σ H1 λx H2=>∃a C t l xs,x=.ref a/\y=.ref l/\H2 a=some (ErrN a C t none)/\ErrSt K C/\NoAttr K C f/\H2 l=some (.lst xs)/\
 ∀o dx,H2 dx=none->D.nx σ (upd (upd (upd H2 l (.frz o (.lst xs))) a (ErrN a C t (some dx))) dx (.xd [(f,.ref l)]))
def Gv{X:Cx}{o value:Expr}{f:Str}{pos pos':Pos}{ta tv:TE}(ha:PE X o ta)(hv:PE X value tv)(hs:swapsWith value (some (.Attribute o f pos')) pos.line X.env=pure false):PS X (.Assign [.Attribute o f pos'] value pos) (Ac X.K f ta tv):=by
 intro pins s σ H D I h;refine plainObj_wpAny_Assign_Attribute (thn (hv pins s σ H _ I h) λu s1 ⟨y,H1,I1,ry,q⟩=>thn (ha pins s1 σ H1 _ I1 q) λov s2 ⟨x,H2,I2,rx,a,C,t,l,xs,ex,ey,ea,c,n,hl,q2⟩=>?_) hs;subst ex ey;obtain rfl:ov=Value.ref a:=rx;obtain rfl:u=Value.ref l:=ry;have hg:s2.heap.get? a=some (UN C t none):=(show ObjOk X.prog X.w H2 s2.heap a (ErrN a C t none)from I2.hok a _ ea).1
 obtain⟨ob,I3⟩:=Ov I2 hl;have hal:a≠l:=Bf ea hl λz=>nomatch z;have ea3:upd H2 l (.frz ob (.lst xs)) a=some (ErrN a C t none):=by rw[Jn hal];exact ea
 have hn:H2 s2.heap.objs.size=none:=I2.hok.fresh (Yc _);have hn3:upd H2 l (.frz ob (.lst xs)) s2.heap.objs.size=none:=I3.hok.fresh (Yc _);have hna:s2.heap.objs.size≠a:=JO ea hn |>.symm
 refine OP I2.kIn hg c n λh' h1 h2 h3 h4=>?_;have f0:=I3.fpOk (H':=upd (upd H2 l (.frz ob (.lst xs))) a (ErrN a C t (some s2.heap.objs.size))) (Yc _) (by rw[Jn hna];exact hn3)
 have I4:Inv X pins σ (upd (upd H2 l (.frz ob (.lst xs))) a (ErrN a C t (some s2.heap.objs.size))) {s2 with heap:=h',toks:=s2.toks+2}:=
  I3.write (x:=a) (e:=a) (by rw[ea3];exact True.intro) (.inl rfl) (λb q hb z=>h3 b q hb z) ⟨_,h1⟩ (A9 h1)
 have I5:=Dz (o:=.xd [(f,.ref l)]) I4 f0.1 f0.2.1 f0.2.2.2.2.1 f0.2.2.2.2.2 (λc u e z=>by
  have:=Yd e
  rw[z]at this
  exact absurd (Y3 this I2.sz) (Wh _)) ⟨_,h2,λg=>by
   show RelO (List.lookup g [(f,V.ref l)]) (if g=f then some (Value.ref l)else none);by_cases hb:g=f
   ·subst hb;rw[Ya rfl];simp only[List.lookup,beq_self_eq_true];exact rfl
   ·rw[ZZ hb];simp only[List.lookup,YZ.mpr hb];exact True.intro⟩
 exact⟨σ,_,I5,q2 ob _ hn⟩
def tMem(K:Za)(f:Str)(ta:TE):TE:=λσ H Q=>ta σ H λx H1=>∃a C g dx fs v,x=.ref a/\H1 a=some (ErrD a C (some dx))/\ErrI K C g/\NoAttr K C f/\H1 dx=some (.xd fs)/\fs.lookup f=some v/\Q v H1
def R8{prog:Program}{w:World}{A:Around}{E:Value->Shared->Prop}{h:Heap}{g:Array GenState}{d:Drawn}{t:Nat}{os:OsState}{a C f:Addr}{o:Obj}{K:Za}{v:Value}{Q:Unit->Shared->Prop}(k:K.In h)(G:ErrI K C f)(hx:h.get? a=some o)(hc:o.cls=.ref C)(hq:Q () ⟨h,g,d,t,os⟩) :
  wpAny (model prog w) A (checkBuiltinCall "BaseException.__getattribute__" ⟨[.ref a,v],[]⟩) Q E ⟨h,g,d,t,os⟩:=by
 obtain⟨bm,N,nm,q,bs,hdct,sn,sub,ab,col,dd,k0,k1,k2,k3,k5,mN,hC,hN,hni,hT⟩:=G.obj k;have hbe:(Value.ref C::bm).contains (.type "BaseException")=true:=by rw[Vc,hT.hasType (b:=true) (by decide +kernel)];rfl
 have e1:builtinKind "BaseException.__getattribute__"=some .slot:=by decide +kernel
 have e2:splitId "BaseException.__getattribute__"=some ("BaseException","__getattribute__"):=by decide +kernel
 have e3:=F.args_bexc_ga (.ref a) v;simp only[checkBuiltinCall,e1,e2];refine ZT ?_;unfold isInstance
 repeat (first|(with_reducible refine Wf hx ?_;rw[hc])|(with_reducible refine QU hC ?_;rw[hbe])|wp_step)
 exact hq
def LM{X:Cx}{e:Expr}{f:Str}{pos:Pos}{ta:TE}(he:PE X e ta)(hb:attributeBase e f X.env (eval e X.env)=eval e X.env):PE X (.Attribute e f pos) (tMem X.K f ta):=by
 intro pins s σ H Q I h;refine Dn hb (thn (he pins s σ H _ I h) λu s1 ⟨x,H1,I1,rx,a,C,g,dx,fs,v,ex,ea,c,n,hd,l,q⟩=>?_);subst ex;obtain rfl:u=Value.ref a:=rx;obtain⟨⟨o,g1,g2,vs,g3⟩,_⟩:=(show ObjOk X.prog X.w H1 s1.heap a (ErrD a C (some dx))from I1.hok a _ ea)
 obtain⟨mA,ns,rl⟩:=(show ObjOk X.prog X.w H1 s1.heap dx (.xd fs)from I1.hok dx _ hd)
 obtain⟨w,hw,rw'⟩:=RelO.some_of (v:=v) (o:=mA f) (by rw[←l];exact rl f);have hc:o.cls=.ref C:=YD Prod.fst g2;obtain⟨hp,gs,dr,tk,os⟩:=s1;refine MJ I1.kIn c.ga c.gt (λhq=>R8 I1.kIn c g1 hc hq) c.hd n g1 hc (YD Prod.snd g2) (by unfold PySem.W.notCls;rw[g3]) ns hw (Fp rw') ⟨v,H1,I1.tok _,rw',q⟩
def AJ(X:Cx)(E:XK):Prop:=∀(pins:List (Addr×Obj)) (σ:L2.St) (H:Hp) (s:Shared) (C a t:Addr) (dx:Option Addr),Inv X pins σ H s->s.heap.get? a=some (UN C t dx)->H a=none->X.s₀.heap.get? a=none->E (.ref C) dx H->X.xe (.ref a) s
def Py(K:Za):Sp:=λvs H Q _=>∃(a C t p:Addr) (xs:List V),vs=[.ref a,.ref p]/\H a=some (ErrN a C t none)/\SqL K H p xs/\ErrSt K C/\NoAttr K C "members"/\
 ∀(l dx:Addr) (o:Obj),H l=none->H dx=none->dx≠l->Q .non (upd (upd (upd H l (.frz o (.lst xs))) a (ErrN a C t (some dx))) dx (.xd [("members",.ref l)]))
def DS(K:Za)(C:Addr)(E:XK)(t:TA):TS:=λ_ σ H=>t σ H λvs H1=>∃(p:Addr) (xs:List V),vs=[.ref p]/\SqL K H1 p xs/\
 ∀(l dx:Addr) (o:Obj),H1 l=none->H1 dx=none->dx≠l->E (.ref C) (some dx) (upd (upd H1 l (.frz o (.lst xs))) dx (.xd [("members",.ref l)]))
def GM{H:Hp}{a l dx:Addr}{o0 o1 F D:HO}(ha:H a=none)(hl:l≠a)(hd:dx≠a):er (upd (upd (upd (upd H a o0) l F) a o1) dx D) a=upd (upd H l F) dx D:=by
 funext b;by_cases z:b=a
 ·subst z;rw[TR,Jn (Ne.symm hd),Jn (Ne.symm hl),ha]
 ·rw[Xy z];by_cases y:b=dx
  ·rw[y,Jw,Jw]
  ·rw[Jn y,Jn y,Jn z];by_cases x:b=l
   ·rw[x,Jw,Jw]
   ·rw[Jn x,Jn x,Jn z]
section
variable {X:Cx}{x:Str}{C:Addr}{E:XK}{e:Expr}{t:TA}{p cpos pos:Pos}{k:Nat}{ps:List Str}
def MP(Ci:Pu.CalleeM X.prog X.w X.K X.mg X.base CX0 k (ErrI X.K C) ps (Py X.K))(hr:Room (k+1) X.A)(hm:X.mg x=some (.ref C))(hR:AJ X E)(hex:X.ex=[])(hc:X.calm=true)(ha:PA X [e] t)(hg:Gl X x:=by rfl)(hdb:(x==("__debug__" : Str))=false:=by decide)(he:starEach [e] X.env=[(false,eval e X.env)]:=by rfl):PS X (.Raise (some (.Call (.Name x p) [e] [] cpos)) none pos) (DS X.K C E t):=by
 obtain⟨f,fd,F,G,hb⟩:=Ci.ex;intro pins s σ H D I h;obtain⟨bm,N,nm,q,bs,hdct,sn,sub,ab,col,dd,k0,k1,k2,k3,k5,mN,hC,hN,hni,hT⟩:=G.obj I.ok.mod.kin;obtain⟨oI,hoI,hcI⟩:=Option.map_eq_some_iff.mp G.fn
 have hpl:(backTo cpos (starEach [e] X.env)).any (·.1)=false:=by
  rw[he];rfl
 refine Zaa (C:=C) (nm:=nm) (q:=q) (N:=N) (bs:=bs) (bm:=bm) (hdct:=hdct) (sn:=sn) (sub:=sub) (ab:=ab) (col:=col) (dd:=dd) (k0:=k0) (k1:=k1) (k2:=k2) (k3:=k3) (k5:=k5) (oI:=oI)
  W7 (by decide +kernel) W7 (hT.hasType (by decide +kernel)) (I.ok.hd hc) hpl hni hcI (K9 I hg hm ⟨rfl,?_⟩ hdb)
 have hA:=ha cpos pins s σ H _ I h;rw[he]at hA ⊢;refine QH (thn hA λus s2 ⟨vs,H2,I2,r2,p2,xs,ev,hp,q2⟩=>?_);subst ev;obtain⟨u,rfl,ru⟩:=r2.one;obtain rfl:u=Value.ref p2:=ru;refine⟨rfl,by show 1<=_;rw[Q1];omega,I2.bk _ _ hC,hN.keeps I2.bk,hT.keeps I2.bk,I2.bk _ _ (I.ok.mod.kin _ _ hoI),λh' a hm'=>?_⟩;obtain⟨t0,ht,_,_⟩:=hm'.there;have na:H2 a=none:=Tt I2.hok hm'.new;have I3:=layG (t':=s2.toks) I2 hex hm'.new hm'.keeps (A9 (C:=C) (t:=t0) (dx:=none) ht)
 have hsp:Py X.K [.ref a,.ref p2] (upd H2 a (ErrN a C t0 none)) (λv H3=>v=.non/\∃l dx o,H2 l=none/\H2 dx=none/\dx≠l/\l≠a/\dx≠a/\H3=upd (upd (upd (upd H2 a (ErrN a C t0 none)) l (.frz o (.lst xs))) a (ErrN a C t0 (some dx))) dx (.xd [("members",.ref l)])) (λ_ _ _=>False):=by
  refine⟨a,C,t0,p2,xs,rfl,Jw,(Own.JP na).seq hp,G.st,G.nm,λl dx o h1 h2 h3=>⟨rfl,l,dx,o,?_⟩⟩;have e1:l≠a:=λz=>by rw[z,Jw]at h1;cases h1
  have e2:dx≠a:=λz=>by rw[z,Jw]at h2;cases h2
  rw[Jn e1]at h1;rw[Jn e2]at h2;exact⟨h1,h2,h3,e1,e2,rfl⟩
 have r3:Vals [V.ref a,V.ref p2] [Value.ref a,Value.ref p2]:=.cons rfl (.cons rfl .nil)
 have hl:([Value.ref a,Value.ref p2]++[]).length=ps.length:=by
  have:=F.len _ _ _ _ hsp
  exact this
 refine QG (W1 (F.run _ X.stack _ _ ⟨[Value.ref a,Value.ref p2],[]⟩ [Value.ref a,Value.ref p2] _ _ (λ_ _ _=>False) (hr.make C [.ref p2] []) (I3.env0.make C [.ref p2] []) (hb _ [Value.ref a,Value.ref p2] I3.kIn hl) r3 hsp) λr s' hq'=>?_);cases r with
 |error e=>exact False.elim hq'
 |ok fl=>
  cases fl with
  |ret u=>
   obtain⟨v,H',I4,rv,ev,l,dx,o,n1,n2,n3,n4,n5,eH⟩:=I3.after hq';subst ev;obtain rfl:u=Value.none:=rv;have ea:H' a=some (ErrN a C t0 (some dx)):=by rw[eH,Jn (Ne.symm n5),Jw]
   have hg':s'.heap.get? a=some (UN C t0 (some dx)):=(show ObjOk X.prog X.w H' s'.heap a (ErrN a C t0 (some dx))from I4.hok a _ ea).1
   refine⟨rfl,I4.bk _ _ hC,⟨t0,some dx,hg'⟩,hR pins σ (er H' a) s' C a t0 (some dx) (forget I4 ea) hg' TR (KO I2 hex hm'.new) ?_⟩;rw[eH,GM na n4 n5];exact q2 l dx o n1 n2 n3
  |next=>exact False.elim hq'
  |brk=>exact False.elim hq'
  |cont=>exact False.elim hq'
def G6{P:Program}{w:World}{K:Za}{mg:Str->Option Value}{base:Heap}{N:List Str}{qual:Str}{scope:Scope}{f:Addr}{cd:Value}{A:Around}{outer:List Env}{s:Shared}{H:Hp}{E:XK} :
  AJ (cxOf (CXe P w) P w K mg base N qual scope f cd A outer s H E) E:=by
 intro pins σ H1 s1 C a t dx I hg fa na q;exact YB (Cd I rfl rfl rfl na fa hg rfl rfl rfl rfl) (λ_ s3 ⟨T2,y⟩=>⟨a,T2,C,dx,H1,rfl,y,q⟩) λ_ _ z=>z
def M0{K:Za}{vs:List V}{H:Hp}{Q:VK}{E:XK}{D:Ends}(h:Py K vs H Q E)(hD:D.nx=λ_ H'=>Q .non H') :
  Ac K "members" (tVar 0) (tCB (λxs H Q=>∃p ys,xs=[.ref p]/\(SqL K H p ys\/SqT K H p ys)/\∀l,H l=none->Q (.ref l) (upd H l (.lst ys))) (Ua (tVar 1) tNil)) D (start ["self","members"] vs) H:=by
 obtain⟨a,C,t,p,xs,rfl,ha,hp,c,n,q⟩:=h;refine⟨_,rfl,p,xs,rfl,.inl hp,λl nl=>⟨_,rfl,a,C,t,l,xs,rfl,rfl,?_,c,n,Jw,λo dx nd=>?_⟩⟩
 ·rw[Jn (JO ha nl)];exact ha
 ·have e1:dx≠l:=λz=>by rw[z,Jw]at nd;cases nd
  rw[Jn e1]at nd;rw[hD,Fi];exact q l dx o nl nd e1
end
end ExcR
namespace Pu
open PySem PySem.Spec PyProof.Rows L2 Own M
section
variable {K:Za}{mg:Str->Option Value}{E:L2.St->XK}{H0 H H1 H':Hp}{B Z Z':Addr->Prop}{σ:L2.St}{γ:Γ}
def D7:∀{ns:List Int}{vs:List V},Rps K H (ns.map D.int) vs->vs=ns.map V.int
 |[],_,h=>by cases h;rfl
 |n::ns,_,h=>by
  cases h with
  |cons h r=>rw[D7 r,h.int_inv];rfl
def Om(r:PTA):PTS:=λR γ=>r γ (λss=>match ss with
 |[s]=>(∃ns:List Int,s.d=.lst (ns.map D.int)/\R.ex γ (encR ns))
 |_=>False) (R.ex γ)
def Gh{ta:TA}{r:PTA}{Ec:XK}(hr:SndA K mg (λ_=>Ec) ta r):SndS K mg (λ_=>Ec) (ExcR.DS K (ExcR.Jm mg "Ringed") Ec ta) (Om r):=by
 intro H0 B H σ γ R D hB env h e;refine hr H0 B H σ γ _ _ _ env h (λss vs H1 h1 S1 t1=>?_) λc H' hc S'=>e.ex σ γ c H' hc (env.grow S') (Fr.grow S');split at h1
 ·rename_i s;obtain⟨ns,ed,h2⟩:=h1;obtain⟨v,rfl,tv⟩:=t1.one_inv;have env1:=env.grow S1;have rv:=tv.rp env1.same;rw[ed]at rv;obtain⟨p,vs,rfl,hp,rr⟩:=rv.lst_inv;rw[D7 rr]at hp;refine⟨p,_,rfl,SqL.of hp,λl dx o nl nd ne=>?_⟩;have S2:Same H1 (upd (upd H1 l (.frz o (.lst (ns.map V.int)))) dx (.xd [("members",.ref l)])):=(JP nl).trans (JP (by rw[Jn ne];exact nd));have S3:=S1.trans S2;exact(e.ex σ γ (encR ns) _ h2 (env.grow S3) (Fr.grow S3)).mem Jw (by rw[Jn (Ne.symm ne)];exact Jw)
 ·exact h1.elim
def MF(mg:Str->Option Value)(i:Nat)(pb ph:PTS):PTS:=λR γ=>pb {R with ex:=λγ' c=>∃r,c=encR r/\ph {nx:=λg=>R.nx (g.set i none),rt:=R.rt,ex:=λ_ _=>False,bk:=λg=>R.bk (g.set i none),ct:=λg=>R.ct (g.set i none),rv:=R.rv} (γ'.set i (some (.sh (.erM (ExcR.Jm mg "Ringed") r))))} γ
def My{i:Nat}{C0:Addr}{tb:Ends->TS}{ts:TS}{pb ph:PTS}{E':L2.St->XK}(hcs:PySem.W.exmOne K (.ref (ExcR.Jm mg "Ringed")) (.ref C0)=some true)(hb:∀D,SndS K mg (ExcR.hx K C0 i ts D) (tb D) pb)(hh:SndS K mg E' ts ph):SndS K mg E (λD σ H=>tb D D σ H) (MF mg i pb ph):=by
 intro H0 B H σ γ R D hB env h e;refine hb D H0 B H σ γ _ D hB env h ⟨e.nx,e.rt,λσ' γ' c H' hc e' f'=>?_,e.bk,e.ct,e.rv⟩;obtain⟨r,rfl,hp⟩:=hc;refine .ofM λdx l o hd hl=>⟨_,rfl,hcs,λa na=>?_⟩;have S1:=JP (o:=ExcR.ErrD a (ExcR.Jm mg "Ringed") (some dx)) na
 have tv:TV K (zof B γ' σ') H0 H' (upd H' a (ExcR.ErrD a (ExcR.Jm mg "Ringed") (some dx))) (.sh (.erM (ExcR.Jm mg "Ringed") r)) (.ref a):=
  .erM (JK Jw λz=>by have:=e'.zm a z;rw[na]at this;exact this) (JK (S1 _ _ hd) λz=>by have:=e'.zm dx z;rw[hd]at this;exact this) (JK (S1 _ _ hl) λz=>by have:=e'.zm l z;rw[hl]at this;exact this)
 obtain⟨e2,f2⟩:=e'.set (i:=i) S1 tv rfl;have f12:=f'.trans f2;refine hh H0 B _ _ _ _ _ hB e2 hp ⟨λσ3 γ3 H3 q3 e3 f3=>?_,e.rt,λ_ _ _ _ z=>z.elim,λσ3 γ3 H3 q3 e3 f3=>?_,λσ3 γ3 H3 q3 e3 f3=>?_,λσ3 γ3 d v H3 q3 e3 f3=>e.rv σ3 γ3 d v H3 q3 e3 (f12.trans f3)⟩
 ·obtain⟨e4,f4⟩:=e3.gone i;exact e.nx _ _ H3 q3 e4 (f12.trans (f3.trans f4))
 ·obtain⟨e4,f4⟩:=e3.gone i;exact e.bk _ _ H3 q3 e4 (f12.trans (f3.trans f4))
 ·obtain⟨e4,f4⟩:=e3.gone i;exact e.ct _ _ H3 q3 e4 (f12.trans (f3.trans f4))
def Rp.erM_inv {C:Addr}{r:List Int}{v:V} (h:Rp K H (.erM C r) v):∃a dx l o,v=.ref a/\H a=some (ExcR.ErrD a C (some dx))/\H dx=some (.xd [("members",.ref l)])/\H l=some (.frz o (.lst (r.map V.int))):=by
 cases h with
 |erM h1 h2 h3=>exact⟨_,_,_,_,rfl,h1,h2,h3⟩
def pMem(C0:Addr)(a:PTE):PTE:=λγ R X=>a γ (λs=>match s.d with
 | .erM C r=>C=C0/\R (.sh (.fL r))
 |_=>False) X
def L6{C0:Addr}{te:TE}{a:PTE}(hc:∃g,ExcR.ErrI K C0 g)(ha:SndE K mg E te a):SndE K mg E (ExcR.tMem K "members" te) (pMem C0 a):=by
 obtain⟨g,c⟩:=hc;intro H0 B H σ γ R X Q env p q qx;refine ha H0 B H σ γ _ X _ env p (λs v H1 h1 S1 t1=>?_) qx;have env1:=env.grow S1;have rv:=t1.rp env1.same;split at h1
 ·rename_i C r ed;obtain⟨rfl,h2⟩:=h1;rw[ed]at rv;obtain⟨b,dx,l,o,rfl,g1,g2,g3⟩:=rv.erM_inv;exact⟨b,_,g,dx,_,.ref l,rfl,g1,c,c.nm,g2,rfl,q _ _ H1 h2 S1 (.fL (JK g3 λz=>by have:=env1.zm l z;rw[g3]at this;exact this))⟩
 ·exact h1.elim
end
end Pu
namespace Pu
open PySem PySem.Spec PyProof.Rows L2 Own
structure RI (K:Za) (x:Str) (C:Addr) (q:Str) (st:Stmt):Prop where
 a:PySem.W.nsIn K mainGlobals x=some (some (.ref C))
 ex:∃f fd,ExcR.ErrI K C f/\Fun K "__init__" q st f fd
section
variable {K:Za}{h:Heap}{mg:Str->Option Value}{x q:Str}{st:Stmt}{C M N f:Addr}
def Mh{cd:ClassData}(m:PySem.W.excIn K M ExcR.UQ "ValueError.__new__"=true):PySem.W.tailIn K ExcR.UQ (.ref M::ExcR.UQ)=true:=by
 unfold PySem.W.excIn at m;split at m
 next dd cd sl ho=>
  split at m
  next C1 bm k0 k1 k2 k3 n k5 hm hs=>
   simp only[Y5,beq_iff_eq,Q0]at m;obtain⟨⟨⟨_,e4⟩,e5⟩,e6⟩:=m;unfold PySem.W.tailIn;rw[Bool.or_eq_true];right
   try dsimp only
   rw[ho]
   try dsimp only
   rw[e5,e6]
   have:PySem.W.tailIn K ExcR.UQ ExcR.UQ=true:=by
    unfold PySem.W.tailIn ExcR.UQ;simp
   rw[this];rfl
  next=>cases m
 next=>cases m
def ri{dd d1:Option Addr}{cd:ClassData}{sl s1:Array (Option Value)}{k0 k1 k2 k3 k5:Option Value}{c1:Value}{es:Array DictEntry}{n:Nat}{oc:Value}{od an:Option Addr}{osl:Array (Option Value)}{kV doc pm cdv ct:Value}(a:PySem.W.nsIn K mainGlobals x=some (some (.ref C)))(l:K.lookup C=some ⟨.type "type",dd,.cls cd,sl⟩)(mr:cd.mro=.ref C :: .ref M::[.type "ValueError",.type "Exception",.type "BaseException",.type "object"])(dl:cd.hasDel=false)(hdt:cd.hasDict=true)(hsl:sl.toList=[k0,k1,k2,k3,some (.builtin "ValueError.__new__"),k5])(hN:cd.ns=N)(lN:K.lookup N=some ⟨c1,d1,.dict es n,s1⟩)(okN:(es.toList.all λe=>match e.key with | .str _ _=>true|_=>false)=true)(i:PySem.W.nsIn K N "__init__"=some (some (.ref f)))(m:PySem.W.excIn K M [.type "ValueError",.type "Exception",.type "BaseException",.type "object"] "ValueError.__new__"=true)(fn:PySem.W.isFn K (.ref f)=true)(sa:PySem.W.findIn K (.ref C) "__setattr__"=some (some (.builtin "object.__setattr__")))(ga:PySem.W.findIn K (.ref C) "__getattribute__"=some (some (.builtin "BaseException.__getattribute__")))(gt:PySem.W.findIn K (.ref C) "__getattr__"=some none)(nm:PySem.W.findIn K (.ref C) "members"=some none)(lf:K.lookup f=some ⟨oc,od,.func (PySem.W.fnOf "__init__" q (U4 st) (JV st) (Jk st) .none kV doc pm an cdv ct),osl⟩)(c:PySem.W.codeIn K cdv q=true)(k:PySem.W.keepIn K (.ref f)=true):RI K x C q st:=by
 have cl:PySem.W.clsIn K C=some cd:=by unfold PySem.W.clsIn;rw[l]
 refine⟨a,f,_,⟨?_,beq_iff_eq.mp fn,⟨?_,sa⟩,ga,gt,nm⟩,PQ lf c k⟩
 ·refine⟨dd,cd,sl,_,k0,k1,k2,k3,k5,l,mr,hsl,dl,Mh (cd:=cd) m,?_,by rw[hN];exact i⟩;rw[hN];unfold PySem.W.nsOkIn;rw[lN];show(es.all _)=true;rw[←Array.all_toList];exact okN
 ·rw[cl];show(ExcR.P5 cd.mro&&cd.hasDict)=true;rw[mr,hdt];rfl
def RI.c (y:RI K x C q st) (X:K.In h) (G0:h.Ns mainGlobals mg):ExcR.Jm mg x=C:=ExcR.Su (YQ X G0 y.a)
def RI.m (y:RI K x C q st) (X:K.In h) (G0:h.Ns mainGlobals mg):mg x=some (.ref (ExcR.Jm mg x)):=by rw[y.c X G0];exact YQ X G0 y.a
def RI.i (y:RI K x C q st) (X:K.In h) (G0:h.Ns mainGlobals mg):∃g,ExcR.ErrI K (ExcR.Jm mg x) g:=by
 obtain⟨f,fd,e,_⟩:=y.ex;rw[y.c X G0];exact⟨f,e⟩
def RI.d {C':Addr}{ps:List Str} (y:RI K x C q st) (e:C'=C)
  (b:∀(kV doc pm:Value) (an:Option Addr) (cdv ct:Value) (us:List Value),us.length=ps.length->bindArgs (PySem.W.fnOf "__init__" q (U4 st) (JV st) (Jk st) .none kV doc pm an cdv ct) ⟨us,[]⟩=pure (ps.zip us)):DefM K (ExcR.ErrI K C') "__init__" q st ps:=
 let ⟨_,_,i,F⟩:=y.ex
 ⟨_,_,F,by rw[e];exact i,F.binds b⟩
def RI.j {C':Addr}{ps:List Str} (y:RI K x C q st) (e:C'=C) (b:Bd "__init__" q st ps:=by
  intro _ _ _ _ _ _ us hl;obtain⟨_,_,rfl⟩:=Pu.len2 hl;rfl):DefM K (ExcR.ErrI K C') "__init__" q st ps:=y.d e b
end
end Pu
namespace M
open PySem PySem.Spec PyProof.Rows L2 Own Pu
def K5(hs:List Int)(ws:List (Int×Int))(X:Str->Prop)(A:Prop):Prop:=(∀r,FR hs ws r->r≠[]->X (encR r))/\((¬ ∃r,Ring hs ws r)->A)
def FR.one {hs:List Int}{ws:List (Int×Int)}{r r':List Int} (h:FR hs ws r) (h':FR hs ws r'):r=r':=by
 rcases h with⟨rfl,h⟩|⟨l,t,rfl,hl,hc,hm⟩
 ·rcases h' with⟨rfl,_⟩|⟨l',t',rfl,hl',hc',_⟩
  ·rfl
  ·exact absurd hc' (h l' hl' t')
 ·rcases h' with⟨rfl,h'⟩|⟨l',t',rfl,hl',hc',hm'⟩
  ·exact absurd hc (h' l hl t)
  ·rcases hm l' hl' t' hc' with z|⟨z,y⟩
   ·rcases hm' l hl t hc with z'|⟨z',_⟩<;>omega
   ·rcases hm' l hl t hc with z'|⟨_,y'⟩
    ·omega
    ·rcases y with y|⟨rfl,y⟩
     ·rcases y' with y'|⟨rfl,_⟩<;>omega
     ·rcases y' with y'|⟨_,y'⟩
      ·omega
      ·rcases y with rfl|y
       ·rfl
       ·rcases y' with rfl|y'
        ·rfl
        ·exact absurd y' (Ee y)
def pcc(ps:List (Int×Int)):Int->Int->Int:=λx y=>pcM ps x y ps.length
end M
namespace T
open PySem PySem.Spec PyProof.Rows L2
def top(i:Nat):Stmt:=PySem.Challenge.pw_stripmeld_k51_whole_rings_dropped.main.body.getD i (.Pass ⟨0,0,0,0⟩)
abbrev ND:Stmt:=inClass (top 11) 0
def Mr:FnScope ["self","members"] ["self","members"] (Jk ND):=Pu.fs
abbrev Bg:Stmt:=top 16
def RX:FnScope ["holder"] ["holder"] (Jk Bg):=Pu.fs
abbrev NP:Stmt:=top 17
def HK:FnScope ["width"] ["width"] (Jk NP):=Pu.fs
abbrev NH:Stmt:=top 18
def Bz:FnScope ["strips","holder","width"] ["strips"] (Jk NH):=Pu.fs
abbrev NF:Stmt:=top 19
def Mb:FnScope ["strips"] ["strips"] (Jk NF):=Pu.fs
abbrev Sx:Stmt:=top 21
def XI:FnScope ["strips","ahead","behind","to_pass","cost","holder","width"] ["strips","ahead","behind"] (Jk Sx):=Pu.fs
abbrev Np:Stmt:=top 24
def KH:FnScope ["paths","left","wishes","longer","reached","path","holder"] ["paths","left","wishes"] (Jk Np):=Pu.fs
abbrev Bc:Stmt:=top 25
def XS:FnScope ["least","holders","wishes","paths","left","rings","reached"] ["least","holders","wishes"] (Jk Bc):=Pu.fs
abbrev NB:Stmt:=top 26
def KL:FnScope ["holders","wishes","ring","least","found"] ["holders","wishes"] (Jk NB):=Pu.fs
abbrev SX:Stmt:=top 27
def AU:FnScope ["strips","wishes","ring"] ["strips","wishes"] (Jk SX):=Pu.fs
abbrev N6:Stmt:=top 29
def RT:FnScope ["wishes","ahead","behind"] ["wishes","ahead","behind"] (Jk N6):=Pu.fs
abbrev Sl:Stmt:=top 30
def HV:FnScope ["wishes","ahead","behind"] ["wishes","ahead","behind"] (Jk Sl):=Pu.fs
abbrev N9:Stmt:=top 32
def KF:FnScope ["strips","holders","costs","ahead","behind"] ["strips"] (Jk N9):=Pu.fs
abbrev SE:Stmt:=top 33
def T6:FnScope ["holders","sets","holder"] ["holders"] (Jk SE):=Pu.fs
abbrev BD:Stmt:=top 34
def Hk:FnScope ["members","holder"] ["members","holder"] (Jk BD):=Pu.fs
abbrev SR:Stmt:=top 35
def MZ:FnScope ["members","holder","wishes"] ["members","holder","wishes"] (Jk SR):=Pu.fs
abbrev SO:Stmt:=top 36
def GN:FnScope ["members","holder","wishes"] ["members","holder","wishes"] (Jk SO):=Pu.fs
abbrev SL:Stmt:=top 37
def CA:FnScope ["members","last","least","pairs","others"] ["members","last","least","pairs"] (Jk SL):=Pu.fs
abbrev Sg:Stmt:=top 38
def Cb:FnScope ["members","first","least","pairs","others"] ["members","first","least","pairs"] (Jk Sg):=Pu.fs
abbrev Nj:Stmt:=top 39
def Tx:FnScope ["strips","wishes","pairs","least","members","lasts"] ["strips","wishes","pairs"] (Jk Nj):=Pu.fs
abbrev Sh:Stmt:=top 40
def DC:FnScope ["strips","wishes","least"] ["strips","wishes"] (Jk Sh):=Pu.fs
abbrev Sz:Stmt:=top 41
def X4:FnScope ["strips","wishes","pairs","least","members","order","firsts","best"] ["strips","wishes"] (Jk Sz):=Pu.fs
abbrev SB:Stmt:=top 42
def MU:FnScope ["strips","wishes"] ["strips","wishes"] (Jk SB):=Pu.fs
abbrev Ni:Stmt:=inClass (top 45) 0
def Ll:FnScope ["self","strips"] ["self","strips"] (Jk Ni):=Pu.fs
abbrev NZ:Stmt:=inClass (top 45) 1
def IR:FnScope ["self"] ["self"] (Jk NZ):=Pu.fs
abbrev Nk:Stmt:=inClass (top 45) 2
def Hj:FnScope ["self"] ["self"] (Jk Nk):=Pu.fs
abbrev Bs:Stmt:=inClass (top 45) 4
def IC:FnScope ["self"] ["self"] (Jk Bs):=Pu.fs
abbrev NK:Stmt:=inClass (top 45) 5
def Eu:FnScope ["self","deed","field","wishes"] ["self","deed","field","wishes"] (Jk NK):=Pu.fs
abbrev Nx:Stmt:=inClass (top 45) 9
def AM:FnScope ["self","ahead","behind","wishes"] ["self","ahead","behind"] (Jk Nx):=Pu.fs
abbrev Nq:Stmt:=inClass (top 45) 10
def D5:FnScope ["self","ahead","behind","wishes"] ["self","ahead","behind"] (Jk Nq):=Pu.fs
abbrev SM:Stmt:=inClass (top 45) 13
def LW:FnScope ["self"] ["self"] (Jk SM):=Pu.fs
abbrev Sn:Stmt:=inClass (top 45) 14
def RP:FnScope ["self"] ["self"] (Jk Sn):=Pu.fs
abbrev Nn:Stmt:=inClass (top 45) 15
def L7:FnScope ["self"] ["self"] (Jk Nn):=Pu.fs
abbrev N8:Stmt:=top 47
def M2:FnScope ["_law_script","_law_k"] ["_law_script","_law_k"] (Jk N8):=Pu.fs
abbrev SC:Stmt:=top 48
def OS:FnScope ["_law_found"] ["_law_found"] (Jk SC):=Pu.fs
abbrev Nc:Stmt:=top 49
def A4:FnScope ["_law_cell","_law_place","_law_first"] ["_law_cell","_law_place"] (Jk Nc):=Pu.fs
abbrev SG:Stmt:=top 50
def Hf:FnScope ["_law_script","_law_k"] ["_law_script","_law_k"] (Jk SG):=Pu.fs
abbrev NA:Stmt:=top 51
def Es:FnScope ["_law_script"] ["_law_script"] (Jk NA):=Pu.fs
abbrev S8:Stmt:=top 52
def SJ:FnScope ["_law_cell","_law_wide","_law_least"] ["_law_cell"] (Jk S8):=Pu.fs
abbrev N2:Stmt:=top 53
def Gj:FnScope ["_law_menu_here","_law_k"] ["_law_menu_here","_law_k"] (Jk N2):=Pu.fs
abbrev Bm:Stmt:=top 54
def P1:FnScope ["_law_script","_law_menu_here","_law_many","_law_strips_here","_law_k","_law_cell","_law_width"] ["_law_script","_law_menu_here","_law_many"] (Jk Bm):=Pu.fs
abbrev Nr:Stmt:=top 55
def Xb:FnScope ["_law_script","_law_menu_here","_law_how","_law_pool","_law_wishes_here","_law_k","_law_cell","_law_one","_law_two","_law_pair"] ["_law_script","_law_menu_here"] (Jk Nr):=Pu.fs
abbrev Nl:Stmt:=top 56
def F7:FnScope ["_law_found","_law_due","_law_k"] ["_law_found","_law_due"] (Jk Nl):=Pu.fs
abbrev NY:Stmt:=top 57
def NQ:FnScope ["_law_found","_law_due","_law_k","_law_j"] ["_law_found","_law_due"] (Jk NY):=Pu.fs
abbrev N1:Stmt:=top 58
def Cr:FnScope ["_law_strips_here","_law_owners"] ["_law_strips_here"] (Jk N1):=Pu.fs
abbrev Bi:Stmt:=top 59
def Kt:FnScope ["_law_strips_here","_law_order","_law_ranks","_law_total","_law_k","_law_j"] ["_law_strips_here","_law_order"] (Jk Bi):=Pu.fs
abbrev B3:Stmt:=top 60
def Bb:FnScope ["_law_order","_law_wishes_here","_law_one","_law_two"] ["_law_order","_law_wishes_here"] (Jk B3):=Pu.fs
abbrev Bk:Stmt:=top 61
def Fs:FnScope ["_law_ring","_law_holders","_law_wishes_here","_law_k"] ["_law_ring","_law_holders","_law_wishes_here"] (Jk Bk):=Pu.fs
abbrev SH:Stmt:=top 62
def Ko:FnScope ["_law_holders","_law_wishes_here","_law_left","_law_turn","_law_inside","_law_behind"] ["_law_holders","_law_wishes_here"] (Jk SH):=Pu.fs
abbrev NG:Stmt:=top 63
def Xx:FnScope ["_law_wishes_here","_law_holders","_law_cell","_law_many","_law_laid","_law_first","_law_k","_law_pair","_law_rest","_law_spot"] ["_law_wishes_here","_law_holders","_law_cell"] (Jk NG):=Pu.fs
abbrev N0:Stmt:=top 64
def Pq:FnScope ["_law_holders","_law_cell","_law_left","_law_order","_law_rest"] ["_law_holders","_law_cell"] (Jk N0):=Pu.fs
abbrev NR:Stmt:=top 65
def Tu:FnScope ["_law_village","_law_ring","_law_told","e"] ["_law_village","_law_ring"] (Jk NR):=Pu.fs
abbrev Sv:Stmt:=top 66
def CL:FnScope ["_law_village","_law_strips_here","_law_wishes_here","_law_order"] ["_law_village","_law_strips_here","_law_wishes_here"] (Jk Sv):=Pu.fs
abbrev UZ:Stmt:=top 67
def Ut:FnScope ["_law_script","_law_menu_here","_law_strips_here","_law_holders","_law_spare_here","_law_mixed","_law_wishes_here","_law_village","_law_one","_law_two","_law_count","_law_ring","_law_k","_law_pair"] ["_law_script"] (Jk UZ):=Pu.fs
structure Glob (K:Za) (mg:Str->Option Value):Prop where
 any:mg "any"=none
 bool:mg "bool"=none
 int:mg "int"=none
 isinstance:mg "isinstance"=none
 len:mg "len"=none
 list:mg "list"=none
 max:mg "max"=none
 min:mg "min"=none
 range:mg "range"=none
 set:mg "set"=none
 sorted:mg "sorted"=none
 sum:mg "sum"=none
 tuple:mg "tuple"=none
 HOLDERS:∃u,mg "HOLDERS"=some u/\RelV (.int 10) u
 STRIPS:∃u,mg "STRIPS"=some u/\RelV (.int 40) u
 WIDEST:∃u,mg "WIDEST"=some u/\RelV (.int 1000) u
 MOST_WISHES:∃u,mg "MOST_WISHES"=some u/\RelV (.int 20) u
 MOST_DEEDS:∃u,mg "MOST_DEEDS"=some u/\RelV (.int 100) u
 m_TooManyStrips:mg "TooManyStrips"=some (.ref (ExcR.Jm mg "TooManyStrips"))
 g_TooManyStrips:ExcR.ErrGet K (ExcR.Jm mg "TooManyStrips")
 m_BadHolder:mg "BadHolder"=some (.ref (ExcR.Jm mg "BadHolder"))
 g_BadHolder:ExcR.ErrGet K (ExcR.Jm mg "BadHolder")
 m_BadWidth:mg "BadWidth"=some (.ref (ExcR.Jm mg "BadWidth"))
 g_BadWidth:ExcR.ErrGet K (ExcR.Jm mg "BadWidth")
 m_LikeHolders:mg "LikeHolders"=some (.ref (ExcR.Jm mg "LikeHolders"))
 g_LikeHolders:ExcR.ErrGet K (ExcR.Jm mg "LikeHolders")
 m_WishStands:mg "WishStands"=some (.ref (ExcR.Jm mg "WishStands"))
 g_WishStands:ExcR.ErrGet K (ExcR.Jm mg "WishStands")
 m_TooManyWishes:mg "TooManyWishes"=some (.ref (ExcR.Jm mg "TooManyWishes"))
 g_TooManyWishes:ExcR.ErrGet K (ExcR.Jm mg "TooManyWishes")
 m_NoWish:mg "NoWish"=some (.ref (ExcR.Jm mg "NoWish"))
 g_NoWish:ExcR.ErrGet K (ExcR.Jm mg "NoWish")
 m_BookFull:mg "BookFull"=some (.ref (ExcR.Jm mg "BookFull"))
 g_BookFull:ExcR.ErrGet K (ExcR.Jm mg "BookFull")
 m_Ringed:mg "Ringed"=some (.ref (ExcR.Jm mg "Ringed"))
 r_Ringed:∃g,ExcR.ErrI K (ExcR.Jm mg "Ringed") g
 x_Ringed:PySem.W.exmOne K (.ref (ExcR.Jm mg "Ringed")) (.ref (ExcR.Jm mg "Ringed"))=some true
 m_Village:mg "Village"=some (.ref (ExcR.Jm mg "Village"))
 cl_Village:Cls K (ExcR.Jm mg "Village")
 n_Village_book:NoAttr K (ExcR.Jm mg "Village") "book"
 n_Village_fields:NoAttr K (ExcR.Jm mg "Village") "fields"
 n_Village_wished:NoAttr K (ExcR.Jm mg "Village") "wished"
def Bl:Pu.FldAt "book" ["book","fields","wished"] 0:=.of (by decide +kernel) (by decide +kernel) rfl
def Oy:Pu.PutAt "book" []:=.of (by decide +kernel)
def A0:Pu.FldAt "fields" ["book","fields","wished"] 1:=.of (by decide +kernel) (by decide +kernel) rfl
def LJ:Pu.PutAt "fields" ["book"]:=.of (by decide +kernel)
def Dt:Pu.FldAt "wished" ["book","fields","wished"] 2:=.of (by decide +kernel) (by decide +kernel) rfl
def OM:Pu.PutAt "wished" ["book","fields"]:=.of (by decide +kernel)
def KJ:Pu.NoFld "strips" ["book","fields","wished"]:=.of (by decide +kernel)
def Ki:Pu.NoFld "wishes" ["book","fields","wished"]:=.of (by decide +kernel)
def DZ:Pu.NoFld "check_room" ["book","fields","wished"]:=.of (by decide +kernel)
def FG:Pu.NoFld "enter" ["book","fields","wished"]:=.of (by decide +kernel)
def Mv:Pu.NoFld "wish" ["book","fields","wished"]:=.of (by decide +kernel)
def OW:Pu.NoFld "drop" ["book","fields","wished"]:=.of (by decide +kernel)
def CB:Pu.NoFld "ring" ["book","fields","wished"]:=.of (by decide +kernel)
def EZ:Pu.NoFld "order" ["book","fields","wished"]:=.of (by decide +kernel)
def Ar:Pu.NoFld "cost" ["book","fields","wished"]:=.of (by decide +kernel)
end T
namespace M
open PySem PySem.Spec PyProof.Rows L2 Own Pu
def Rc:Pc:=λds R X=>∃h:Int,ds=[.int h]/\Xm (Pf h) X (R (.sh .non))
def NU(h:Int):Option Str:=if 1<=h/\h<=1000 then none else some "BadWidth"
def LA:Pc:=λds R X=>∃h:Int,ds=[.int h]/\Xm (NU h) X (R (.sh .non))
def Dw(_:Za):Sp:=λvs H Q _=>∃(l:Addr) (ps:List (Int×Int)),vs=[.ref l]/\LAt U7 H l ps/\Field ps/\ps.length<=50/\
 ∀(q:Addr) (H':Hp),H q=none->Same H H'->H' q=some (.lst ((Js ps).map V.int))->Q (.ref q) H'
def Dv:Pc:=λds R _=>∃ps:List (Int×Int),ds=[.lst (ps.map prD)]/\Field ps/\ps.length<=50/\R (.own ((Js ps).map D.int))
def KQ{P:Program}{w:World}{K:Za}{mg:Str->Option Value}{base:Heap}(C:Callee P w K mg base CX0 1 "holders_of" ["strips"] (Dw K)):Callee P w K mg base CX0 1 "holders_of" ["strips"] (Pu.spOf mg Dv K):=DP C λds R X vs H Q E r hc hQ hX=>by
 obtain⟨ps,rfl,hF,hz,hR⟩:=hc;obtain⟨v,rfl,r1⟩:=r.one_inv;obtain⟨a,rfl,ha⟩:=r1.pairs_inv;exact⟨a,ps,rfl,ha,hF,hz,λq H' nq S h=>hQ _ _ H' hR S (Fe nq h)⟩
def RE:Pc:=λds R _=>∃(ps:List (Int×Int)) (x y:Int),ds=[.lst (ps.map prD),.int x,.int y]/\Field ps/\R (.sh (.int (pcM ps x y ps.length)))
def EC:Pc:=λds R _=>∃(l:Int) (ps:List (List Int)) (ls:List Int) (ws:List (Int×Int)),ds=[.lst (ps.map (em l)),.lst (ls.map D.int),.lst (ws.map prD)]/\ps.Pairwise sl/\ls.Pairwise (· < ·)/\(∀p∈ps,p.length<=100)/\ls.length<=100/\
 ∀lg,LG ws l (λp h=>p∈ps/\h∈ls) lg->lg.length<=ls.length->R (.own (lg.map (em l)))
def Ek:Pc:=λds R X=>∃(ws:List (Int×Int)) (a b:Int),ds=[plD ws,.int a,.int b]/\ws.length<=1000/\Xm (Kw ws a b) X (R (.own ((Xn ws a b).map prD)))
def Et:Pc:=λds R _=>∃hs:List Int,ds=[.lst (hs.map D.int)]/\hs.length<=10/\R (.own ((J6 hs).map tD))
def OU:Pc:=λds R _=>∃(ms:List Int) (h:Int),ds=[tD ms,.int h]/\ms.length<=1000/\R (.sh (tD (Ju ms h)))
def Ii:Pc:=λds R _=>∃(ms:List Int) (h:Int) (ws:List (Int×Int)),ds=[tD ms,.int h,.lst (ws.map prD)]/\ws.length<=50/\R (.sh (.bl (Xh ws ms h)))
def R5:Pc:=λds R _=>∃(ms:List Int) (h:Int) (ws:List (Int×Int)),ds=[tD ms,.int h,.lst (ws.map prD)]/\ws.length<=50/\R (.sh (.bl (firstM ws ms h)))
def Ol(C:Addr):Pc:=λds R _=>∃(bk:List (Str×List Int)) (fs ws:List (List (Int×Int))) (f:List (Int×Int)),ds=[vilD C bk (fs++[f]) ws]/\R (.own (f.map prD))
def L5(C:Addr):Pc:=λds R _=>∃(bk:List (Str×List Int)) (fs ws:List (List (Int×Int))) (f:List (Int×Int)),ds=[vilD C bk fs (ws++[f])]/\R (.own (f.map prD))
def Td(bk:List (Str×List Int)):Option Str:=if 100<=bk.length then some "BookFull" else none
def R6(C:Addr):Pc:=λds R X=>∃(bk:List (Str×List Int)) (fs ws:List (List (Int×Int))),ds=[vilD C bk fs ws]/\Xm (Td bk) X (R (.sh .non))
def HX(C:Addr):Pw:=λo ss R _=>∃(x b1 b2 b3:Addr) (bk:List (Str×List Int)) (fs ws:List (List (Int×Int))) (q:Str×List Int) (f w:List (Int×Int)),o=vO C x b1 b2 b3 bk fs ws/\ss=[.sh (dD q),.sh (plD f),.sh (plD w)]/\bk.length<=1000/\fs.length<=1000/\ws.length<=1000/\
 R (vO C x b1 b2 b3 (bk++[q]) (fs++[f]) (ws++[w])) (.int (bk.length+1))
def Ey:Pc:=λds R _=>∃(ns:List Int) (k:Int),ds=[.scr ns,.int k]/\0<=k/\∀v:Int,R (.sh (.int v))
def Ma:Pc:=λds R _=>∃i:Int,ds=[.int i]/\R (.sh (.bl true))
def MV:Pc:=λds R _=>∃c p:Int,ds=[.int c,.int p]/\∀v:Int,R (.sh (.int v))
def EU:Pc:=λds R _=>∃c:Int,ds=[.int c]/\∀m,Menu m->R (.own (m.map D.int))
def Hn:Pc:=λds R _=>∃(m:List Int) (k:Int),ds=[.lst (m.map D.int),.int k]/\Menu m/\∀h:Int,1<=h->h<=10->h=N3 m k->R (.sh (.int h))
def EN:Pc:=λds R _=>∃ps:List (Int×Int),ds=[.lst (ps.map prD)]/\ps.length<=50/\R (.own ((Js ps).map D.int))
def EM:Pc:=λds R _=>∃(ps:List (Int×Int)) (os:List Int),ds=[.lst (ps.map prD),.lst (os.map D.int)]/\Field ps/\ps.length<=50/\(∀p∈ps,p.1∈os)/\R (.sh (.int (priM ps os ps.length)))
def badM(os:List Int)(q:Int×Int):Bool:=decide (q.1∈os)&&(decide (q.2∈os)&&decide (os.idxOf q.2<os.idxOf q.1))
def Iq:Pc:=λds R _=>∃(os:List Int) (ws:List (Int×Int)),ds=[.lst (os.map D.int),.lst (ws.map prD)]/\((∀q∈ws,badM os q=false)->R (.sh (.bl true)))/\((∃q∈ws,badM os q=true)->R (.sh (.bl false)))
def O7:Pc:=λds R _=>∃(hs:List Int) (ws:List (Int×Int)),ds=[.lst (hs.map D.int),.lst (ws.map prD)]/\hs.length<=50/\ws.length<=50/\R (.sh (.bl (decide (JB ws hs hs.length=[]))))
def Ez:Pc:=λds R _=>∃(a:Addr) (ws:List (Int×Int)) (hs:List Int) (c:Int),ds=[.loc a (.lst (ws.map prD)),.lst (hs.map D.int),.int c]/\UI ws/\hs.Nodup/\hs.length<=10/\(∀h∈hs,1<=h/\h<=10)/\
 ∀ws',UI ws'->∀s,(s=.own (ws'.map prD)\/(ws'.map prD=ws.map prD/\s=.bor (.loc a (.lst (ws.map prD)))))->R s
def BF(K:Za):Sp:=λvs H Q _=>∃(l:Addr) (hs:List Int) (c:Int),vs=[.ref l,.int c]/\SqL K H l (hs.map V.int)/\hs.length<=50/\
 ∀(q:Addr) (H':Hp) (os:List Int),H q=none->Same H H'->H' q=some (.lst (os.map V.int))->os.Perm hs->Q (.ref q) H'
def DA:Pc:=λds R _=>∃(hs:List Int) (c:Int),ds=[.lst (hs.map D.int),.int c]/\hs.length<=50/\∀os:List Int,os.Perm hs->R (.own (os.map D.int))
def O5{P:Program}{w:World}{K:Za}{mg:Str->Option Value}{base:Heap}(C:Callee P w K mg base CX0 1 "_law_shuffled" ["_law_holders","_law_cell"] (BF K)):Callee P w K mg base CX0 1 "_law_shuffled" ["_law_holders","_law_cell"] (Pu.spOf mg DA K):=DP C λds R X vs H Q E r hc hQ hX=>by
 obtain⟨hs,c,rfl,hz,hR⟩:=hc;obtain⟨v,u,rfl,r1,r2⟩:=r.two_inv;obtain⟨a,rfl,ha⟩:=r1.ints_inv;rw[r2.int_inv];exact⟨a,hs,c,rfl,SqL.of ha,hz,λq H' os nq S h hp=>hQ _ _ H' (hR os hp) S (Fe nq h)⟩
def LH:Pc:=λds R X=>∃ps:List (Int×Int),ds=[plD ps]/\ps.length<=1000/\Xm (K4 ps) X (R (.sh .non))
def M6:Pc:=λds R _=>∃(l:Int) (hs:List Int) (ws:List (Int×Int)),ds=[.int l,.lst (hs.map D.int),.lst (ws.map prD)]/\hs.Nodup/\hs.length<=50/\∀r,RF hs ws l r->r.length<=60->R (.sh (.lst (r.map D.int)))
def IA:Pc:=λds R X=>∃(ws:List (Int×Int)) (a b:Int),ds=[plD ws,.int a,.int b]/\ws.length<=1000/\Xm (Xp ws a b) X (R (.own ((ws++[(a,b)]).map prD)))
def Lk:Pc:=λds R _=>∃ps:List (Int×Int),ds=[.lst (ps.map prD)]/\Field ps/\ps.length<=50/\
 ∀kvs:List (List Key×V),(∀x∈Js ps,∀y∈Js ps,valV kvs [.inl x,.inl y]=some (.int (pcM ps x y ps.length)))->R (.own (.dT kvs))
def GK:Pc:=λds R _=>∃(ms:List Int) (l:Int) (le pa:List (List Key×V)) (c:Int->Int) (v:Int),ds=[tD ms,.int l,.dT le,.dT pa]/\ms.length<=1000/\valV le (kT (Ju ms l))=some (.int v)/\
 (∀m∈Ju ms l,valV pa [.inl m,.inl l]=some (.int (c m)))/\R (.sh (.int (v+((Ju ms l).map c).sum)))
def HY:Pc:=λds R _=>∃(ms:List Int) (l:Int) (le pa:List (List Key×V)) (c:Int->Int) (v:Int),ds=[tD ms,.int l,.dT le,.dT pa]/\ms.length<=1000/\valV le (kT (Ju ms l))=some (.int v)/\
 (∀m∈Ju ms l,valV pa [.inl l,.inl m]=some (.int (c m)))/\R (.sh (.int (v+((Ju ms l).map c).sum)))
def Tq(bk:List (Str×List Int))(w:List (Int×Int))(a b:Int):Option Str:=if 100<=bk.length then some "BookFull" else Kw w a b
def Mq(C:Addr):Pw:=λo ss R X=>∃(x b1 b2 b3:Addr) (bk:List (Str×List Int)) (fs ws:List (List (Int×Int))) (f w:List (Int×Int)) (p h:Int),o=vO C x b1 b2 b3 bk (fs++[f]) (ws++[w])/\ss=[.sh (.int p),.sh (.int h)]/\bk.length<=1000/\fs.length<=900/\ws.length<=900/\w.length<=1000/\
 Xm (Tq bk w p h) (X (vO C x b1 b2 b3 bk (fs++[f]) (ws++[w]))) (R (vO C x b1 b2 b3 (bk++[(("drop" : Str),[p,h])]) (fs++[f]++[f]) (ws++[w]++[Xn w p h])) (.int (bk.length+1)))
def MG:Pc:=λds R _=>∃(ns:List Int) (k:Int),ds=[.scr ns,.int k]/\0<=k/\∀v:Int,R (.sh (.int v))
def RM:Pc:=λds R _=>∃ns:List Int,ds=[.scr ns]/\∀v:Int,R (.sh (.int v))
def MO:Pc:=λds R _=>∃xs:List Int,(ds=[.lst (xs.map D.int),.lst (xs.map D.int)]\/ds=[.fL xs,.lst (xs.map D.int)])/\xs.length<=1000000/\R (.sh (.bl true))
def Lu:Pc:=λds R _=>∃ps:List (Int×Int),ds=[.lst (ps.map prD),.lst (ps.map prD)]/\ps.length<=1000000/\R (.sh (.bl true))
def Iy:Pc:=λds R _=>∃(rs hs:List Int) (ws:List (Int×Int)),ds=[.lst (rs.map D.int),.lst (hs.map D.int),.lst (ws.map prD)]/\rs.length<=50/\Ring hs ws rs/\R (.sh (.bl true))
def Gx:Pc:=λds R _=>∃(hs:List Int) (ws:List (Int×Int)),ds=[.lst (hs.map D.int),.lst (ws.map prD)]/\hs.Nodup/\hs.length<=50/\∀r,FR hs ws r->r.length<=60->R (.sh (.lst (r.map D.int)))
def Gc:Pc:=λds R _=>∃(ps ws:List (Int×Int)) (pa:List (List Key×V)) (c:Int->Int->Int),ds=[.lst (ps.map prD),.lst (ws.map prD),.dT pa]/\Field ps/\ps.length<=50/\ws.length<=50/\(∀q∈ws,q.1≠q.2)/\
 (∀x∈Js ps,∀y∈Js ps,valV pa [.inl x,.inl y]=some (.int (c x y)))/\BU (Js ps) ws/\∀kvs,Tab ws c (J6 (Js ps)) kvs->R (.own (.dT kvs))
def HR(C:Addr):Pw:=λo ss R X=>∃(x:Addr) (ps:List (Int×Int)),o=.ins x C [] []/\ss=[.sh (plD ps)]/\ps.length<=1000/\Xm (K4 ps) (X (.ins x C [] [])) (∀b1 b2 b3,R (vO C x b1 b2 b3 [] [ps] [[]]) .non)
def B9(bk:List (Str×List Int))(w:List (Int×Int))(a b:Int):Option Str:=if 100<=bk.length then some "BookFull" else Xp w a b
def Li(C:Addr):Pw:=λo ss R X=>∃(x b1 b2 b3:Addr) (bk:List (Str×List Int)) (fs ws:List (List (Int×Int))) (f w:List (Int×Int)) (p h:Int),o=vO C x b1 b2 b3 bk (fs++[f]) (ws++[w])/\ss=[.sh (.int p),.sh (.int h)]/\bk.length<=1000/\fs.length<=900/\ws.length<=900/\w.length<=1000/\
 Xm (B9 bk w p h) (X (vO C x b1 b2 b3 bk (fs++[f]) (ws++[w]))) (R (vO C x b1 b2 b3 (bk++[(("wish" : Str),[p,h])]) (fs++[f]++[f]) (ws++[w]++[w++[(p,h)]])) (.int (bk.length+1)))
def IB:Pc:=λds R _=>∃(ns m:List Int) (n:Int),ds=[.scr ns,.lst (m.map D.int),.int n]/\Menu m/\0<=n/\n<=1000/\∀ps:List (Int×Int),Field ps->ps.length=n.toNat->R (.own (ps.map prD))
def Lg:Pc:=λds R _=>∃(ns m:List Int),ds=[.scr ns,.lst (m.map D.int)]/\Menu m/\∀ws,UI ws->R (.own (ws.map prD))
def Od:Pc:=λds R X=>∃(ps ws:List (Int×Int)),ds=[.lst (ps.map prD),.lst (ws.map prD)]/\Field ps/\ps.length<=50/\(∀q∈ws,q.1≠q.2)/\K5 (Js ps) ws X (R (.sh .non))
def E4(C:Addr):Pc:=λds R _=>∃(bk:List (Str×List Int)) (fs ws:List (List (Int×Int))) (f w:List (Int×Int)),ds=[vilD C bk (fs++[f]) (ws++[w])]/\Field f/\f.length<=50/\∀r,FR (Js f) w r->r.length<=60->R (.sh (.lst (r.map D.int)))
def LK:Pc:=λds R X=>∃(ps ws:List (Int×Int)),ds=[.lst (ps.map prD),.lst (ws.map prD)]/\Field ps/\ps.length<=50/\ws.length<=50/\(∀q∈ws,q.1≠q.2)/\K5 (Js ps) ws X (∀vs,TabV ws (pcc ps) (J6 (Js ps)) vs->R (.own (vs.map D.int)))
def R3:Pc:=λds R X=>∃(ps ws:List (Int×Int)),ds=[.lst (ps.map prD),.lst (ws.map prD)]/\Field ps/\ps.length<=50/\ws.length<=50/\(∀q∈ws,q.1≠q.2)/\K5 (Js ps) ws X (∀o,Best ws (pcc ps) (Js ps) o->R (.own (o.map D.int)))
def Oq:Pc:=λds R X=>∃(ps ws:List (Int×Int)),ds=[.lst (ps.map prD),.lst (ws.map prD)]/\Field ps/\ps.length<=50/\ws.length<=50/\(∀q∈ws,q.1≠q.2)/\K5 (Js ps) ws X (∀v,Least ws (pcc ps) (Js ps) v->R (.sh (.int v)))
def R7(C:Addr):Pc:=λds R X=>∃(bk:List (Str×List Int)) (fs ws:List (List (Int×Int))) (f w:List (Int×Int)),ds=[vilD C bk (fs++[f]) (ws++[w])]/\Field f/\f.length<=50/\w.length<=50/\(∀q∈w,q.1≠q.2)/\K5 (Js f) w X (∀o,Best w (pcc f) (Js f) o->R (.own (o.map D.int)))
def OQ(C:Addr):Pc:=λds R X=>∃(bk:List (Str×List Int)) (fs ws:List (List (Int×Int))) (f w:List (Int×Int)),ds=[vilD C bk (fs++[f]) (ws++[w])]/\Field f/\f.length<=50/\w.length<=50/\(∀q∈w,q.1≠q.2)/\K5 (Js f) w X (∀v,Least w (pcc f) (Js f) v->R (.sh (.int v)))
def LL(C:Addr):Pc:=λds R _=>∃(bk:List (Str×List Int)) (fs ws:List (List (Int×Int))) (f w:List (Int×Int)) (rs:List Int),ds=[vilD C bk (fs++[f]) (ws++[w]),.lst (rs.map D.int)]/\Field f/\f.length<=50/\w.length<=50/\(∀q∈w,q.1≠q.2)/\FR (Js f) w rs/\rs≠[]/\rs.length<=60/\R (.sh (.bl true))
def En(C:Addr):Pc:=λds R _=>∃(bk:List (Str×List Int)) (fs ws:List (List (Int×Int))) (f w:List (Int×Int)),ds=[vilD C bk (fs++[f]) (ws++[w]),.lst (f.map prD),.lst (w.map prD)]/\Field f/\f.length<=50/\w.length<=50/\(∀q∈w,q.1≠q.2)/\(¬ ∃r,Ring (Js f) w r)/\R (.sh (.bl true))
variable (P:Program) (w:World) (K:Za) (mg:Str->Option Value) (base:Heap)
abbrev Ir:Prop:=Pu.CalleeM P w K mg base CX0 1 (ExcR.ErrI K (ExcR.Jm mg "Ringed")) ["self","members"] (ExcR.Py K)
abbrev Sd:Prop:=Callee P w K mg base (ExcR.CXe P w) 1 "check_holder" ["holder"] (Pu.spOf mg Rc K)
abbrev FT:Prop:=Callee P w K mg base (ExcR.CXe P w) 1 "check_width" ["width"] (Pu.spOf mg LA K)
abbrev P8:Prop:=Callee P w K mg base CX0 1 "holders_of" ["strips"] (Pu.spOf mg Dv K)
abbrev A7:Prop:=Callee P w K mg base CX0 1 "pair_cost" ["strips","ahead","behind"] (Pu.spOf mg RE K)
abbrev Ae:Prop:=Callee P w K mg base CX0 1 "longer_paths" ["paths","left","wishes"] (Pu.spOf mg EC K)
abbrev AF:Prop:=Callee P w K mg base (ExcR.CXe P w) 1 "without_wish" ["wishes","ahead","behind"] (Pu.spOf mg Ek K)
abbrev Fd:Prop:=Callee P w K mg base CX0 1 "sets_of" ["holders"] (Pu.spOf mg Et K)
abbrev TH:Prop:=Callee P w K mg base CX0 1 "without" ["members","holder"] (Pu.spOf mg OU K)
abbrev Dq:Prop:=Callee P w K mg base CX0 1 "may_lie_last" ["members","holder","wishes"] (Pu.spOf mg Ii K)
abbrev A8:Prop:=Callee P w K mg base CX0 1 "may_lie_first" ["members","holder","wishes"] (Pu.spOf mg R5 K)
abbrev Kl:Prop:=Pu.CalleeM P w K mg base CX0 1 (Meth K (ExcR.Jm mg "Village") "strips") ["self"] (Pu.spOf mg (Ol (ExcR.Jm mg "Village")) K)
abbrev XO:Prop:=Pu.CalleeM P w K mg base CX0 1 (Meth K (ExcR.Jm mg "Village") "wishes") ["self"] (Pu.spOf mg (L5 (ExcR.Jm mg "Village")) K)
abbrev Sb:Prop:=Pu.CalleeM P w K mg base (ExcR.CXe P w) 1 (Meth K (ExcR.Jm mg "Village") "check_room") ["self"] (Pu.spOf mg (R6 (ExcR.Jm mg "Village")) K)
abbrev NM:Prop:=Pu.CalleeM P w K mg base CX0 1 (Meth K (ExcR.Jm mg "Village") "enter") ["self","deed","field","wishes"] (Pu.spW mg (HX (ExcR.Jm mg "Village")) K)
abbrev TJ:Prop:=Callee P w K mg base CX0 1 "_law_at" ["_law_script","_law_k"] (Pu.spOf mg Ey K)
abbrev TU:Prop:=Callee P w K mg base CX0 1 "_law_whole" ["_law_found"] (Pu.spOf mg Ma K)
abbrev S9:Prop:=Callee P w K mg base CX0 1 "_law_mix" ["_law_cell","_law_place"] (Pu.spOf mg MV K)
abbrev DO:Prop:=Callee P w K mg base CX0 1 "_law_menu" ["_law_cell"] (Pu.spOf mg EU K)
abbrev BE:Prop:=Callee P w K mg base CX0 1 "_law_holder" ["_law_menu_here","_law_k"] (Pu.spOf mg Hn K)
abbrev Bq:Prop:=Callee P w K mg base CX0 1 "_law_present" ["_law_strips_here"] (Pu.spOf mg EN K)
abbrev BY:Prop:=Callee P w K mg base CX0 1 "_law_price" ["_law_strips_here","_law_order"] (Pu.spOf mg EM K)
abbrev Fg:Prop:=Callee P w K mg base CX0 1 "_law_kept" ["_law_order","_law_wishes_here"] (Pu.spOf mg Iq K)
abbrev Ap:Prop:=Callee P w K mg base CX0 1 "_law_no_ring" ["_law_holders","_law_wishes_here"] (Pu.spOf mg O7 K)
abbrev Ca:Prop:=Callee P w K mg base CX0 1 "_law_with_round" ["_law_wishes_here","_law_holders","_law_cell"] (Pu.spOf mg Ez K)
abbrev Ex:Prop:=Callee P w K mg base CX0 1 "_law_shuffled" ["_law_holders","_law_cell"] (Pu.spOf mg DA K)
abbrev Ah:Prop:=Callee P w K mg base (ExcR.CXe P w) 2 "check_strips" ["strips"] (Pu.spOf mg LH K)
abbrev FJ:Prop:=Callee P w K mg base CX0 2 "ring_from" ["least","holders","wishes"] (Pu.spOf mg M6 K)
abbrev CQ:Prop:=Callee P w K mg base (ExcR.CXe P w) 2 "with_wish" ["wishes","ahead","behind"] (Pu.spOf mg IA K)
abbrev BA:Prop:=Callee P w K mg base CX0 2 "pair_costs" ["strips"] (Pu.spOf mg Lk K)
abbrev Au:Prop:=Callee P w K mg base CX0 2 "cost_with_last" ["members","last","least","pairs"] (Pu.spOf mg GK K)
abbrev Cu:Prop:=Callee P w K mg base CX0 2 "cost_with_first" ["members","first","least","pairs"] (Pu.spOf mg HY K)
abbrev FS:Prop:=Pu.CalleeM P w K mg base (ExcR.CXe P w) 2 (Meth K (ExcR.Jm mg "Village") "drop") ["self","ahead","behind"] (Pu.spW mg (Mq (ExcR.Jm mg "Village")) K)
abbrev To:Prop:=Callee P w K mg base CX0 2 "_law_draw" ["_law_script","_law_k"] (Pu.spOf mg MG K)
abbrev Fc:Prop:=Callee P w K mg base CX0 2 "_law_spare" ["_law_script"] (Pu.spOf mg RM K)
abbrev TZ:Prop:=Callee P w K mg base CX0 2 "_law_row" ["_law_found","_law_due"] (Pu.spOf mg MO K)
abbrev CC:Prop:=Callee P w K mg base CX0 2 "_law_tuples" ["_law_found","_law_due"] (Pu.spOf mg Lu K)
abbrev Ea:Prop:=Callee P w K mg base CX0 2 "_law_is_ring" ["_law_ring","_law_holders","_law_wishes_here"] (Pu.spOf mg Iy K)
abbrev Nu:Prop:=Callee P w K mg base CX0 3 "find_ring" ["holders","wishes"] (Pu.spOf mg Gx K)
abbrev SN:Prop:=Callee P w K mg base CX0 3 "least_costs" ["strips","wishes","pairs"] (Pu.spOf mg Gc K)
abbrev Dy:Prop:=Pu.CalleeM P w K mg base (ExcR.CXe P w) 3 (Mk K (ExcR.Jm mg "Village")) ["self","strips"] (Pu.spW mg (HR (ExcR.Jm mg "Village")) K)
abbrev CD:Prop:=Pu.CalleeM P w K mg base (ExcR.CXe P w) 3 (Meth K (ExcR.Jm mg "Village") "wish") ["self","ahead","behind"] (Pu.spW mg (Li (ExcR.Jm mg "Village")) K)
abbrev Ff:Prop:=Callee P w K mg base CX0 3 "_law_strips" ["_law_script","_law_menu_here","_law_many"] (Pu.spOf mg IB K)
abbrev Fz:Prop:=Callee P w K mg base CX0 3 "_law_wishes" ["_law_script","_law_menu_here"] (Pu.spOf mg Lg K)
abbrev Sy:Prop:=Callee P w K mg base (ExcR.CXe P w) 4 "check_no_ring" ["strips","wishes"] (Pu.spOf mg Od K)
abbrev B8:Prop:=Pu.CalleeM P w K mg base CX0 4 (Meth K (ExcR.Jm mg "Village") "ring") ["self"] (Pu.spOf mg (E4 (ExcR.Jm mg "Village")) K)
abbrev Dk:Prop:=Callee P w K mg base (ExcR.CXe P w) 5 "cost_table" ["strips","wishes"] (Pu.spOf mg LK K)
abbrev BW:Prop:=Callee P w K mg base (ExcR.CXe P w) 5 "best_order" ["strips","wishes"] (Pu.spOf mg R3 K)
abbrev Fk:Prop:=Callee P w K mg base (ExcR.CXe P w) 6 "least_cost" ["strips","wishes"] (Pu.spOf mg Oq K)
abbrev Av:Prop:=Pu.CalleeM P w K mg base (ExcR.CXe P w) 6 (Meth K (ExcR.Jm mg "Village") "order") ["self"] (Pu.spOf mg (R7 (ExcR.Jm mg "Village")) K)
abbrev Nz:Prop:=Pu.CalleeM P w K mg base (ExcR.CXe P w) 7 (Meth K (ExcR.Jm mg "Village") "cost") ["self"] (Pu.spOf mg (OQ (ExcR.Jm mg "Village")) K)
abbrev Ed:Prop:=Callee P w K mg base CX0 8 "_law_refused_with" ["_law_village","_law_ring"] (Pu.spOf mg (LL (ExcR.Jm mg "Village")) K)
abbrev BJ:Prop:=Callee P w K mg base CX0 8 "_law_order_keeps" ["_law_village","_law_strips_here","_law_wishes_here"] (Pu.spOf mg (En (ExcR.Jm mg "Village")) K)
abbrev RZ:Prop:=Callee P w K mg base CX0 9 "law" ["_law_script"] (Pu.spOf mg CP K)
end M
namespace M
open PySem PySem.Spec PyProof.Rows L2 Own Pu
def Pd(ps:List (List Int))(ls:List Int)(i j:Nat)(p:List Int)(h:Int):Prop:=(p∈ps.take i/\h∈ls)\/(ps[i]?=some p/\h∈ls.take j)
structure LGs (ws:List (Int×Int)) (l:Int) (P:List Int->Int->Prop) (ls:List Int) (lg:List (List Int)) (kvs:List (Key×V)):Prop where
 g:LG ws l P lg
 nd:(lg.map (Jq l)).Nodup
 sub:∀h∈lg.map (Jq l),h∈ls
 rc:∀h:Int,(valV kvs (.inl h)).isSome=true↔h∈lg.map (Jq l)
 len:kvs.length<=lg.length
def LGs.len_le {ws:List (Int×Int)}{l:Int}{P:List Int->Int->Prop}{ls:List Int}{lg:List (List Int)}{kvs:List (Key×V)} (L:LGs ws l P ls lg kvs):lg.length<=ls.length:=by
 have:=KZ L.nd L.sub
 rwa[ZV]at this
def LG.congr {ws:List (Int×Int)}{l:Int}{P P':List Int->Int->Prop}{lg:List (List Int)} (h:∀p x,P p x↔P' p x) (G:LG ws l P lg):LG ws l P' lg:=
 ⟨λq hq=>let ⟨p,x,a,b⟩:=G.mem q hq;⟨p,x,(h p x).mp a,b⟩,G.srt,λp x a b=>G.has p x ((h p x).mpr a) b⟩
def LGs.congr {ws:List (Int×Int)}{l:Int}{P P':List Int->Int->Prop}{ls:List Int}{lg:List (List Int)}{kvs:List (Key×V)} (h:∀p x,P p x↔P' p x) (G:LGs ws l P ls lg kvs):LGs ws l P' ls lg kvs:=⟨G.g.congr h,G.nd,G.sub,G.rc,G.len⟩
def LGs.start {ps:List (List Int)}{ls:List Int}{ws:List (Int×Int)}{l:Int}:LGs ws l (Pd ps ls 0 0) ls [] []:=by
 refine⟨⟨(λq hq=>by cases hq),List.Pairwise.nil,λp h a=>?_⟩,Wx,(λh hh=>by cases hh),(λh=>by simp[valV]),Yc _⟩;rcases a with⟨a,_⟩|⟨_,a⟩
 ·rw[Qs]at a;cases a
 ·rw[Qs]at a;cases a
def LGs.skip {ps:List (List Int)}{ls:List Int}{ws:List (Int×Int)}{l:Int}{lg:List (List Int)}{kvs:List (Key×V)}{i j:Nat}{p:List Int}{h:Int} (hp:ps[i]?=some p) (hh:ls[j]?=some h) (hs:ps.Pairwise sl)
  (G:LGs ws l (Pd ps ls i j) ls lg kvs) (no:(valV kvs (.inl h)).isSome=true\/(Jq l p,h)∉ws):LGs ws l (Pd ps ls i (j+1)) ls lg kvs:=by
 obtain⟨hj,ej⟩:=Yk.mp hh;obtain⟨hi,ei⟩:=Yk.mp hp;have tk:∀x,x∈ls.take (j+1)↔x∈ls.take j\/x=h:=λx=>by rw[Yx hj,Yt,ZX,ej]
 refine⟨⟨λq hq=>?_,G.g.srt,λp' x a b=>?_⟩,G.nd,G.sub,G.rc,G.len⟩
 ·obtain⟨p',x,a,b⟩:=G.g.mem q hq;exact⟨p',x,a.imp id λz=>⟨z.1,(tk x).mpr (.inl z.2)⟩,b⟩
 ·rcases a with a|⟨a1,a2⟩
  ·exact G.g.has p' x (.inl a) b
  ·rcases(tk x).mp a2 with a2|rfl
   ·exact G.g.has p' x (.inr ⟨a1,a2⟩) b
   ·rw[hp]at a1;cases a1
    rcases no with no|no
    ·obtain⟨q,hq,e⟩:=Y4.mp ((G.rc x).mp no);obtain⟨p'',x',c1,rfl,c2⟩:=G.g.mem q hq;have ex:x'=x:=by rw[U2]at e;exact e
     subst ex;refine⟨p'',hq,?_⟩;rcases c1 with⟨c1,_⟩|⟨c1,_⟩
     ·obtain⟨m,hm,em'⟩:=Y9.mp c1;rw[Y7]at hm;rw[Wr]at em'
      have:=YN.mp hs m i (by omega) hi (by omega)
      rw[em',ei]at this;exact .inr this
     ·rw[hp]at c1;cases c1
      exact .inl rfl
    ·exact absurd b no
def LGs.put {ps:List (List Int)}{ls:List Int}{ws:List (Int×Int)}{l:Int}{lg:List (List Int)}{kvs:List (Key×V)}{i j:Nat}{p:List Int}{h:Int} (hp:ps[i]?=some p) (hh:ls[j]?=some h) (hs:ps.Pairwise sl) (hl:ls.Pairwise (· < ·))
  (G:LGs ws l (Pd ps ls i j) ls lg kvs) (new:(valV kvs (.inl h)).isSome=false) (hw:(Jq l p,h)∈ws):LGs ws l (Pd ps ls i (j+1)) ls (lg++[p++[h]]) (putK kvs (.inl h) (.bl true)):=by
 obtain⟨hj,ej⟩:=Yk.mp hh;obtain⟨hi,ei⟩:=Yk.mp hp;have tk:∀x,x∈ls.take (j+1)↔x∈ls.take j\/x=h:=λx=>by rw[Yx hj,Yt,ZX,ej]
 have lh:Jq l (p++[h])=h:=by rw[U2];rfl
 have nh:h∉lg.map (Jq l):=λz=>by rw[(G.rc h).mpr z]at new;cases new
 refine⟨⟨λq hq=>?_,?_,λp' x a b=>?_⟩,?_,λx hx=>?_,λx=>?_,?_⟩
 ·rcases Yt.mp hq with hq|hq
  ·obtain⟨p',x,a,b⟩:=G.g.mem q hq;exact⟨p',x,a.imp id λz=>⟨z.1,(tk x).mpr (.inl z.2)⟩,b⟩
  ·rw[ZX.mp hq];exact⟨p,h,.inr ⟨hp,(tk h).mpr (.inr rfl)⟩,rfl,hw⟩
 ·refine Qe.mpr ⟨G.g.srt,by simp,λq hq q' hq'=>?_⟩;rw[ZX.mp hq'];obtain⟨p',x,a,rfl,b⟩:=G.g.mem q hq;rcases a with⟨a,_⟩|⟨a1,a2⟩
  ·obtain⟨m,hm,em'⟩:=Y9.mp a;rw[Y7]at hm;rw[Wr]at em'
   have:=YN.mp hs m i (by omega) hi (by omega)
   rw[em',ei]at this;exact Ny x h this
  ·rw[hp]at a1;cases a1
   obtain⟨m,hm,em'⟩:=Y9.mp a2;rw[Y7]at hm;rw[Wr]at em'
   have:=YN.mp hl m j (by omega) hj (by omega)
   rw[em',ej]at this;exact D6 this
 ·have old:∀p' x,Pd ps ls i j p' x->(Jq l p',x)∈ws->∃p'',p''++[x]∈lg++[p++[h]]/\(p''=p'\/sl p'' p'):=λp' x a b=>let ⟨p'',k1,k2⟩:=G.g.has p' x a b;⟨p'',Wm _ k1,k2⟩;rcases a with a|⟨a1,a2⟩
  ·exact old p' x (.inl a) b
  ·rcases(tk x).mp a2 with a2|rfl
   ·exact old p' x (.inr ⟨a1,a2⟩) b
   ·rw[hp]at a1;cases a1
    exact⟨p,Y0 _ (ZX.mpr rfl),.inl rfl⟩
 ·rw[Yu,Qp,lh];refine YV.mpr ⟨G.nd,by simp,λa ha b hb=>?_⟩;rw[ZX.mp hb];rintro rfl;exact nh ha
 ·rw[Yu,Qp,lh]at hx;rcases Yt.mp hx with hx|hx
  ·exact G.sub x hx
  ·rw[ZX.mp hx,←ej];exact Yr hj
 ·rw[Yu,Qp,lh,Tv,Yt,ZX];by_cases e:x=h
  ·subst e;rw[Ya rfl];exact⟨λ_=>.inr rfl,λ_=>rfl⟩
  ·rw[ZZ (λz=>e (Sum.inl.inj z)),G.rc];exact⟨.inl,λz=>z.elim id λw=>absurd w e⟩
 ·rw[Yl]
  have:=Tp kvs (.inl h) (.bl true)
  have:=G.len
  simp;omega
def JE(hs:List Int)(c:Int):Int:=if 2+c / 2 % 9<(((hs.map D.int).length:Nat):Int)then 2+c / 2 % 9 else(((hs.map D.int).length:Nat):Int)
def Ep(hs:List Int)(c:Int):0<=JE hs c/\JE hs c<=hs.length:=by
 unfold JE;rw[ZV];split<;>omega
def Laid(lw:List (Int×Int)):Prop:=lw.Nodup/\∀q∈lw,(1<=q.1/\q.1<=10/\1<=q.2/\q.2<=10)/\q.1≠q.2
def Laid.put {lw:List (Int×Int)}{q:Int×Int} (h:Laid lw) (hn:¬q∈lw) (hq:(1<=q.1/\q.1<=10/\1<=q.2/\q.2<=10)/\q.1≠q.2):Laid (lw++[q]):=by
 refine⟨YV.mpr ⟨h.1,by simp,λa ha b hb=>?_⟩,λp hp=>?_⟩
 ·rw[ZX.mp hb];rintro rfl;exact hn ha
 ·rcases Yt.mp hp with hp|hp
  ·exact h.2 p hp
  ·rw[ZX.mp hp];exact hq
def MB{ws rs lw:List (Int×Int)}{k:Nat}(hW:UI ws)(hr:rs.Sublist (ws.filter λq=>decide (¬q∈lw)))(hL:Laid lw):UI ((rs.take k++lw++rs.drop k).take 20):=by
 have hmem:∀q∈rs,q∈ws/\¬q∈lw:=λq hq=>by
  have:=Y2.mp (hr.subset hq)
  exact⟨this.1,Yg this.2⟩
 have pm:(rs.take k++lw++rs.drop k).Perm (rs++lw):=by
  have:(rs.take k++lw++rs.drop k).Perm (rs.take k++(rs.drop k++lw)):=by
   rw[WV];exact List.Perm.append_left _ List.perm_append_comm
  rw[←WV,List.take_append_drop]at this;exact this
 have nd:(rs.take k++lw++rs.drop k).Nodup:=by
  rw[pm.nodup_iff];refine YV.mpr ⟨(hW.2.1.filter _).sublist hr,hL.1,λa ha b hb=>?_⟩;rintro rfl;exact(hmem a ha).2 hb
 refine⟨by rw[Y7];omega,nd.sublist (WU _ _),λq hq=>?_⟩;rcases Yt.mp (pm.mem_iff.mp (QL hq))with h|h
 ·exact hW.2.2 q (hmem q h).1
 ·exact hL.2 q h
def Bp{rs:List (Int×Int)}{lo hi:Option Int}(h:rs.length<=20):(cutD (rs.map prD) lo hi).length<=20:=by
 have:=(Pe (rs.map prD) lo hi).length_le
 rw[ZV]at this;omega
def IU(rs lw:List (Int×Int)){n:Int}(h:0<=n):cutD (cutD (rs.map prD) none (some n)++lw.map prD++cutD (rs.map prD) (some n) none) none (some 20)=((rs.take n.toNat++lw++rs.drop n.toNat).take 20).map prD:=by
 rw[Kh,Kh,Nt rs h,Dl rs h,←Yu,←Yu,Kh,Nt _ (by decide)];rfl
def F3{α:Type}{c:α->Bool}:∀{xs:List α}{x:α}{r:List α},xs.filter c=x::r->∃i,∃hi:i<xs.length,xs[i]=x/\c x=true/\∀j (hj:j<xs.length),j<i->c xs[j]=false
 |[],x,r,h=>by cases h
 |y::ys,x,r,h=>by
  by_cases hy:c y=true
  ·rw[List.filter_cons_of_pos hy]at h;cases h
   exact⟨0,by simp,rfl,hy,λj _ hj=>by omega⟩
  ·rw[List.filter_cons_of_neg hy]at h;obtain⟨i,hi,e1,e2,e3⟩:=F3 h;refine⟨i+1,by simp;omega,by simpa using e1,e2,λj hj hji=>?_⟩;cases j with
   |zero=>simpa using hy
   |succ j=>simpa using e3 j (by simpa using hj) (by omega)
def AN(c:Int->Bool):∀ws:List Int,ws.filterMap (λq=>if c q=true then some (D.int q)else none)=(ws.filter c).map D.int:=Uy c D.int
def FRi(hs:List Int)(ws:List (Int×Int))(ns:List Int)(r:List Int):Prop:=
 (r=[]/\∀l∈ns,∀t,¬Uw hs ws l t)\/∃l t,r=l::t/\l∈ns/\Uw hs ws l t/\∀m∈ns,∀u,Uw hs ws m u->t.length<u.length\/(t.length=u.length/\(l<m\/(l=m/\(t=u\/sl t u))))
def FRi.keep {hs:List Int}{ws:List (Int×Int)}{ns r f:List Int}{l:Int} (h:FRi hs ws ns r) (hl:∀m∈ns,m<l) (hf:RF hs ws l f) (c:f=[]\/(r≠[]/\r.length<=f.length)):FRi hs ws (ns++[l]) r:=by
 rcases h with⟨rfl,h⟩|⟨l',t,rfl,h1,h2,h3⟩
 ·rcases c with rfl|⟨c,_⟩
  ·rcases hf with⟨_,hf⟩|⟨t,e,_⟩
   ·refine .inl ⟨rfl,λm hm=>?_⟩;rcases Yt.mp hm with hm|hm
    ·exact h m hm
    ·rw[ZX.mp hm];exact hf
   ·cases e
  ·exact absurd rfl c
 ·refine .inr ⟨l',t,rfl,Wm _ h1,h2,λm hm u hu=>?_⟩;rcases Yt.mp hm with hm|hm
  ·exact h3 m hm u hu
  ·rw[ZX.mp hm]at hu ⊢;rcases hf with⟨rfl,hf⟩|⟨s,rfl,_,hf⟩
   ·exact absurd hu (hf u)
   ·rcases c with c|⟨_,c⟩
    ·cases c
    ·have hl':=hl l' h1;simp at c;rcases hf u hu with z|⟨z,_⟩
     ·exact .inl (by omega)
     ·by_cases e:t.length<u.length
      ·exact .inl e
      ·exact .inr ⟨by omega,.inl hl'⟩
def FRi.take {hs:List Int}{ws:List (Int×Int)}{ns r f:List Int}{l:Int} (h:FRi hs ws ns r) (hl:∀m∈ns,m<l) (hf:RF hs ws l f) (c:f≠[]/\(r=[]\/f.length<r.length)):FRi hs ws (ns++[l]) f:=by
 rcases hf with⟨rfl,_⟩|⟨s,rfl,f1,f2⟩
 ·exact absurd rfl c.1
 ·refine .inr ⟨l,s,rfl,Y0 _ (ZX.mpr rfl),f1,λm hm u hu=>?_⟩;rcases Yt.mp hm with hm|hm
  ·rcases h with⟨rfl,h⟩|⟨l',t,rfl,h1,h2,h3⟩
   ·exact absurd hu (h m hm u)
   ·rcases c.2 with c|c
    ·cases c
    ·simp at c;rcases h3 m hm u hu with z|⟨z,_⟩
     ·exact .inl (by omega)
     ·exact .inl (by omega)
  ·rw[ZX.mp hm]at hu ⊢;rcases f2 u hu with z|⟨z,z2⟩
   ·exact .inl z
   ·exact .inr ⟨z,.inr ⟨rfl,z2⟩⟩
def FRi.all {hs:List Int}{ws:List (Int×Int)}{ns r:List Int} (hp:∀z,z∈ns↔z∈hs) (h:FRi hs ws ns r):FR hs ws r:=by
 rcases h with⟨rfl,h⟩|⟨l,t,rfl,h1,h2,h3⟩
 ·exact .inl ⟨rfl,λl hl=>h l ((hp l).mpr hl)⟩
 ·exact .inr ⟨l,t,rfl,(hp l).mp h1,h2,λm hm=>h3 m ((hp m).mpr hm)⟩
def Oc(γ:List (Option Pu.S)):Nat:=match γ[4]? with
 |some (some (Pu.S.sh (Pu.D.tup ds)))=>ds.length
 |_=>0
def Tn{α:Type}{xs:List α}{x:α}(h:xs[xs.length-1]?=some x):atI xs (-1)=some x:=by
 have hi:=(Yk.mp h).1;unfold atI ixN;rw[ZZ (by omega),Ya (by omega)];show xs[_]?=some x;rw[←h];congr 1;omega
def MH{ws:List (Int×Int)}{o:List Int}(hk:Keeps ws o):∀q∈ws,badM o q=false:=λq hq=>by
 cases hb:badM o q with
 |false=>rfl
 |true=>
  unfold badM at hb;rw[Y5,Y5]at hb;have h1:=Yg hb.1;have h2:=Yg hb.2.1;have h3:=Yg hb.2.2;have g1:=Wn.mpr h1;have g2:=Wn.mpr h2
  have:=YN.mp hk _ _ g2 g1 h3
  rw[WQ g2,WQ g1]at this;exact absurd hq this
def OH{ps:List (Int×Int)}{o ns:List Int}(ho:o.Perm (Js ps))(hp:ns.Perm o)(hs:ns.Pairwise (·<=·)):ns=Js ps:=
 AH (T5 hs ((hp.trans ho).nodup_iff.mpr ((Xc ps).imp λh=>WI h))) (Xc ps) λz=>(hp.trans ho).mem_iff
def wLen(γ:List (Option Pu.S)):Nat:=match γ[6]? with
 |some (some (Pu.S.own (Pu.O.lst ds)))=>ds.length
 |some (some (Pu.S.sh (Pu.D.lst ds)))=>ds.length
 |_=>0
def De{hs:List Int}{w:List (Int×Int)}{r:List Int}(R:Ring hs w r){k:Int}(h0:0<=k)(h1:k<(r.length:Int)):∃x y,atI r (k-1)=some x/\atI r k=some y/\(x,y)∈w:=by
 have h2:=R.two
 have up:∀j:Int,0<=j->j<(r.length:Int)->atI r j=r[j.toNat]?:=λj a b=>by
  unfold atI ixN;rw[Ya a,Ya b];rfl
 have ey:atI r k=some (r[k.toNat]'(by omega)):=by
  rw[up k h0 h1];exact ZU (by omega)
 by_cases z:k=0
 ·subst z
  have ex:atI r (0-1)=some (r[r.length-1]'(by omega)):=by
   unfold atI ixN;rw[ZZ (by omega),Ya (by omega),show((0:Int)-1+(r.length:Int)).toNat=r.length-1 by omega];exact ZU (by omega)
  exact⟨_,_,ex,ey,R.last _ _ (ZU (by omega)) (ZU (by omega))⟩
 ·have ex:atI r (k-1)=some (r[(k-1).toNat]'(by omega)):=by
   rw[up (k-1) (by omega) (by omega)];exact ZU (by omega)
  refine⟨_,_,ex,ey,R.chain (k-1).toNat _ _ (ZU (by omega)) ?_⟩;rw[show(k-1).toNat+1=k.toNat by omega];exact ZU (by omega)
def F8{w:List (Int×Int)}{a b:Int}(h:UI w):UI (Xn w a b):=by
 unfold Xn
 have:=YG (λq:Int×Int=>!decide (q=(a,b))) w
 have h1:=h.1;exact⟨by omega,h.2.1.filter _,λq hq=>h.2.2 q (Y2.mp hq).1⟩
end M
namespace T
open PySem PySem.Spec PyProof.Rows L2 Own M
section
variable {P:Program}{w:World}{K:Za}{mg:Str->Option Value}{base:Heap}
def G1(G:Glob K mg)(D:Pu.DefM K (ExcR.ErrI K (ExcR.Jm mg "Ringed")) "__init__" "Ringed.__init__" ND ["self","members"])
  : Pu.CalleeM P w K mg base CX0 1 (ExcR.ErrI K (ExcR.Jm mg "Ringed")) ["self","members"] (ExcR.Py K):=by
 refine D.ok (k:=0) Mr (λvs H Q E h=>?_) (λf cdv A outer s H vs Q E hr h=>?_)
 ·obtain⟨_,_,_,_,_,rfl,_⟩:=h;rfl
 ·exact⟨_,Jj (ExcR.Gv (pv 0) (UT Sm (by rfl) G.list boot_list (J0 (pv 1) J8)) (by rfl)),ExcR.M0 h rfl⟩
def OE(G:Glob K mg)(D:Def K mg "holders_of" NF ["strips"])
  : Callee P w K mg base CX0 1 "holders_of" ["strips"] (Dw K):=by
 refine D.ok (k:=0) Mb (λvs H Q E h=>?_) (λf cdv A outer s H vs Q E hr h=>?_)
 ·obtain⟨l,ps,rfl,⟨vs,hl,hv⟩,hF,hz,q⟩:=h;rfl
 ·obtain⟨l,ps,rfl,⟨vs,hl,hv⟩,hF,hz,q⟩:=h;refine⟨_,(Jj (Jp (Uc (FI rfl) (by rfl) G.sorted boot_sorted (J0 (UT (E2 rfl) (by rfl) G.set boot_set (J0 (Us (N':=["holder","width"]) (φ:=[none,none]) rfl (Own.CompOk.of (by rfl)) (Ai (pv 0)) (λ_ _ _ _ _=>⟨(XF (K:=K) (n:=2) rfl (U5 (N7 (i:=0) (show(["holder","width"]:List Str).Nodup from by decide +kernel) rfl (by first|exact Or.inl rfl|exact Or.inr rfl)) (U5 (N7 (i:=1) (show(["holder","width"]:List Str).Nodup from by decide +kernel) rfl (by first|exact Or.inl rfl|exact Or.inr rfl)) XB))),US,(pv 0)⟩)) J8)) J8)))),?_⟩
  have e1:=hv.1;refine⟨_,rfl,l,rfl,⟨_,SqL.of hl⟩,λD nD=>Gg (ds:=ps) (λd=>some (V.int d.1)) (SqL.of hl) e1 nD (Yn hz (by decide)) (λi x d H2 hx hd S k hk=>?_) ?_⟩
  ·obtain⟨d',hd',a,rfl,ha⟩:=hv.get hx;rw[hd]at hd';cases hd'
   exact⟨a,_,rfl,SqT.of (S _ _ ha),rfl,_,_,rfl,_,_,rfl,rfl,.skip (.skip .refl),_,rfl,hk⟩
  ·have em:ps.filterMap (λd=>some (V.int d.1))=(ps.map (·.1)).map V.int:=by
    rw[Q4,YL];rfl
   rw[em];have S1:Same H (upd H D (.lst ((ps.map (·.1)).map V.int))):=JP nD;refine⟨D,ps.map (·.1),rfl,SqL.of Jw,by rw[ZV];omega,λs1 n1=>?_⟩;have S2:=Own.Same.new (o:=SetH w s1 ((ps.map (·.1)).foldl SetR.addJ [])) S1 n1;refine⟨s1,_,rfl,?_,.inr Jw,λr ns n2 hp hs=>?_⟩
   ·have:=FA (ps.map (·.1)) []
    rw[ZV]at this;simp at this ⊢;omega
   ·rw[Gi hF hp hs];exact q r _ (S2.free n2) (Own.Same.new S2 n2) Jw
def MW(G:Glob K mg)(D:Def K mg "_law_shuffled" N0 ["_law_holders","_law_cell"])
  : Callee P w K mg base CX0 1 "_law_shuffled" ["_law_holders","_law_cell"] (BF K):=by
 refine D.ok (k:=0) Pq (λvs H Q E h=>?_) (λf cdv A outer s H vs Q E hr h=>?_)
 ·obtain⟨l,hs,c,rfl,hl,hz,q⟩:=h;rfl
 ·obtain⟨l,hs,c,rfl,hl,hz,q⟩:=h
  refine⟨_,(Jg (Pu.pz 2 Pq.nd (UT Sm (by rfl) G.list boot_list (J0 (pv 0) J8)))
   (Jg (Pu.pz 3 Pq.nd (JD J8))
   (Jg (Pu.pz 4 Pq.nd (pv 1))
   (Jg (PP Yw (J2 (Fh hr.units0) (pv 2) (JD J8) (JN _))
   (Jg (Ub (UP Y6 YI YJ UU (pv 3) (J0 (Nm Bx (pv 2) (Jl JJ (pv 4) (Uc NW (by rfl) G.len PySem.boot_len (J0 (pv 2) J8))) (λ_ _=>rfl)) J8)))
   (Jg (Pu.pz 4 Pq.nd (Jl Ul (pv 4) (Uc NW (by rfl) G.len PySem.boot_len (J0 (pv 2) J8))))
   (Jj (Ub (UP Y6 PySem.F.slot_list_remove PySem.F.type_list_remove MR (pv 2) (J0 (Nm Bx (pv 3) (Xz X3 Jf) (λ_ _=>rfl)) J8)))))))
   (Jj (Jp (pv 3))))))),?_⟩
  refine⟨_,rfl,_,_,rfl,.inl hl,λL nL=>⟨by decide,λO nO=>⟨_,rfl,?_⟩⟩⟩;have S1:=JP (o:=.lst (hs.map V.int)) nL;have S2:=Own.Same.new (o:=.lst []) S1 nO;have nLO:L≠O:=λz=>by rw[←z,Jw]at nO;cases nO
  have nO0:=S1.free nO;refine⟨λm σ H2=>∃(xs os:List Int) (c':Int),m=xs.length/\σ=[some (.ref l),some (.int c),some (.ref L),some (.ref O),some (.int c')]/\H2 L=some (.lst (xs.map V.int))/\H2 O=some (.lst (os.map V.int))/\(os++xs).Perm hs/\Same H H2,⟨hs.length,hs,[],c,rfl,rfl,by rw[Jn nLO,Jw],Jw,List.Perm.refl _,S2⟩,?_⟩;rintro m σ H2 ⟨xs,os,c',rfl,rfl,hL,hO,hp,S⟩;refine⟨_,rfl,by decide,λe ne=>⟨L,e,_,_,rfl,rfl,SqL.of (by rw[Jn (JO hL ne)];exact hL),SqL.of Jw,Xg xs,Xg [],_,rfl,?_⟩⟩;show if (!eqL (xs.map V.int) (([]:List Int).map V.int))=true then _ else _;rw[PK];have S3:=Own.Same.new (o:=.lst []) S ne;have hL3:(upd H2 e (.lst [])) L=some (.lst (xs.map V.int)):=by rw[Jn (JO hL ne)];exact hL
  have hO3:(upd H2 e (.lst [])) O=some (.lst (os.map V.int)):=by rw[Jn (JO hO ne)];exact hO
  generalize upd H2 e (.lst [])=H3 at S3 hL3 hO3;have hlen:=hp.length_eq;rw[Yl]at hlen;by_cases hx:xs=[]
  ·rw[Yb hx];subst hx;refine iteF ⟨_,rfl,q O H3 os nO0 S3 hO3 ?_⟩;simpa using hp
  ·rw[Ym hx];have hpos:0<xs.length:=QR.mpr hx;refine iteT ⟨λσ' H'=>∃m',m'<xs.length/\∃(xs' os':List Int) (c':Int),m'=xs'.length/\σ'=[some (.ref l),some (.int c),some (.ref L),some (.ref O),some (.int c')]/\H' L=some (.lst (xs'.map V.int))/\H' O=some (.lst (os'.map V.int))/\(os'++xs').Perm hs/\Same H H',λσ' H' z=>z,?_⟩;have hi1:=Wg c' (show(xs.length:Int)≠0 by omega);have hi2:=Wd c' (show(0:Int)<xs.length by omega);have hk:(c' % (xs.length:Int)).toNat<xs.length:=by omega
   have ai:atI (xs.map V.int) (c' % (xs.length:Int))=some (.int xs[(c' % (xs.length:Int)).toNat]):=Uv (T1 hi1 (ZU hk));generalize hz0:xs[(c' % (xs.length:Int)).toNat]=z at ai;have hzx:z∈xs:=by rw[←hz0];exact Yr hk
   refine⟨_,rfl,.inl ⟨rfl,_,SqL.of hO3⟩,_,rfl,_,rfl,_,rfl,_,_,rfl,.inl ⟨_,SqL.of hL3,rfl⟩,_,_,rfl,rfl,(by show(0:Int)<_;rw[ZV];omega),.inl ⟨L,xs.map V.int,c' % ((xs.map V.int).length:Int),.int z,rfl,rfl,SqL.of hL3,by rw[ZV];exact ai,O,_,_,rfl,rfl,hO3,DJ (by rw[ZV];omega),?_⟩⟩;have hO4:(upd H3 O (.lst (os.map V.int++[.int z]))) O=some (.lst ((os++[z]).map V.int)):=by rw[Jw,Yu];rfl
   have hL4:(upd H3 O (.lst (os.map V.int++[.int z]))) L=some (.lst (xs.map V.int)):=by rw[Jn nLO];exact hL3
   have S4:Same H (upd H3 O (.lst (os.map V.int++[.int z]))):=λb o e'=>by rw[Jn (JO e' nO0)];exact S3 b o e'
   generalize upd H3 O (.lst (os.map V.int++[.int z]))=H4 at S4 hL4 hO4;refine⟨_,rfl,_,rfl,_,_,rfl,.inl ⟨_,SqL.of hL4,rfl⟩,_,_,rfl,rfl,⟨by rw[ZV];omega,by rw[ZV];omega⟩,?_⟩;have al:atI ((os++[z]).map V.int) (-1)=some (.int z):=by rw[Yu];exact O0 _ _
   refine⟨_,rfl,.inl ⟨rfl,_,SqL.of hL4⟩,_,rfl,_,rfl,.inl ⟨O,_,_,_,rfl,rfl,SqL.of hO4,al,L,xs,z,rfl,rfl,hL4,hzx,?_⟩⟩;have hj:xs.idxOf z<xs.length:=Wn.mpr hzx;have e1:(xs.eraseIdx (xs.idxOf z)).length<xs.length:=by rw[Qg hj];omega
   refine⟨_,e1,xs.eraseIdx (xs.idxOf z),os++[z],_,rfl,rfl,Jw,by rw[Jn nLO.symm];exact hO4,?_,λb o e'=>by rw[Jn (JO e' nL)];exact S4 b o e'⟩;have pe:=SetR.Nb xs (xs.idxOf z) hj;have ez:xs[xs.idxOf z]=z:=WQ hj;rw[ez]at pe;rw[WV];exact(pe.append_left os).trans hp
end
open Pu
section
variable {P:Program}{w:World}{K:Za}{mg:Str->Option Value}{base:Heap}
def IF(G:Glob K mg)(DD:Def K mg "check_holder" Bg ["holder"])
  : Sd P w K mg base:=by
 refine DD.ox (k:=0) RX (λ_ _ _ _ _ _ E hr=>⟨_,(Jj (J4 (PW.pt (U0 (J2 Kn (pv 0) Jf (JN _)) (U9 (J2 Xj (pv 0) (ExcR.UW G.HOLDERS) (JN _))))) (Jj (ExcR.Xv G.g_BadHolder.c G.m_BadHolder ExcR.X0 rfl (az (ExcR.pe_f (ExcR.X8 (ExcR.KS (ExcR.UW G.HOLDERS) ExcR.KU))))))
   JA)), (J9 (U3 (Jv (Kq (Jd 0) Je)) (Jv (Xs (Jd 0) Je))) (X7 (sz (se_f (Xu (Pz Je KE))))) J7)⟩) (.a λds R X h=>?_)
 ·obtain⟨h,rfl,hR⟩:=h;refine⟨rfl,?_⟩;unfold Pf at hR;refine ite2 (λg=>iteT ?_) (λg=>?_)
  ·rw[ZZ (by have:=Yg g;omega)]at hR;exact⟨by decide,by decide,by decide,by decide,by simp,hR⟩
  ·have g':¬h<1:=λz=>g (Yb z);refine ite2 (λg2=>?_) (λg2=>?_)
   ·rw[ZZ (by have:=Yg g2;omega)]at hR;exact⟨by decide,by decide,by decide,by decide,by simp,hR⟩
   ·have g2':¬10<h:=λz=>g2 (Yb z);rw[Ya (by omega)]at hR;exact hR
def Rz(G:Glob K mg)(DD:Def K mg "check_width" NP ["width"])
  : FT P w K mg base:=by
 refine DD.ox (k:=0) HK (λ_ _ _ _ _ _ E hr=>⟨_,(Jj (J4 (PW.pt (U0 (J2 Kn (pv 0) Jf (JN _)) (U9 (J2 Xj (pv 0) (ExcR.UW G.WIDEST) (JN _))))) (Jj (ExcR.Xv G.g_BadWidth.c G.m_BadWidth ExcR.X0 rfl (az (ExcR.pe_f (ExcR.X8 (ExcR.KS (ExcR.UW G.WIDEST) ExcR.KU))))))
   JA)), (J9 (U3 (Jv (Kq (Jd 0) Je)) (Jv (Xs (Jd 0) Je))) (X7 (sz (se_f (Xu (Pz Je KE))))) J7)⟩) (.a λds R X h=>?_)
 ·obtain⟨h,rfl,hR⟩:=h;refine⟨rfl,?_⟩;unfold NU at hR;refine ite2 (λg=>iteT ?_) (λg=>?_)
  ·rw[ZZ (by have:=Yg g;omega)]at hR;exact⟨by decide,by decide,by decide,by decide,by simp,hR⟩
  ·have g':¬h<1:=λz=>g (Yb z);refine ite2 (λg2=>?_) (λg2=>?_)
   ·rw[ZZ (by have:=Yg g2;omega)]at hR;exact⟨by decide,by decide,by decide,by decide,by simp,hR⟩
   ·have g2':¬1000<h:=λz=>g2 (Yb z);rw[Ya (by omega)]at hR;exact hR
def Zae(G:Glob K mg)(DD:Def K mg "pair_cost" Sx ["strips","ahead","behind"])
  : A7 P w K mg base:=by
 refine DD.oz (k:=0) XI (λ_ _ _ _ _ _ E hr=>⟨_,(Jg (Pu.pz 3 XI.nd Jf) (Jg (Pu.pz 4 XI.nd Jf) (Jg (JZ Yw rfl (JG (K:=K) (pv 0)) (XF (K:=K) (n:=2) rfl (U5 (gz 5 XI.nd) (U5 (gz 6 XI.nd) XB))) (Jj (J4 (cq K hr (pv 5) (pv 2)) (Jj (F4 (i:=3) XI.nd rfl (by first|exact Or.inl rfl|exact Or.inr rfl) (pv 6) DL)) (Jj (J4 (cq K hr (pv 5) (pv 1)) (Jj (F4 (i:=4) XI.nd rfl (by first|exact Or.inl rfl|exact Or.inr rfl) (Jl XC (pv 3) (pv 6)) DL))
   JA))))) (Jj (Jp (pv 4)))))), (Ji (Jo Je (Jh 3)) (Ji (Jo Je (Jh 4)) (Ji (Jz 0 (JY [5,6] (UF (Jd 0)) (KA (UK (Jh 5) (UK (Jh 6) Kk))) (J9 (Jv (Xr (Jd 5) (Jd 2))) (Df (Jd 6)) (J9 (Jv (Xr (Jd 5) (Jd 1))) (Df (XU (Jd 3) (Jd 6))) J7)))) (UR 4))))⟩) (.a λds R X h=>?_)
 ·obtain⟨ps,x,y,rfl,hF,hR⟩:=h;refine⟨rfl,?_⟩;refine⟨rfl,UO (xs:=ps) (emb:=prD) (λi γ'=>γ'=[some (.bor (.lst (ps.map prD))),some (.sh (.int x)),some (.sh (.int y)),some (.sh (.int (tpM ps y i))),some (.sh (.int (pcM ps x y i))),none,none]) rfl ?_ ?_⟩
  ·rintro i hi γ' rfl;have hp:ps.getD i (0,0)=ps[i]:=by rw[Yp,ZU hi];rfl
   have hw:=hF _ (Yr hi);have e1:tpM ps y (i+1)=tpM ps y i+(if ps[i].1=y then ps[i].2 else 0):=by simp only[tpM];rw[hp]
   have e2:pcM ps x y (i+1)=pcM ps x y i+(if x≠y/\ps[i].1=x then tpM ps y i*ps[i].2 else 0):=by simp only[pcM];rw[hp]
   rw[e1,e2];generalize ps[i]=p at hw;refine⟨rfl,ite2 (λg=>?_) (λg=>ite2 (λg2=>?_) (λg2=>?_))⟩
   ·have e:p.1=y:=Yg g;rw[Ya e,ZZ (by rintro⟨z1,z2⟩;exact z1 (z2.symm.trans e)),Qq];rfl
   ·have e:¬p.1=y:=λz=>g (Yb z);have e':p.1=x:=Yg g2;rw[ZZ e,Ya ⟨λz=>e (e'.trans z),e'⟩,Qq];exact⟨.inr ⟨by show -(2 ^ 64)<p.2;omega,by show p.2<2 ^ 64;omega⟩,rfl⟩
   ·have e:¬p.1=y:=λz=>g (Yb z);have e':¬p.1=x:=λz=>g2 (Yb z);rw[ZZ e,ZZ (by rintro⟨z1,z2⟩;exact e' z2),Qq,Qq];rfl
  ·rintro γ' rfl;exact hR
def GL(G:Glob K mg)(DD:Def K mg "longer_paths" Np ["paths","left","wishes"])
  : Ae P w K mg base:=by
 refine DD.oz (k:=0) KH (λ_ _ _ _ _ _ E hr=>⟨_,(Jg (Pu.pz 3 KH.nd (JD J8)) (Jg (Pu.pz 4 KH.nd GQ) (Jg (JZ Yw rfl (JG (K:=K) (pv 0)) (gz 5 KH.nd) (Jj (JZ Yw rfl (JG (K:=K) (pv 1)) (gz 6 KH.nd) (Jj (J4 (PW.pt (XT (Rh (E5 (JH hr) (pv 6) (pv 4))) (Ky (J2 (UG (K:=K) (show _<cLine from JH hr)) (Ug (bz (jx K (pv 5) (Xz X3 Jf)) (pv 6))) (pv 2) (by with_unfolding_all rfl))))) (Jg (B6 (JH hr) (pv 4) (pv 6) Uk rfl) (Jj (Ub (UP Y6 YI YJ UU (pv 3) (az (Jl Pr (pv 5) (JD (az (pv 6)))))))))
   JA))))) (Jj (Jp (pv 3)))))), (Ji (Jo (JI J1) (Jh 3)) (Ji (Jo R4 (Jh 4)) (Ji (Jz 1 (Jz 0 (JY [5,6] (UF (Jd 0)) (Jh 5) (Jz 1 (JY [6] (UF (Jd 1)) (Jh 6) (J9 (Kd (st_b (RU (Jd 6) (Jd 4))) (Jv (Ud (Ue (tz (Jt (Jd 5) (Kf Je)) (Jd 6))) (Jd 2)))) (Ji (Sr 4 (Jd 6) Uj) (Jz 6 (P0 3 (P2 (Jd 5) (JI (sz (Jd 6))))))) J7)))))) (UR 3))))⟩) (.a λds R X h=>?_)
 ·obtain⟨l,ps,ls,ws,rfl,hs,hl,hpl,hll,hR⟩:=h;refine⟨rfl,?_⟩
  refine⟨by simp,rfl,UO (xs:=ps) (emb:=em l) (λi γ'=>∃lg kvs,γ'=[some (.bor (.lst (ps.map (em l)))),some (.bor (.lst (ls.map D.int))),some (.bor (.lst (ws.map prD))),some (.own (lg.map (em l))),some (.own (.dK kvs)),none,none]/\LGs ws l (Pd ps ls i 0) ls lg kvs)
   ⟨[],[],rfl,LGs.start⟩ ?_ ?_⟩
  ·rintro i hi γ' ⟨lg,kvs,rfl,G⟩;have hp:ps[i]?=some ps[i]:=ZU hi;have hpi:=hpl ps[i] (Yr hi);generalize ps[i]=p at hp hpi ⊢;refine⟨rfl,UO (xs:=ls) (emb:=D.int) (λj γ'=>∃lg kvs,γ'=[some (.bor (.lst (ps.map (em l)))),some (.bor (.lst (ls.map D.int))),some (.bor (.lst (ws.map prD))),some (.own (lg.map (em l))),some (.own (.dK kvs)),some (.bor (em l p)),none]/\LGs ws l (Pd ps ls i j) ls lg kvs) ⟨lg,kvs,rfl,G⟩ ?_ ?_⟩
   ·rintro j hj γ' ⟨lg,kvs,rfl,G⟩;have hh:ls[j]?=some ls[j]:=ZU hj;generalize ls[j]=h at hh ⊢;have hlen:=G.len_le;have hkl:=G.len;refine⟨.inl h,rfl,ite2 (λg=>?_) (λg=>?_)⟩
    ·have g':(valV kvs (.inl h)).isSome=false:=by
      cases e:(valV kvs (.inl h)).isSome with
      |false=>rfl
      |true=>rw[e]at g;cases g
     refine⟨_,NI l p,by simp,_,.lp (Jq l p,h) ws,ite2 (λg2=>?_) (λg2=>?_)⟩
     ·refine⟨.inl h,.bl true,rfl,rfl,by omega,by simp,KN _,rfl,by simp;omega,by rw[ZV];omega,lg++[p++[h]],_,?_,G.put hp hh hs hl g' (Yg g2)⟩;rw[Yu]
      have e:em l (p++[h])=.lst ((l::p).map D.int++[.int h]):=by
       unfold em;rw[←Wi,Yu];rfl
      rw[Qp,e];rfl
     ·exact⟨lg,kvs,rfl,G.skip hp hh hs (.inr λz=>g2 (Yb z))⟩
    ·have g':(valV kvs (.inl h)).isSome=true:=by
      cases e:(valV kvs (.inl h)).isSome with
      |true=>rfl
      |false=>rw[e]at g;exact absurd rfl g
     exact iteF ⟨lg,kvs,rfl,G.skip hp hh hs (.inl g')⟩
   ·rintro γ' ⟨lg,kvs,rfl,G⟩;refine⟨lg,kvs,rfl,G.congr λp' x=>?_⟩;unfold Pd;rw[YX,Qs];obtain⟨hi',ei⟩:=Yk.mp hp;rw[Yx hi,Yt,ZX,hp,ei];constructor
    ·rintro(⟨a,b⟩|⟨a,b⟩)
     ·exact .inl ⟨.inl a,b⟩
     ·exact .inl ⟨.inr (Yf a).symm,b⟩
    ·rintro(⟨a|a,b⟩|⟨_,a⟩)
     ·exact .inl ⟨a,b⟩
     ·exact .inr ⟨YD some a.symm,b⟩
     ·cases a
  ·rintro γ' ⟨lg,kvs,rfl,G⟩;refine hR lg (G.g.congr λp' x=>?_) G.len_le;unfold Pd;rw[YX,Qs];exact⟨(λz=>z.elim id λw=>by cases w.2),.inl⟩
def HZ(G:Glob K mg)(DD:Def K mg "without_wish" Sl ["wishes","ahead","behind"])
  : AF P w K mg base:=by
 refine DD.ox (k:=0) HV (λ_ _ _ _ _ _ E hr=>⟨_,(Jg (J4 (J2 (XY (K:=K) (show _<cLine from JH hr)) (Ug (bz (pv 1) (pv 2))) (pv 0) (by with_unfolding_all rfl)) (Jj (ExcR.Xv G.g_NoWish.c G.m_NoWish ExcR.X0 rfl (az Pk)))
   JA) (Jj (Jp (Us (N':=["wish","ahead","behind"]) (φ:=[none,some 1,some 2]) rfl (Own.CompOk.of (by rfl)) (JG (K:=K) (pv 0)) (λ_ _ _ _ _=>⟨(gz 0 (show(["wish","ahead","behind"]:List Str).Nodup from by decide +kernel)),(UD (J2 (Dp (K:=K) (show _<cLine from hr.units0)) (pv 0) (Ug (bz (pv 1) (pv 2))) (JN _))),(pv 0)⟩))))), (Ji (J9 (Jv (Ud (Ue (tz (Jd 1) (Jd 2))) (Jd 0))) (X7 (sz KP)) J7) (Jz 2 (Jz 1 (Jx (JX (Uo (Jd 0)) (Jh 0) (Jv (Aw (Jd 0) (Ue (tz (Jd 1) (Jd 2))))) (Jd 0))))))⟩) (.a λds R X h=>?_)
 ·obtain⟨ws,a,b,rfl,hz,hR⟩:=h;refine⟨rfl,?_⟩;unfold Kw at hR;refine⟨by simp,_,.lp (a,b) ws,ite2 (λg=>?_) (λg=>?_)⟩
  ·have g':¬(a,b)∈ws:=λz=>by rw[Ya rfl,Yb z]at g;cases g
   rw[ZZ g']at hR;exact⟨by simp,hR⟩
  ·have g':(a,b)∈ws:=YC λz=>g (by rw[Ya rfl,Ym z];rfl);rw[Ya g']at hR;refine JW (xs:=ws) (emb:=prD) (λq=>if (!decide (q=(a,b)))=true then some (prD q)else none) (by omega) (λq hq=>?_) ?_
   ·refine⟨by simp,?_⟩;show fNeT (.sh (prD q)) (.sh (prD (a,b))) _;refine BC ?_;exact ite2 (λh=>⟨_,rfl,Ya h⟩) (λh=>ZZ h)
   ·rw[Uy (λq:Int×Int=>!decide (q=(a,b)))];exact hR
def E1(G:Glob K mg)(DD:Def K mg "sets_of" SE ["holders"])
  : Fd P w K mg base:=by
 refine DD.oz (k:=0) T6 (λ_ _ _ _ _ _ E hr=>⟨_,(Jg (Pu.pz 1 T6.nd (JD (az (Ug J8)))) (Jg (JZ Yw rfl (JG (K:=K) (pv 0)) (gz 2 T6.nd) (Jj (Pu.pz 1 T6.nd (Jl Pr (pv 1) (Us (N':=["members","holder"]) (φ:=[none,some 2]) rfl (Own.CompOk.of (by rfl)) (JG (K:=K) (pv 1)) (λ_ _ _ _ _=>⟨(gz 0 (show(["members","holder"]:List Str).Nodup from by decide +kernel)),US,(Jl (GJ (K:=K)) (pv 0) (Ug (az (pv 1))))⟩)))))) (Jj (Jp (pv 1))))), (Ji (Jo (JI (sz (Ue J1))) (Jh 1)) (Ji (Jz 0 (JY [2] (UF (Jd 0)) (Jh 2) (Jz 2 (Jo (P2 (Jd 1) (JX (Uo (Jd 1)) (Jh 0) Xe (EL (Jd 0) (Ue (sz (Jd 1)))))) (Jh 1))))) (UR 1)))⟩) (.a λds R X h=>?_)
 ·obtain⟨hs,rfl,hz,hR⟩:=h;refine⟨rfl,?_⟩;refine⟨by simp,by simp,rfl,UO (xs:=hs) (emb:=D.int) (λi γ'=>γ'=[some (.bor (.lst (hs.map D.int))),some (.own ((J6 (hs.take i)).map tD)),none]) rfl ?_ ?_⟩
  ·rintro i hi γ' rfl
   have hlen:(J6 (hs.take i)).length<=1024:=by
    rw[Fm,Y7];exact Nat.pow_le_pow_right (j:=10) (by decide) (by omega)
   have hel:∀ms∈J6 (hs.take i),ms.length<=10:=λms hm=>by
    have:=(Pa _ ms hm).length_le
    rw[Y7]at this;omega
   rw[Yx hi,XA];generalize J6 (hs.take i)=S at hlen hel ⊢;generalize hs[i]=h;refine JW (xs:=S) (emb:=tD) (λms=>some (tD (ms++[h]))) (by omega) (λms hm=>?_) ?_
   ·refine⟨by simp,_,_,Mf ms,rfl,?_,_,rfl,?_⟩
    ·have:=hel ms hm
     rw[ZV];show ms.length+1<=100000;omega
    ·unfold tD;rw[Yu];rfl
   ·rw[mapD];refine⟨rfl,rfl,?_,?_⟩
    ·rw[ZV,ZV];omega
    ·show[_,_,_]=[_,_,_];rw[Yu,YL];rfl
  ·rintro γ' rfl;rw[YX];exact hR
def EX(G:Glob K mg)(DD:Def K mg "without" BD ["members","holder"])
  : TH P w K mg base:=by
 refine DD.oz (k:=0) Hk (λ_ _ _ _ _ _ E hr=>⟨_,(Jj (Jp (UT (BI (K:=K)) (by rfl) G.tuple boot_tuple (az (Us (N':=["member","holder"]) (φ:=[none,some 1]) rfl (Own.CompOk.of (by rfl)) (P6 (K:=K) (pv 0)) (λ_ _ _ _ _=>⟨(gz 0 (show(["member","holder"]:List Str).Nodup from by decide +kernel)),(UD (cn K hr (pv 0) (pv 1))),(pv 0)⟩)))))), (Jx (Aj (sz (JX (SndI.c (KY (Jd 0))) (Jh 0) (Jv (Km (Jd 0) (Jd 1))) (Jd 0)))))⟩) (.a λds R X h=>?_)
 ·obtain⟨ms,h,rfl,hz,hR⟩:=h;refine⟨rfl,?_⟩;rw[Pb];refine⟨_,rfl,JW (s:=.sh .non) (xs:=ms) (emb:=D.int) (λm=>if decide (m≠h)=true then some (.int m)else none) (by omega) (λm hm=>?_) ?_⟩
  ·show if (!decide (m=h))=true then _ else _;by_cases e:m=h
   ·rw[Yb e];exact iteF (by simp[e])
   ·rw[Ym e];exact iteT ⟨_,rfl,Ya (Yb e)⟩
  ·rw[Uy (λm=>decide (m≠h))];exact⟨rfl,hR⟩
def Ho(G:Glob K mg)(DD:Def K mg "may_lie_last" SR ["members","holder","wishes"])
  : Dq P w K mg base:=by
 refine DD.oz (k:=0) MZ (λ_ _ _ _ _ _ E hr=>⟨_,(Jj (Jp (Ng (Uc (Cy (K:=K) rfl) (by rfl) G.any boot_any (az (Us (N':=["ahead","behind","holder","members"]) (φ:=[none,none,some 1,some 0]) rfl (Own.CompOk.of (by rfl)) (JG (K:=K) (pv 2)) (λ_ _ _ _ _=>⟨(XF (K:=K) (n:=2) rfl (U5 (gz 0 (show(["ahead","behind","holder","members"]:List Str).Nodup from by decide +kernel)) (U5 (gz 1 (show(["ahead","behind","holder","members"]:List Str).Nodup from by decide +kernel)) XB))),US,(Nd (K0 (SS (K:=K) (show _<cLine from hr.units0)) (pv 0) (pv 2) (JN _)) (Sa (K0 (UG (K:=K) (show _<cLine from JH hr)) (pv 1) (pv 3) (by with_unfolding_all rfl))))⟩))))))), (Jx (Nf (A6 (sz (JX (Uo (Jd 2)) (KA (UK (Jh 0) (UK (Jh 1) Kk))) Xe (NJ (Xr (Jd 0) (Jd 2)) (Ud (Jd 1) (Jd 3))))))))⟩) (.a λds R X h=>?_)
 ·obtain⟨ms,h,ws,rfl,hz,hR⟩:=h;refine⟨rfl,?_⟩;rw[Pb];refine JW (xs:=ws) (emb:=prD) (λq=>some (.bl (decide (q.1=h)&&decide (q.2∈ms)))) (by omega) (λq hq=>?_) ?_
  ·refine⟨rfl,?_⟩;show if true=true then(if decide (q.1=h)=true then _ else _)else(some (D.bl (decide (q.1=h)&&decide (q.2∈ms)))=none);refine iteT (ite2 (λg=>⟨_,.ti _ _,?_⟩) (λg=>?_))
   ·refine⟨_,rfl,?_⟩;rw[g,WM];rfl
   ·refine⟨_,rfl,?_⟩;rw[Wq.mpr g,WE]
  ·rw[mapD];refine⟨ws.map λq=>decide (q.1=h)&&decide (q.2∈ms),by rw[YL];rfl,?_⟩;rw[List.any_map];exact hR
def L8(G:Glob K mg)(DD:Def K mg "may_lie_first" SO ["members","holder","wishes"])
  : A8 P w K mg base:=by
 refine DD.oz (k:=0) GN (λ_ _ _ _ _ _ E hr=>⟨_,(Jj (Jp (Ng (Uc (Cy (K:=K) rfl) (by rfl) G.any boot_any (az (Us (N':=["ahead","behind","holder","members"]) (φ:=[none,none,some 1,some 0]) rfl (Own.CompOk.of (by rfl)) (JG (K:=K) (pv 2)) (λ_ _ _ _ _=>⟨(XF (K:=K) (n:=2) rfl (U5 (gz 0 (show(["ahead","behind","holder","members"]:List Str).Nodup from by decide +kernel)) (U5 (gz 1 (show(["ahead","behind","holder","members"]:List Str).Nodup from by decide +kernel)) XB))),US,(Nd (K0 (SS (K:=K) (show _<cLine from hr.units0)) (pv 1) (pv 2) (JN _)) (Sa (K0 (UG (K:=K) (show _<cLine from JH hr)) (pv 0) (pv 3) (by with_unfolding_all rfl))))⟩))))))), (Jx (Nf (A6 (sz (JX (Uo (Jd 2)) (KA (UK (Jh 0) (UK (Jh 1) Kk))) Xe (NJ (Xr (Jd 1) (Jd 2)) (Ud (Jd 0) (Jd 3))))))))⟩) (.a λds R X h=>?_)
 ·obtain⟨ms,h,ws,rfl,hz,hR⟩:=h;refine⟨rfl,?_⟩;rw[Pb];refine JW (xs:=ws) (emb:=prD) (λq=>some (.bl (decide (q.2=h)&&decide (q.1∈ms)))) (by omega) (λq hq=>?_) ?_
  ·refine⟨rfl,?_⟩;show if true=true then(if decide (q.2=h)=true then _ else _)else(some (D.bl (decide (q.2=h)&&decide (q.1∈ms)))=none);refine iteT (ite2 (λg=>⟨_,.ti _ _,?_⟩) (λg=>?_))
   ·refine⟨_,rfl,?_⟩;rw[g,WM];rfl
   ·refine⟨_,rfl,?_⟩;rw[Wq.mpr g,WE]
  ·rw[mapD];refine⟨ws.map λq=>decide (q.2=h)&&decide (q.1∈ms),by rw[YL];rfl,?_⟩;rw[List.any_map];exact hR
def Gq(G:Glob K mg)(DD:Pu.DefM K (Meth K (ExcR.Jm mg "Village") "strips") "strips" "Village.strips" NZ ["self"])
  : Kl P w K mg base:=by
 refine DD.oz (k:=0) IR (λ_ _ _ _ _ _ E hr=>⟨_,(Jj (Jp (UT (Ph (K:=K)) (by rfl) G.list boot_list (az (jx K (XW (pv 0) rfl) (Xz X3 Jf)))))), (Jx (Pg (sz (Jt (TK 1 G.cl_Village G.n_Village_fields A0 (Jd 0)) (Kf Je)))))⟩) (.a λds R X h=>?_)
 ·obtain⟨bk,fs,ws,f,rfl,hR⟩:=h;refine⟨rfl,?_⟩;exact⟨rfl,rfl,_,rfl,_,Tn plD fs f,Te _,hR⟩
def Re(G:Glob K mg)(DD:Pu.DefM K (Meth K (ExcR.Jm mg "Village") "wishes") "wishes" "Village.wishes" Nk ["self"])
  : XO P w K mg base:=by
 refine DD.oz (k:=0) Hj (λ_ _ _ _ _ _ E hr=>⟨_,(Jj (Jp (UT (Ph (K:=K)) (by rfl) G.list boot_list (az (jx K (XW (pv 0) rfl) (Xz X3 Jf)))))), (Jx (Pg (sz (Jt (TK 2 G.cl_Village G.n_Village_wished Dt (Jd 0)) (Kf Je)))))⟩) (.a λds R X h=>?_)
 ·obtain⟨bk,fs,ws,f,rfl,hR⟩:=h;refine⟨rfl,?_⟩;exact⟨rfl,rfl,_,rfl,_,Tn plD ws f,Te _,hR⟩
def Eh(G:Glob K mg)(DD:Pu.DefM K (Meth K (ExcR.Jm mg "Village") "check_room") "check_room" "Village.check_room" Bs ["self"])
  : Sb P w K mg base:=by
 refine DD.ox (k:=0) IC (λ_ _ _ _ _ _ E hr=>⟨_,(Jj (J4 (J2 FX (ln K G.len (XW (pv 0) rfl)) (ExcR.UW G.MOST_DEEDS) (JN _)) (Jj (ExcR.Xv G.g_BookFull.c G.m_BookFull ExcR.X0 rfl (az (ExcR.pe_f (ExcR.X8 (ExcR.KS (ExcR.UW G.MOST_DEEDS) (ExcR.X8 ExcR.KU)))))))
   JA)), (J9 (Jv (F9 (JS (sz (TK 0 G.cl_Village G.n_Village_book Bl (Jd 0)))) Je)) (X7 (sz (se_f (Xu (Pz Je (Xu KE)))))) J7)⟩) (.a λds R X h=>?_)
 ·obtain⟨bk,fs,ws,rfl,hR⟩:=h;refine⟨rfl,?_⟩;have hl:(bk.map dD).length=bk.length:=ZV ..;unfold Td at hR;refine⟨rfl,rfl,_,rfl,ite2 (λg=>?_) (λg=>?_)⟩
  ·have g':(100:Int)<=((bk.map dD).length:Int):=Yg g;rw[Ya (by omega)]at hR;exact⟨by decide,by decide,by decide,by decide,by decide,by simp,hR⟩
  ·have g':¬(100:Int)<=((bk.map dD).length:Int):=λz=>g (Yb z);rw[ZZ (by omega)]at hR;exact hR
def OZ(G:Glob K mg)(DD:Pu.DefM K (Meth K (ExcR.Jm mg "Village") "enter") "enter" "Village.enter" NK ["self","deed","field","wishes"])
  : NM P w K mg base:=by
 refine DD.oz (k:=0) Eu (λ_ _ _ _ _ _ E hr=>⟨_,(Jg (Ub (UP Y6 YI YJ UU (XW (pv 0) rfl) (az (pv 1)))) (Jg (Ub (UP Y6 YI YJ UU (XW (pv 0) rfl) (az (pv 2)))) (Jg (Ub (UP Y6 YI YJ UU (XW (pv 0) rfl) (az (pv 3)))) (Jj (Jp (ln K G.len (XW (pv 0) rfl))))))), (Ji (Jz 1 (TN (Si 0 0 G.cl_Village G.n_Village_book Bl (Jd 1)))) (Ji (Jz 2 (TN (Si 0 1 G.cl_Village G.n_Village_fields A0 (Jd 2)))) (Ji (Jz 3 (TN (Si 0 2 G.cl_Village G.n_Village_wished Dt (Jd 3)))) (Oh (JS (sz (TK 0 G.cl_Village G.n_Village_book Bl (Jd 0))))))))⟩) (.c λo ss R X h=>?_)
 ·obtain⟨x,b1,b2,b3,bk,fs,ws,q,f,w,rfl,rfl,h1,h2,h3,hR⟩:=h;refine⟨rfl,?_⟩;have k1:(bk.map dD).length<10000000:=by rw[ZV];omega
  have k2:(fs.map plD).length<10000000:=by rw[ZV];omega
  have k3:(ws.map plD).length<10000000:=by rw[ZV];omega
  refine⟨rfl,rfl,_,rfl,k1,rfl,rfl,_,rfl,k2,rfl,rfl,_,rfl,k3,rfl,rfl,_,rfl,_,rfl,⟨rfl,by simp⟩,?_⟩;have e:(((bk.map dD++[dD q]).length:Nat):Int)=(bk.length:Int)+1:=by rw[Yl,ZV];simp
  show R (.ins x _ vF [(b1,bk.map dD++[dD q]),(b2,fs.map plD++[plD f]),(b3,ws.map plD++[plD w])]) (.int (((bk.map dD++[dD q]).length:Nat):Int));rw[e];have e1:bk.map dD++[dD q]=(bk++[q]).map dD:=by rw[Yu];rfl
  have e2:fs.map plD++[plD f]=(fs++[f]).map plD:=by rw[Yu];rfl
  have e3:ws.map plD++[plD w]=(ws++[w]).map plD:=by rw[Yu];rfl
  rw[e1,e2,e3];exact hR
def Rr(G:Glob K mg)(DD:Def K mg "_law_at" N8 ["_law_script","_law_k"])
  : TJ P w K mg base:=by
 refine DD.oz (k:=0) M2 (λ_ _ _ _ _ _ E hr=>⟨_,(Jg (J4 (J2 Kn (pv 1) (ln K G.len (pv 0)) (JN _)) (Jj (Jp (jx K (pv 0) (pv 1))))
   JA) (Jj (Jp Jf))), (Ji (J9 (Jv (Kq (Jd 1) (JS (sz (Jd 0))))) (Jx (Jt (Jd 0) (Jd 1))) J7) (Jx Je))⟩) (.a λds R X h=>?_)
 ·obtain⟨ns,k,rfl,hk,hR⟩:=h;refine⟨rfl,?_⟩;refine ite2 (λg=>?_) (λ_=>hR 0);have g':k<(ns.length:Int):=Yg g;exact⟨_,T1 hk (ZU (show k.toNat<ns.length by omega)),hR _⟩
def Zac(G:Glob K mg)(DD:Def K mg "_law_whole" SC ["_law_found"])
  : TU P w K mg base:=by
 refine DD.oz (k:=0) OS (λ_ _ _ _ _ _ E hr=>⟨_,(Jj (Jp (Nd (Uc (XD (K:=K)) (by rfl) G.isinstance W5 (bz (pv 0) (Kc (v:=.ty "int") rfl G.int boot_int rfl))) (Sa (Ng (Uc (XD (K:=K)) (by rfl) G.isinstance W5 (bz (pv 0) (Kc (v:=.ty "bool") rfl G.bool boot_bool rfl)))))))), (Jx (NJ (XX (tz (Jd 0) XM)) (Nf (XX (tz (Jd 0) XM)))))⟩) (.a λds R X h=>?_)
 ·obtain⟨i,rfl,hR⟩:=h;refine⟨rfl,?_⟩;exact⟨_,.same _,_,.ib,hR⟩
def M8(G:Glob K mg)(DD:Def K mg "_law_mix" Nc ["_law_cell","_law_place"])
  : S9 P w K mg base:=by
 refine DD.oz (k:=0) A4 (λ_ _ _ _ _ _ E hr=>⟨_,(Jg (Pu.pz 2 A4.nd (Jl JJ (Jl XC (Jl JU (Jl JU (Jl JJ (pv 0) Jf) (Jl XC Jf (pv 1))) Jf) Jf) Jf)) (Jj (Jp (Jl JJ (Jl XC (Jl JU (Jl JU (pv 2) (Jl XC Jf (pv 1))) Jf) Jf) Jf)))), (Ji (Jo (JL (XU (JT (JT (JL (Jd 0) Je) (XU Je (Jd 1))) Je) Je) Je) (Jh 2)) (Jx (JL (XU (JT (JT (Jd 2) (XU Je (Jd 1))) Je) Je) Je)))⟩) (.a λds R X h=>?_)
 ·obtain⟨c,p,rfl,hR⟩:=h;refine⟨rfl,?_⟩;exact⟨(by show(0:Int)<2147483647;decide),.inl ⟨by decide,by decide⟩,.inr ⟨by decide,by decide⟩,(by show(0:Int)<2147483647;decide),.inl ⟨by decide,by decide⟩,.inr ⟨by decide,by decide⟩,(by show(0:Int)<2147483647;decide),hR _⟩
def LY(G:Glob K mg)(DD:Def K mg "_law_menu" S8 ["_law_cell"])
  : DO P w K mg base:=by
 refine DD.oz (k:=0) SJ (λ_ _ _ _ _ _ E hr=>⟨_,(Jg (Pu.pz 1 SJ.nd (jx K (JD (J0 Jf (J0 Jf (J0 Jf (J0 Jf (J0 Jf J8)))))) (Jl JJ (Jl Ul (pv 0) Jf) Jf))) (Jg (Pu.pz 2 SJ.nd (jx K (JD (J0 Jf (J0 Jf (J0 Jf (J0 Jf (J0 Jf J8)))))) (Jl JJ (Jl Ul (pv 0) Jf) Jf))) (Jj (Jp (JD (J0 (Jl JU Jf (Jl JJ (pv 0) Jf)) (J0 (jx K (JD (J0 Jf (J0 Jf (J0 Jf (J0 Jf J8))))) (Jl JJ (Jl Ul (pv 0) Jf) Jf)) (J0 (Jl JJ (Jl Ul (pv 0) Jf) Jf) (J0 (pv 1) (J0 (pv 2) J8)))))))))), (Ji (Jo (Jt (JI (JC Je (JC Je (JC Je (JC Je (JC Je J1)))))) (JL (Uu (Jd 0) Je) Je)) (Jh 1)) (Ji (Jo (Jt (JI (JC Je (JC Je (JC Je (JC Je (JC Je J1)))))) (JL (Uu (Jd 0) Je) Je)) (Jh 2)) (Jz 2 (Jz 1 (Jx (JI (JC (JT Je (JL (Jd 0) Je)) (JC (Jt (JI (JC Je (JC Je (JC Je (JC Je J1))))) (JL (Uu (Jd 0) Je) Je)) (JC (JL (Uu (Jd 0) Je) Je) (JC (Jd 1) (JC (Jd 2) J1)))))))))))⟩) (.a λds R X h=>?_)
 ·obtain⟨c,rfl,hR⟩:=h;refine⟨rfl,?_⟩;have h1:0<=c / 10 % 4/\c / 10 % 4<4:=by omega
  have h2:0<=c / 400 % 5/\c / 400 % 5<5:=by omega
  have hb:∀v∈([1,3,7,9]:List Int),1<=v/\v<=9/\(v=1\/v=3\/v=7\/v=9):=by decide
  have hde:∀i:Int,0<=i->i<5->∃d e:Int,atI [D.int 1000,.int 3,.int 1,.int 2,.int 3] i=some (.int d)/\atI [D.int 1,.int 1,.int 1,.int 1,.int 998] i=some (.int e)/\(1<=d/\d<=1000)/\1<=e/\e+d<=1001:=λi a b=>by
   have:i=0\/i=1\/i=2\/i=3\/i=4:=by omega
   rcases this with rfl|rfl|rfl|rfl|rfl
   ·exact⟨1000,1,rfl,rfl,by decide,by decide,by decide⟩
   ·exact⟨3,1,rfl,rfl,by decide,by decide,by decide⟩
   ·exact⟨1,1,rfl,rfl,by decide,by decide,by decide⟩
   ·exact⟨2,1,rfl,rfl,by decide,by decide,by decide⟩
   ·exact⟨3,998,rfl,rfl,by decide,by decide,by decide⟩
  obtain⟨d,e,e1,e2,hd,he⟩:=hde _ h2.1 h2.2;have hbb:=hb _ (Yr (l:=([1,3,7,9]:List Int)) (n:=(c / 10 % 4).toNat) (by show(c / 10 % 4).toNat<4;omega));refine⟨by simp,⟨by decide,by decide⟩,(by show(0:Int)<5;decide),_,e1,by simp,⟨by decide,by decide⟩,(by show(0:Int)<5;decide),_,e2,(by show(0:Int)<10;decide),by simp,⟨by decide,by decide⟩,(by show(0:Int)<4;decide),_,B4 (f:=D.int) (xs:=[1,3,7,9]) h1.1 h1.2,⟨by decide,by decide⟩,(by show(0:Int)<10;decide),by simp,?_⟩;exact hR [_,_,_,_,_] ⟨_,_,_,_,_,rfl,by omega,hbb,by omega,hd,he⟩
def Ly(G:Glob K mg)(DD:Def K mg "_law_holder" N2 ["_law_menu_here","_law_k"])
  : BE P w K mg base:=by
 refine DD.oz (k:=0) Gj (λ_ _ _ _ _ _ E hr=>⟨_,(Jj (Jp (Jl JU Jf (Jl JJ (Jl JU (Jl XC (pv 1) (jx K (pv 0) Jf)) (jx K (pv 0) Jf)) Jf)))), (Jx (JT Je (JL (JT (XU (Jd 1) (Jt (Jd 0) Je)) (Jt (Jd 0) Je)) Je)))⟩) (.a λds R X h=>?_)
 ·obtain⟨m,k,rfl,hM,hR⟩:=h;refine⟨rfl,?_⟩;obtain⟨a,b,c,d,e,rfl,ha,hb,hc,hd,he⟩:=hM;exact⟨_,rfl,.inr ⟨by omega,by omega⟩,_,rfl,(by show(0:Int)<10;decide),hR _ (by omega) (by omega) rfl⟩
def GC(G:Glob K mg)(DD:Def K mg "_law_present" N1 ["_law_strips_here"])
  : Bq P w K mg base:=by
 refine DD.oz (k:=0) Cr (λ_ _ _ _ _ _ E hr=>⟨_,(Jg (Pu.pz 1 Cr.nd (Us (N':=["_law_strip"]) (φ:=[none]) rfl (Own.CompOk.of (by rfl)) (JG (K:=K) (pv 0)) (λ_ _ _ _ _=>⟨(gz 0 (show(["_law_strip"]:List Str).Nodup from by decide +kernel)),US,(jx K (pv 0) Jf)⟩))) (Jj (Jp (Us (N':=["_law_holder_here","_law_owners"]) (φ:=[none,some 1]) rfl (Own.CompOk.of (by rfl)) (ID rfl G.range (bz Jf Jf)) (λ_ _ _ _ _=>⟨(gz 0 (show(["_law_holder_here","_law_owners"]:List Str).Nodup from by decide +kernel)),(UD (J2 (UG (K:=K) (show _<cLine from JH hr)) (pv 0) (pv 1) (by with_unfolding_all rfl))),(pv 0)⟩))))), (Ji (Jo (JX (Uo (Jd 0)) (Jh 0) Xe (Jt (Jd 0) Je)) (Jh 1)) (Jx (JX (SndI.c (Zad (tz Je Je))) (Jh 0) (Jv (Ud (Jd 0) (Jd 1))) (Jd 0))))⟩) (.a λds R X h=>?_)
 ·obtain⟨ps,rfl,hz,hR⟩:=h;refine⟨rfl,?_⟩;refine JW (xs:=ps) (emb:=prD) (λq=>some (.int q.1)) (by omega) (λq hq=>⟨_,rfl,_,rfl,rfl⟩) ?_;rw[mapD (λq:Int×Int=>D.int q.1),show ps.map (λq:Int×Int=>D.int q.1)=(ps.map (·.1)).map D.int by rw[YL];rfl];refine⟨⟨by decide,by decide,by decide,by decide⟩,Hy (n:=10) (λi=>if decide ((1:Int)+(i:Int)∈ps.map (·.1))=true then some (.int (1+(i:Int)))else none) (by decide) (λi hi=>?_) ?_⟩
  ·exact⟨_,.li _ _,ite2 (λg=>⟨_,rfl,Ya g⟩) (λg=>ZZ g)⟩
  rw[Uy (λi:Nat=>decide ((1:Int)+(i:Int)∈ps.map (·.1)))]
  have e:((List.range 10).filter λi:Nat=>decide ((1:Int)+(i:Int)∈ps.map (·.1))).map (λi:Nat=>D.int (1+(i:Int)))=(Js ps).map D.int:=by
   unfold Js;rw[GR,List.filter_map,YL];rfl
  rw[e];exact hR
def G7(G:Glob K mg)(DD:Def K mg "_law_price" Bi ["_law_strips_here","_law_order"])
  : BY P w K mg base:=by
 refine DD.oz (k:=0) Kt (λ_ _ _ _ _ _ E hr=>⟨_,(Jg (X9 (N':=["_law_strip","_law_order"]) (φ:=[none,some 1]) (i:=2) Kt.nd rfl rfl rfl (Own.CompOk.of (by rfl)) (JG (K:=K) (pv 0)) (λ_ _ _ _ _=>⟨(gz 0 (show(["_law_strip","_law_order"]:List Str).Nodup from by decide +kernel)),US,(Be (K:=K) Y6 WJ Qw (SK (K:=K)) (pv 1) (az (jx K (pv 0) Jf)))⟩)) (Jg (Pu.pz 3 Kt.nd Jf) (Jg (JZ Yw rfl (Xq rfl G.range (az (ln K G.len (pv 0)))) (gz 4 Kt.nd) (Jj (JZ Yw rfl (Xq rfl G.range (az (pv 4))) (gz 5 Kt.nd) (Jj (J4 (J2 Xj (jx K (pv 2) (pv 5)) (jx K (pv 2) (pv 4)) (JN _)) (Jj (Pu.pz 3 Kt.nd (Jl JU (pv 3) (Jl XC (jx K (jx K (pv 0) (pv 5)) Jf) (jx K (jx K (pv 0) (pv 4)) Jf)))))
   JA))))) (Jj (Jp (pv 3)))))), (Ji (Jo (JX (Uo (Jd 0)) (Jh 0) Xe (NV (Jd 1) (sz (Jt (Jd 0) Je)))) (Jh 2)) (Ji (Jo Je (Jh 3)) (Ji (JY [4,5] (Xl (sz (JS (sz (Jd 0))))) (Jh 4) (JY [5] (Xl (sz (Jd 4))) (Jh 5) (J9 (Jv (Xs (Jt (Jd 2) (Jd 5)) (Jt (Jd 2) (Jd 4)))) (Jo (JT (Jd 3) (XU (Jt (Jt (Jd 0) (Jd 5)) Je) (Jt (Jt (Jd 0) (Jd 4)) Je))) (Jh 3)) J7))) (UR 3))))⟩) (.a λds R X h=>?_)
 ·obtain⟨ps,os,rfl,hF,hz,hin,hR⟩:=h;refine⟨rfl,?_⟩;have hlm:(ps.map prD).length=ps.length:=ZV ..;refine JW (xs:=ps) (emb:=prD) (λq=>some (.int (os.idxOf q.1:Nat))) (by omega) (λq hq=>⟨⟨_,rfl⟩,_,rfl,os,rfl,hin q hq,_,rfl,rfl⟩) ?_;rw[mapD (λq:Int×Int=>D.int (os.idxOf q.1:Nat)),show ps.map (λq:Int×Int=>D.int (os.idxOf q.1:Nat))=(ps.map λq:Int×Int=>((os.idxOf q.1:Nat):Int)).map D.int by rw[YL];rfl];generalize ers:(ps.map λq:Int×Int=>((os.idxOf q.1:Nat):Int))=rs
  have rx:∀(j:Nat) (hj:j<ps.length),atI (rs.map D.int) (0+(j:Int))=some (.int (os.idxOf ps[j].1:Nat)):=λj hj=>by
   rw[show(0:Int)+(j:Int)=(j:Int) by omega,←ers];exact Uv (f:=D.int) (KI (by rw[Ye,ZU hj];rfl))
  have px:∀(j:Nat) (hj:j<ps.length),atI (ps.map prD) (0+(j:Int))=some (prD ps[j]):=λj hj=>by
   rw[show(0:Int)+(j:Int)=(j:Int) by omega];exact Uv (f:=prD) (KI (ZU hj))
  refine⟨⟨by omega,by omega⟩,UX (λk γ'=>γ'=[some (.bor (.lst (ps.map prD))),some (.bor (.lst (os.map D.int))),some (.own (rs.map D.int)),some (.sh (.int (priM ps os k))),none,none]) rfl ?_ ?_⟩
  ·rintro k γ' hk rfl
   have hk':k<ps.length:=by
    have:k<(((ps.map prD).length:Nat):Int).toNat:=hk
    omega
   have hgk:ps.getD k (0,0)=ps[k]:=by rw[Yp,ZU hk'];rfl
   have ep:priM ps os (k+1)=priM ps os k+rsM ps os ps[k].1 k*ps[k].2:=by simp only[priM];rw[hgk]
   have hwk:=hF ps[k] (Yr hk');refine⟨⟨by omega,by omega⟩,UX (λj γ'=>γ'=[some (.bor (.lst (ps.map prD))),some (.bor (.lst (os.map D.int))),some (.own (rs.map D.int)),some (.sh (.int (priM ps os k+rsM ps os ps[k].1 j*ps[k].2))),some (.sh (.int (0+(k:Int)))),none]) ?_ ?_ ?_⟩
   ·rw[show rsM ps os ps[k].1 0=0 from rfl,Int.zero_mul,Qq]
    rfl
   ·rintro j γ' hj rfl
    have hj':j<ps.length:=by
     have:j<((0:Int)+(k:Int)).toNat:=hj
     omega
    have hgj:ps.getD j (0,0)=ps[j]:=by rw[Yp,ZU hj'];rfl
    have hwj:=hF ps[j] (Yr hj');have step:rsM ps os ps[k].1 (j+1)=rsM ps os ps[k].1 j+(if os.idxOf ps[k].1<os.idxOf ps[j].1 then ps[j].2 else 0):=by simp only[rsM];rw[hgj]
    refine⟨_,rx j hj',_,rx k hk',ite2 (λg=>?_) (λg=>?_)⟩
    ·have g':((os.idxOf ps[k].1:Nat):Int)<((os.idxOf ps[j].1:Nat):Int):=Yg g;refine⟨_,px j hj',_,rfl,_,px k hk',_,rfl,.inl ⟨by show -(2 ^ 64)<ps[j].2;omega,by show ps[j].2<2 ^ 64;omega⟩,?_⟩;rw[step,Ya (by omega),Int.add_mul,←Int.add_assoc];rfl
    ·have g':¬((os.idxOf ps[k].1:Nat):Int)<((os.idxOf ps[j].1:Nat):Int):=λz=>g (Yb z);rw[step,ZZ (by omega),Qq];rfl
   ·rintro γ' rfl;rw[show((0:Int)+(k:Int)).toNat=k by omega,←ep];rfl
  ·rintro γ' rfl;rw[show(((ps.map prD).length:Nat):Int).toNat=ps.length by omega];exact hR
def LQ(G:Glob K mg)(DD:Def K mg "_law_kept" B3 ["_law_order","_law_wishes_here"])
  : Fg P w K mg base:=by
 refine DD.oz (k:=0) Bb (λ_ _ _ _ _ _ E hr=>⟨_,(Jg (JZ Yw rfl (JG (K:=K) (pv 1)) (XF (K:=K) (n:=2) rfl (U5 (gz 2 Bb.nd) (U5 (gz 3 Bb.nd) XB))) (Jj (J4 (PW.pt (XT (J2 (UG (K:=K) (show _<cLine from JH hr)) (pv 2) (pv 0) (by with_unfolding_all rfl)) (XT (J2 (UG (K:=K) (show _<cLine from JH hr)) (pv 3) (pv 0) (by with_unfolding_all rfl)) (Ky (J2 Xj (Be (K:=K) Y6 WJ Qw (SK (K:=K)) (pv 0) (az (pv 2))) (Be (K:=K) Y6 WJ Qw (SK (K:=K)) (pv 0) (az (pv 3))) (JN _)))))) (Jj (Jp Uk))
   JA))) (Jj (Jp Uk))), (Ji (Jz 1 (JY [2,3] (UF (Jd 1)) (KA (UK (Jh 2) (UK (Jh 3) Kk))) (J9 (Kd (Jv (Ud (Jd 2) (Jd 0))) (Kd (Jv (Ud (Jd 3) (Jd 0))) (Jv (Xs (NV (Jd 0) (sz (Jd 2))) (NV (Jd 0) (sz (Jd 3))))))) (Jx Uj) J7))) (Jx Uj))⟩) (.a λds R X h=>?_)
 ·obtain⟨os,ws,rfl,hR1,hR2⟩:=h;refine⟨rfl,?_⟩;refine⟨rfl,UO (xs:=ws) (emb:=prD) (λi γ'=>γ'=[some (.bor (.lst (os.map D.int))),some (.bor (.lst (ws.map prD))),none,none]/\∀q∈ws.take i,badM os q=false) ⟨rfl,by simp⟩ ?_ ?_⟩
  ·rintro i hi γ' ⟨rfl,hb⟩;have hq:=Yr hi
   have next:badM os ws[i]=false->∀q∈ws.take (i+1),badM os q=false:=λh q hq=>by
    rw[Yx hi,Yt,ZX]at hq;rcases hq with hq|hq
    ·exact hb q hq
    ·rw[hq];exact h
   generalize ws[i]=q at hq next ⊢;refine⟨rfl,_,.li _ _,ite2 (λg1=>⟨_,.li _ _,ite2 (λg2=>?_) (λg2=>?_)⟩) (λg1=>?_)⟩
   ·have g1':decide (q.1∈os)=true:=g1;have g2':decide (q.2∈os)=true:=g2;refine⟨⟨_,rfl⟩,os,rfl,Yg g1',⟨_,rfl⟩,os,rfl,Yg g2',?_⟩;refine ite2 (λg3=>?_) (λg3=>?_)
    ·have g3':=Yg g3;refine hR2 ⟨q,hq,?_⟩;unfold badM;rw[g1',g2',Yb (by omega)];rfl
    ·have g3':¬((os.idxOf q.2:Nat):Int)<((os.idxOf q.1:Nat):Int):=λz=>g3 (Yb z);refine⟨rfl,next ?_⟩;unfold badM;rw[g1',g2',Ym (by omega)];rfl
   ·refine iteF ⟨rfl,next ?_⟩;have g2':decide (q.2∈os)=false:=Wq.mpr g2;unfold badM;rw[g2',WE,Bool.and_false]
   ·refine iteF ⟨rfl,next ?_⟩;have g1':decide (q.1∈os)=false:=Wq.mpr g1;unfold badM;rw[g1',WE]
  ·rintro γ' ⟨rfl,hb⟩;rw[YX]at hb;exact hR1 hb
def OI(G:Glob K mg)(DD:Def K mg "_law_no_ring" SH ["_law_holders","_law_wishes_here"])
  : Ap P w K mg base:=by
 refine DD.oz (k:=0) Ko (λ_ _ _ _ _ _ E hr=>⟨_,(Jg (Pu.pz 2 Ko.nd (UT (Ph (K:=K)) (by rfl) G.list boot_list (az (pv 0)))) (Jg (JZ Yw rfl (JG (K:=K) (pv 0)) (gz 3 Ko.nd) (Jg (X9 (N':=["_law_pair","_law_left"]) (φ:=[none,some 2]) (i:=4) Ko.nd rfl rfl rfl (Own.CompOk.of (by rfl)) (JG (K:=K) (pv 1)) (λ_ _ _ _ _=>⟨(gz 0 (show(["_law_pair","_law_left"]:List Str).Nodup from by decide +kernel)),(UD (PW.pt (XT (J2 (UG (K:=K) (show _<cLine from JH hr)) (jx K (pv 0) Jf) (pv 1) (by with_unfolding_all rfl)) (Ky (J2 (UG (K:=K) (show _<cLine from JH hr)) (jx K (pv 0) Jf) (pv 1) (by with_unfolding_all rfl)))))),(pv 0)⟩)) (Jg (Pu.pz 5 Ko.nd (Us (N':=["_law_pair"]) (φ:=[none]) rfl (Own.CompOk.of (by rfl)) (JG (K:=K) (pv 4)) (λ_ _ _ _ _=>⟨(gz 0 (show(["_law_pair"]:List Str).Nodup from by decide +kernel)),US,(jx K (pv 0) Jf)⟩))) (Jj (Pu.pz 2 Ko.nd (Us (N':=["_law_holder_here","_law_behind"]) (φ:=[none,some 5]) rfl (Own.CompOk.of (by rfl)) (JG (K:=K) (pv 2)) (λ_ _ _ _ _=>⟨(gz 0 (show(["_law_holder_here","_law_behind"]:List Str).Nodup from by decide +kernel)),(UD (J2 (UG (K:=K) (show _<cLine from JH hr)) (pv 0) (pv 1) (by with_unfolding_all rfl))),(pv 0)⟩))))))) (Jj (Jp (K0 (Gs (K:=K) (show _<cLine from hr.units0)) (pv 2) (JD J8) (JN _)))))), (Ji (Jo (Pg (sz (Jd 0))) (Jh 2)) (Ji (Jz 0 (JY [3,4,5] (UF (Jd 0)) (Jh 3) (Ji (Jo (JX (Uo (Jd 1)) (Jh 0) (Kd (Jv (Ud (Jt (Jd 0) Je) (Jd 1))) (Jv (Ud (Jt (Jd 0) Je) (Jd 1)))) (Jd 0)) (Jh 4)) (Ji (Jo (JX (Uo (Jd 4)) (Jh 0) Xe (Jt (Jd 0) Je)) (Jh 5)) (Jo (JX (Uo (Jd 2)) (Jh 0) (Jv (Ud (Jd 0) (Jd 1))) (Jd 0)) (Jh 2)))))) (Jx (IQ (Jd 2) (JI J1)))))⟩) (.a λds R X h=>?_)
 ·obtain⟨hs,ws,rfl,hz,hw,hR⟩:=h;refine⟨rfl,?_⟩;refine⟨KN _,rfl,UO (xs:=hs) (emb:=D.int) (λi γ'=>γ'=[some (.bor (.lst (hs.map D.int))),some (.bor (.lst (ws.map prD))),some (.own ((JB ws hs i).map D.int)),none,none,none]/\(JB ws hs i).length<=50) ⟨rfl,hz⟩ ?_ ?_⟩
  ·rintro i hi γ' ⟨rfl,hl⟩;generalize e:JB ws hs i=ls at hl;have e2:JB ws hs (i+1)=UB ws ls:=YD (UB ws) e;have li:(X6 ws ls).length<=50:=Yn (YG _ _) hw;refine JW (xs:=ws) (emb:=prD) (λq=>if (decide (q.1∈ls)&&decide (q.2∈ls))=true then some (prD q)else none) (by omega) (λq hq=>?_) ?_
   ·refine⟨_,rfl,_,.li _ _,ite2 (λg1=>⟨_,rfl,_,.li _ _,ite2 (λg2=>⟨_,rfl,Ya ?_⟩) (λg2=>ZZ ?_)⟩) (λg1=>iteF (ZZ ?_))⟩
    ·have g1':decide (q.1∈ls)=true:=g1;have g2':decide (q.2∈ls)=true:=g2;rw[g1',g2'];rfl
    ·have g2':decide (q.2∈ls)=false:=Wq.mpr g2;rw[g2',Bool.and_false];exact Yj
    ·have g1':decide (q.1∈ls)=false:=Wq.mpr g1;rw[g1',WE];exact Yj
   rw[Uy (λq:Int×Int=>decide (q.1∈ls)&&decide (q.2∈ls))];show _;refine JW (xs:=X6 ws ls) (emb:=prD) (λq=>some (.int q.2)) (by omega) (λq hq=>⟨_,rfl,_,rfl,rfl⟩) ?_;rw[mapD (λq:Int×Int=>D.int q.2),show(X6 ws ls).map (λq:Int×Int=>D.int q.2)=((X6 ws ls).map (·.2)).map D.int by rw[YL];rfl];refine JW (xs:=ls) (emb:=D.int) (λh=>if decide (h∈(X6 ws ls).map (·.2))=true then some (.int h)else none) (by omega) (λh hh=>?_) ?_
   ·exact⟨_,.li _ _,ite2 (λg=>⟨_,rfl,Ya g⟩) (λg=>ZZ g)⟩
   rw[Uy (λh:Int=>decide (h∈(X6 ws ls).map (·.2)))];exact⟨by rw[e2];rfl,by rw[e2];exact Yn (YG _ _) hl⟩
  ·rintro γ' ⟨rfl,hl⟩;refine⟨We _,?_⟩;have e:((JB ws hs hs.length).map D.int).isEmpty=decide (JB ws hs hs.length=[]):=by cases JB ws hs hs.length<;>simp
   show R (.sh (.bl ((JB ws hs hs.length).map D.int).isEmpty));rw[e];exact hR
def E7(G:Glob K mg)(DD:Def K mg "_law_with_round" NG ["_law_wishes_here","_law_holders","_law_cell"])
  : Ca P w K mg base:=by
 refine DD.oz (k:=0) Xx (λ_ _ _ _ _ _ E hr=>⟨_,(Jg (Pu.pz 3 Xx.nd (Uc (Ob rfl) (by rfl) G.min boot_min (bz (ln K G.len (pv 1)) (Jl JU Jf (Jl JJ (Jl Ul (pv 2) Jf) Jf))))) (Jg (J4 (PW.pt (U0 (cq K hr (Jl JJ (pv 2) Jf) Jf) (U9 (J2 Kn (pv 3) Jf (JN _))))) (Jj (Jp (pv 0)))
   JA) (Jg (Pu.pz 4 Xx.nd (JD J8)) (Jg (JZ Yw rfl (JG (K:=K) (Ke (XJ (K:=K)) (JD (bz Jf (Jl Tw (ln K G.len (pv 1)) (pv 3)))) Kb (XN (Jl JU Jf (Jl JJ (Jl Ul (pv 2) Jf) Jf))))) (gz 5 Xx.nd) (Jj (JZ Yw rfl (Xq rfl G.range (az (pv 3))) (gz 6 Xx.nd) (Jg (Pu.pz 7 Xx.nd (Ug (bz (jx K (pv 1) (Jl JU (pv 5) (pv 6))) (jx K (pv 1) (Jl JU (pv 5) (Jl JJ (Jl JU (pv 6) Jf) (pv 3))))))) (Jj (J4 (J2 (XY (K:=K) (show _<cLine from JH hr)) (pv 7) (pv 4) (by with_unfolding_all rfl)) (Jj (Ub (UP Y6 YI YJ UU (pv 4) (az (pv 7)))))
   JA)))))) (Jg (Pu.pz 8 Xx.nd (Ke (XJ (K:=K)) (Us (N':=["_law_pair","_law_laid"]) (φ:=[none,some 4]) rfl (Own.CompOk.of (by rfl)) (JG (K:=K) (pv 0)) (λ_ _ _ _ _=>⟨(gz 0 (show(["_law_pair","_law_laid"]:List Str).Nodup from by decide +kernel)),(UD (J2 (XY (K:=K) (show _<cLine from JH hr)) (pv 0) (pv 1) (by with_unfolding_all rfl))),(pv 0)⟩)) Kb (XN (Jl JJ (Jl Ul (pv 2) Jf) Jf)))) (Jg (Pu.pz 9 Xx.nd (Jl JJ (Jl Ul (pv 2) Jf) (Jl JU (ln K G.len (pv 8)) Jf))) (Jj (Jp (Ke (XJ (K:=K)) (Jl Pr (Jl Pr (Ke (XJ (K:=K)) (pv 8) Kb (XN (pv 9))) (pv 4)) (Ke (XJ (K:=K)) (pv 8) (XN (pv 9)) Kb)) Kb (XN Jf)))))))))), (Ji (Jo (Ha (tz (JS (sz (Jd 1))) (JT Je (JL (Uu (Jd 2) Je) Je)))) (Jh 3)) (Ji (J9 (U3 (Jv (Xr (JL (Jd 2) Je) Je)) (Jv (Kq (Jd 3) Je))) (UR 0) J7) (Ji (Jo (JI J1) (Jh 4)) (Ji (JY [5,6,7] (UF (XQ (JI (tz Je (Na (JS (sz (Jd 1))) (Jd 3)))) XZ (XG (JT Je (JL (Uu (Jd 2) Je) Je))))) (Jh 5) (JY [6,7] (Xl (sz (Jd 3))) (Jh 6) (Ji (Jo (Ue (tz (Jt (Jd 1) (JT (Jd 5) (Jd 6))) (Jt (Jd 1) (JT (Jd 5) (JL (JT (Jd 6) Je) (Jd 3)))))) (Jh 7)) (J9 (Jv (Ud (Jd 7) (Jd 4))) (Jz 7 (P0 4 (Jd 7))) J7)))) (Ji (Jo (XQ (JX (Uo (Jd 0)) (Jh 0) (Jv (Ud (Jd 0) (Jd 1))) (Jd 0)) XZ (XG (JL (Uu (Jd 2) Je) Je))) (Jh 8)) (Ji (Jo (JL (Uu (Jd 2) Je) (JT (JS (sz (Jd 8))) Je)) (Jh 9)) (Jx (XQ (P2 (P2 (XQ (Jd 8) XZ (XG (Jd 9))) (Jd 4)) (XQ (Jd 8) (XG (Jd 9)) XZ)) XZ (XG Je)))))))))⟩) (.a λds R X h=>?_)
 ·obtain⟨a,ws,hs,c,rfl,hW,hnd,hz,hin,hR⟩:=h;refine⟨rfl,?_⟩;have hW1:=hW.1;obtain⟨m0,m1⟩:=Ep hs c;refine⟨⟨by decide,by decide⟩,(by show(0:Int)<9;decide),?_⟩;have back:∀{Q:S->Prop},Q=R->Q (.bor (.loc a (.lst (ws.map prD)))):=λe=>by rw[e];exact hR ws hW _ (.inr ⟨rfl,rfl⟩)
  refine⟨(by show(0:Int)<2;decide),ite2 (λ_=>iteT (back rfl)) (λ_=>?_)⟩;refine ite2 (λ_=>back rfl) (λg2=>?_)
  have hm2:2<=JE hs c:=by
   have:¬JE hs c<2:=λz=>g2 (Yb z)
   omega
  refine⟨by simp,by simp,⟨by decide,by decide⟩,(by show(0:Int)<2;decide),rfl,rfl,?_⟩;refine EH (λd=>∃f:Int,d=.int f/\0<=f/\f+JE hs c<=hs.length) (λd hd=>?_) (λi γ'=>∃lw:List (Int×Int),γ'=[some (.bor (.loc a (.lst (ws.map prD)))),some (.bor (.lst (hs.map D.int))),some (.sh (.int c)),some (.sh (.int (JE hs c))),some (.own (lw.map prD)),none,none,none,none,none]/\Laid lw/\lw.length<=10*i) ⟨[],rfl,⟨Wx,λq hq=>by cases hq⟩,by simp⟩ ?_ ?_
  ·have:=(Pe _ _ _).subset hd
   rcases Yh.mp this with rfl|this
   ·exact⟨0,rfl,by decide,by omega⟩
   ·rw[ZX.mp this];refine⟨hs.length-JE hs c,?_,by omega,by omega⟩;show D.int (((hs.map D.int).length:Nat)-JE hs c)=_;rw[ZV]
  ·rintro i d γ' hi ⟨f,rfl,f0,f1⟩ ⟨lw,rfl,hL,hll⟩
   have hi2:i<2:=by
    have:=(Pe [D.int 0,D.int (((hs.map D.int).length:Nat)-JE hs c)] none (some (1+c / 18 % 2))).length_le
    exact Y3 hi this
   refine⟨⟨by show -(2 ^ 62)<=JE hs c;omega,by show JE hs c<2 ^ 62;omega⟩,UX (λj γ'=>∃lw:List (Int×Int),γ'=[some (.bor (.loc a (.lst (ws.map prD)))),some (.bor (.lst (hs.map D.int))),some (.sh (.int c)),some (.sh (.int (JE hs c))),some (.own (lw.map prD)),some (.sh (.int f)),none,none,none,none]/\Laid lw/\lw.length<=10*i+j) ⟨lw,rfl,hL,by omega⟩ ?_ ?_⟩
   ·rintro j γ' hj ⟨lw,rfl,hL,hll⟩
    have hj':(j:Int)<JE hs c:=by
     have:j<(JE hs c).toNat:=hj
     omega
    have r1:=Wg (0+(j:Int)+1) (show JE hs c≠0 by omega);have r2:=Wd (0+(j:Int)+1) (show 0<JE hs c by omega)
    have r3:(0+(j:Int)+1) % JE hs c≠j:=by
     by_cases q:(j:Int)+1<JE hs c
     ·rw[Vf (by omega) (by omega)];omega
     ·have:0+(j:Int)+1=JE hs c:=by omega
      rw[this,Int.emod_self];omega
    have b1:(f+(0+(j:Int))).toNat<hs.length:=by omega
    have b2:(f+(0+(j:Int)+1) % JE hs c).toNat<hs.length:=by omega
    refine⟨_,B4 (by omega) (by omega),(by show 0<JE hs c;omega),_,B4 (by show 0<=f+(0+(j:Int)+1) % JE hs c;omega) (by show f+(0+(j:Int)+1) % JE hs c<_;omega),by simp,?_⟩
    have ne:hs[(f+(0+(j:Int))).toNat]≠hs[(f+(0+(j:Int)+1) % JE hs c).toNat]:=λz=>by
     have e1:=hnd.idxOf_getElem _ b1;have e2:=hnd.idxOf_getElem _ b2;rw[z]at e1;rw[e1]at e2;omega
    have k1:=hin _ (Yr b1);have k2:=hin _ (Yr b2);refine⟨_,.lp (hs[(f+(0+(j:Int))).toNat],hs[(f+(0+(j:Int)+1) % JE hs c).toNat]) lw,?_⟩;by_cases hq:(hs[(f+(0+(j:Int))).toNat],hs[(f+(0+(j:Int)+1) % JE hs c).toNat])∈lw
    ·rw[Yb hq];exact iteF ⟨lw,rfl,hL,by omega⟩
    ·rw[Ym hq];refine iteT ⟨by rw[ZV];omega,lw++[_],?_,hL.put hq ⟨⟨k1.1,k1.2,k2.1,k2.2⟩,ne⟩,by rw[Yl];simp;omega⟩;rw[Yu];rfl
   ·rintro γ' ⟨lw,rfl,hL,hll⟩;refine⟨lw,rfl,hL,?_⟩
    have:(JE hs c).toNat<=10:=by omega
    have h2:lw.length<=10*i+(JE hs c).toNat:=hll;omega
  ·rintro γ' ⟨lw,rfl,hL,hll⟩
   have hll':lw.length<=20:=by
    have this:(cutD [D.int 0,D.int (((hs.map D.int).length:Nat)-JE hs c)] none (some (1+c / 18 % 2))).length<=2:=(Pe _ _ _).length_le;have h2:lw.length<=10*(cutD [D.int 0,D.int (((hs.map D.int).length:Nat)-JE hs c)] none (some (1+c / 18 % 2))).length:=hll;omega
   refine JW (xs:=ws) (emb:=prD) (λq=>if decide (¬q∈lw)=true then some (prD q)else none) (by omega) (λq _=>⟨_,.lp q lw,?_⟩) ?_
   ·by_cases h:q∈lw
    ·rw[Yb h];exact iteF (ZZ (by simp[h]))
    ·rw[Ym h];exact iteT ⟨_,rfl,Ya (by simp[h])⟩
   rw[Uy λq=>decide (¬q∈lw)];refine⟨⟨by decide,by decide⟩,(by show(0:Int)<8;decide),rfl,?_⟩;rw[Kh];have hrs:=Pe (ws.filter λq=>decide (¬q∈lw)) none (some (c / 36 % 8));have hrl:(cutD (ws.filter λq=>decide (¬q∈lw)) none (some (c / 36 % 8))).length<=20:=Yn hrs.length_le (Yn (YG _ _) hW1);refine⟨⟨by decide,by decide⟩,(by show(0:Int)<(((cutD (ws.filter λq=>decide (¬q∈lw)) none (some (c / 36 % 8))).map prD).length:Nat)+1;omega),?_⟩;have hlm:(lw.map prD).length<=20:=by rw[ZV];exact hll'
   refine⟨rfl,rfl,rfl,Yn (QV (Bp hrl) hlm) (by decide),rfl,rfl,rfl,Yn (QV (by rw[Yl];exact QV (Bp hrl) hlm) (Bp hrl)) (by decide),rfl,?_⟩;exact hR _ (MB hW hrs hL) _ (.inl (YD (λx=>S.own (O.lst x)) (IU _ lw (Wg _ (by omega)))))
def Hg(G:Glob K mg)(DD:Def K mg "check_strips" NH ["strips"])(Zj:Sd P w K mg base)(Zv:FT P w K mg base)
  : Ah P w K mg base:=by
 refine DD.ox (k:=1) Bz (λ_ _ _ _ _ _ E hr=>⟨_,(Jg (J4 (J2 Xj (ln K G.len (pv 0)) (ExcR.UW G.STRIPS) (JN _)) (Jj (ExcR.Xv G.g_TooManyStrips.c G.m_TooManyStrips ExcR.X0 rfl (az (ExcR.pe_f (ExcR.X8 (ExcR.KS (ExcR.UW G.STRIPS) (ExcR.X8 ExcR.KU)))))))
   JA) (Jj (JZ ExcR.D8 rfl (JG (K:=K) (pv 0)) (XF (K:=K) (n:=2) rfl (U5 (gz 1 Bz.nd) (U5 (gz 2 Bz.nd) XB))) (Jg (Ub (UH Zj (hr.mono (by decide)) ExcR.U8 (az (pv 1)))) (Jj (Ub (UH Zv (hr.mono (by decide)) ExcR.U8 (az (pv 2))))))))), (Ji (J9 (Jv (Xs (JS (sz (Jd 0))) Je)) (X7 (sz (se_f (Xu (Pz Je (Xu KE)))))) J7) (Jz 0 (JY [1,2] (UF (Jd 0)) (KA (UK (Jh 1) (UK (Jh 2) Kk))) (Ji (UY (UJ (sz (Jd 1)))) (UY (UJ (sz (Jd 2))))))))⟩) (.a λds R X h=>?_)
 ·obtain⟨ps,rfl,hz,hR⟩:=h;refine⟨rfl,?_⟩;have hl:(ps.map prD).length=ps.length:=ZV ..;unfold K4 at hR;refine ite2 (λg=>?_) (λg=>?_)
  ·have g':(40:Int)<((ps.map prD).length:Int):=Yg g;rw[Ya (by omega)]at hR;exact⟨by decide,by decide,by decide,by decide,by decide,by simp,hR⟩
  ·have g':¬(40:Int)<((ps.map prD).length:Int):=λz=>g (Yb z);rw[ZZ (by omega)]at hR;refine⟨rfl,UO (xs:=ps) (emb:=prD) (λi γ'=>γ'=[some (.bor (plD ps)),none,none]/\X1 (ps.drop i)=X1 ps) ⟨rfl,rfl⟩ ?_ ?_⟩
   ·rintro i hi γ' ⟨rfl,hf⟩;have ed:ps.drop i=ps[i]::ps.drop (i+1):=Qi hi;rw[ed,EF]at hf;generalize ps[i]=p at hf ⊢;refine⟨rfl,p.1,rfl,?_⟩;unfold Pf;by_cases c:1<=p.1/\p.1<=10
    ·rw[ZZ (λz=>z c)]at hf;rw[Ya c];refine⟨p.2,rfl,?_⟩;unfold NU;by_cases c2:1<=p.2/\p.2<=1000
     ·rw[ZZ (λz=>z c2)]at hf;rw[Ya c2];exact⟨rfl,hf⟩
     ·rw[Ya c2]at hf;rw[ZZ c2];rw[←hf]at hR;exact hR
    ·rw[Ya c]at hf;rw[ZZ c];rw[←hf]at hR;exact hR
   ·rintro γ' ⟨rfl,hf⟩;rw[List.drop_length]at hf;rw[←hf]at hR;exact hR
def Me(G:Glob K mg)(DD:Def K mg "ring_from" Bc ["least","holders","wishes"])(Zw:Ae P w K mg base)
  : FJ P w K mg base:=by
 refine DD.oz (k:=1) XS (λ_ _ _ _ _ _ E hr=>⟨_,(Jg (Pu.pz 3 XS.nd (JD (az (JD (az (pv 0)))))) (Jg (Pu.pz 4 XS.nd (Uc (Bo (K:=K) (w:=w) rfl) (by rfl) G.sorted boot_sorted (az (Us (N':=["holder","least"]) (φ:=[none,some 0]) rfl (Own.CompOk.of (by rfl)) (JG (K:=K) (pv 1)) (λ_ _ _ _ _=>⟨(gz 0 (show(["holder","least"]:List Str).Nodup from by decide +kernel)),(UD (J2 Xj (pv 0) (pv 1) (JN _))),(pv 0)⟩))))) (Jg (PP Yw (JR (K:=K) (pv 3)) (Jg (X9 (N':=["path","wishes","least"]) (φ:=[none,some 2,some 0]) (i:=5) XS.nd rfl rfl rfl (Own.CompOk.of (by rfl)) (JG (K:=K) (pv 3)) (λ_ _ _ _ _=>⟨(gz 0 (show(["path","wishes","least"]:List Str).Nodup from by decide +kernel)),(UD (J2 (UG (K:=K) (show _<cLine from JH hr)) (Ug (bz (jx K (pv 0) (Xz X3 Jf)) (pv 2))) (pv 1) (by with_unfolding_all rfl))),(pv 0)⟩)) (Jg (J4 (JR (K:=K) (pv 5)) (Jj (Jp (jx K (pv 5) Jf)))
   JA) (Jg (Pu.pz 3 XS.nd (fz Zw hr (dz (pv 3) (pv 4) (pv 2)))) (Jg (Pu.pz 6 XS.nd (Us (N':=["path"]) (φ:=[none]) rfl (Own.CompOk.of (by rfl)) (JG (K:=K) (pv 3)) (λ_ _ _ _ _=>⟨(gz 0 (show(["path"]:List Str).Nodup from by decide +kernel)),US,(jx K (pv 0) (Xz X3 Jf))⟩))) (Jj (X9 (N':=["holder","reached"]) (φ:=[none,some 6]) (i:=4) XS.nd rfl rfl rfl (Own.CompOk.of (by rfl)) (JG (K:=K) (pv 4)) (λ_ _ _ _ _=>⟨(gz 0 (show(["holder","reached"]:List Str).Nodup from by decide +kernel)),(UD (J2 (XY (K:=K) (show _<cLine from JH hr)) (pv 0) (pv 1) (by with_unfolding_all rfl))),(pv 0)⟩)))))))) (Jj (Jp (JD J8)))))), (Ji (Jz 0 (Jo (JI (sz (JI (sz (Jd 0))))) (Jh 3))) (Ji (Jo (Sk (sz (JX (Uo (Jd 1)) (Jh 0) (Jv (Xs (Jd 0) (Jd 1))) (Jd 0)))) (Jh 4)) (Ji (B7 [5,6] (JQ (Jd 3)) (Ji (Jz 0 (Jo (JX (Uo (Jd 3)) (Jh 0) (Jv (Ud (Ue (tz (Jt (Jd 0) (Kf Je)) (Jd 2))) (Jd 1))) (Jd 0)) (Jh 5))) (Ji (J9 (JQ (Jd 5)) (SY (Jt (Jd 5) Je)) J7) (Ji (Jo (Jr (uz (Jd 3) (Jd 4) (Jd 2))) (Jh 3)) (Ji (Jo (JX (Uo (Jd 3)) (Jh 0) Xe (Jt (Jd 0) (Kf Je))) (Jh 6)) (Jo (JX (Uo (Jd 4)) (Jh 0) (Jv (Ud (Jd 0) (Jd 1))) (Jd 0)) (Jh 4))))))) (SY (JI J1)))))⟩) (.a λds R X h=>?_)
 ·obtain⟨l,hs,ws,rfl,hnd,hz,hR⟩:=h;refine⟨rfl,?_⟩;refine⟨by simp,by simp,JW (xs:=hs) (emb:=D.int) (λh=>if decide (l<h)=true then some (.int h)else none) (by omega) (λh _=>ite2 (λg=>⟨_,rfl,Ya g⟩) (λg=>ZZ g)) ?_⟩;rw[AN λh=>decide (l<h)];refine⟨hs.filter λh=>decide (l<h),rfl,Va (YG _ _) (by omega),λls hp hsrt=>?_⟩;have hlt:ls.Pairwise (· < ·):=T5 hsrt (hp.nodup_iff.mpr (hnd.filter _))
  have hm:∀h,h∈ls↔Gr hs l h:=λh=>by
   rw[hp.mem_iff,Y2,WA];exact Iff.rfl
  have hlen:ls.length<=hs.length:=by
   rw[hp.length_eq];exact YG _ _
  refine BB (λγ'=>∃k ps ls,γ'=[some (.sh (.int l)),some (.bor (.lst (hs.map D.int))),some (.bor (.lst (ws.map prD))),some (.own (ps.map (em l))),some (.own (ls.map D.int)),none,none]/\Lev hs ws l k ps ls/\ps.length<=60/\ls.length<=hs.length/\(k+ls.length<=hs.length\/(ps=[]/\k<=hs.length+1)))
   (λγ=>2*Ck 4 γ+min 1 (Ck 3 γ)) ⟨0,[[]],ls,rfl,Lev.start hlt hm,by simp,hlen,.inl (by omega)⟩ ?_
  rintro γ' ⟨k,ps,ls,rfl,L,hpl,hll,hk⟩;have emp:(!(ps.map (em l)).isEmpty)=decide (ps≠[]):=by cases ps<;>simp
  show if (!(ps.map (em l)).isEmpty)=true then _ else _;rw[emp];refine ite2 (λg=>?_) (λg=>?_)
  ·have hne:ps≠[]:=Yg g;have hk':k+ls.length<=hs.length:=hk.elim id λz=>absurd z.1 hne;have hpk:∀p∈ps,p.length<=60:=λp hp=>by rw[(L.way p hp).1];omega
   refine JW (xs:=ps) (emb:=em l) (λp=>if decide ((Jq l p,l)∈ws)=true then some (em l p)else none) (by omega) (λp hp=>⟨_,NI l p,by simp,_,.lp (Jq l p,l) ws,ite2 (λg=>⟨_,rfl,Ya g⟩) (λg=>ZZ g)⟩) ?_;rw[Uy λp=>decide ((Jq l p,l)∈ws)];generalize ef:(ps.filter λp=>decide ((Jq l p,l)∈ws))=fs;have emp2:(!(fs.map (em l)).isEmpty)=decide (fs≠[]):=by cases fs<;>simp
   show if (!(fs.map (em l)).isEmpty)=true then _ else _;rw[emp2];refine ite2 (λg2=>?_) (λg2=>?_)
   ·have hfe:fs≠[]:=Yg g2;cases fs with
    |nil=>exact absurd rfl hfe
    |cons p r=>
     obtain⟨i,hi,e1,e2,e3⟩:=F3 ef;have hp:p∈ps:=by rw[←e1];exact Yr hi
     refine⟨em l p,Pv _ _,hR (l::p) (L.found hi e1 (Yg e2) λj hj hji z=>?_) (by have:=(L.way p hp).1;simp;omega)⟩
     have:=e3 j hj hji
     rw[Yb z]at this;cases this
   ·have hfe:fs=[]:=YC λz=>g2 (Yb z)
    have hn:∀p∈ps,(Jq l p,l)∉ws:=λp hp z=>by
     have:p∈fs:=by rw[←ef];exact Y2.mpr ⟨hp,Yb z⟩
     rw[hfe]at this;cases this
    refine⟨l,ps,ls,ws,rfl,L.srt,L.lsrt,λp hp=>Yn (hpk p hp) (by decide),by omega,λlg G hlg=>?_⟩;refine JW (xs:=lg) (emb:=em l) (λp=>some (.int (Jq l p))) (by omega) (λp _=>⟨_,NI l p,_,rfl,rfl⟩) ?_;have e1:lg.filterMap (λp=>some (D.int (Jq l p)))=(lg.map (Jq l)).map D.int:=by rw[Q4,YL];rfl
    rw[e1];refine JW (xs:=ls) (emb:=D.int) (λh=>if decide (¬h∈lg.map (Jq l))=true then some (.int h)else none) (by omega) (λh _=>⟨_,.li h _,?_⟩) ?_
    ·by_cases c:h∈lg.map (Jq l)
     ·simp only[Yb c];exact iteF (ZZ (by simp[c]))
     ·simp only[Ym c];exact iteT ⟨_,rfl,Ya (by simp[c])⟩
    rw[AN λh=>decide (¬h∈lg.map (Jq l))];have L':=L.next hn G rfl
    have hsub:∀h∈lg.map (Jq l),h∈ls:=λh hh=>by
     obtain⟨q,hq,e⟩:=Y4.mp hh;obtain⟨p,x,⟨_,a⟩,rfl,_⟩:=G.mem q hq;rw[U2]at e;rw[←e];exact a
    have hfl:=YG (λh=>decide (¬h∈lg.map (Jq l))) ls
    have hless:lg≠[]->(ls.filter λh=>decide (¬h∈lg.map (Jq l))).length<ls.length:=λhne=>by
     obtain⟨q,hq⟩:=List.exists_mem_of_ne_nil lg hne;have hm:Jq l q∈ls:=hsub _ (QT hq);refine Nat.lt_of_le_of_ne hfl λz=>?_
     have:=List.filter_eq_self.mp (List.Sublist.eq_of_length (QP (l:=ls)) z) (Jq l q) hm
     rw[WA]at this;exact this (QT hq)
    refine⟨⟨k+1,lg,_,rfl,L',by omega,by omega,?_⟩,?_⟩
    ·by_cases c:lg=[]
     ·exact .inr ⟨c,by omega⟩
     ·have:=hless c
      exact .inl (by omega)
    ·show 2*((ls.filter λh=>decide (¬h∈lg.map (Jq l))).map D.int).length+min 1 (lg.map (em l)).length<2*(ls.map D.int).length+min 1 (ps.map (em l)).length;rw[ZV,ZV,ZV,ZV]
     have:0<ps.length:=QR.mpr hne
     by_cases c:lg=[]
     ·rw[c];rw[c]at hfl;simp only[List.length_nil];omega
     ·have:=hless c
      omega
  ·have hpe:ps=[]:=YC λz=>g (Yb z);subst hpe;exact⟨by simp,hR [] L.over (by simp)⟩
def HN(G:Glob K mg)(DD:Def K mg "with_wish" N6 ["wishes","ahead","behind"])(Zj:Sd P w K mg base)
  : CQ P w K mg base:=by
 refine DD.ox (k:=1) RT (λ_ _ _ _ _ _ E hr=>⟨_,(Jg (Ub (UH Zj (hr.mono (by decide)) ExcR.U8 (az (pv 1)))) (Jg (Ub (UH Zj (hr.mono (by decide)) ExcR.U8 (az (pv 2)))) (Jg (J4 (cq K hr (pv 1) (pv 2)) (Jj (ExcR.Xv G.g_LikeHolders.c G.m_LikeHolders ExcR.X0 rfl (az Pk)))
   JA) (Jg (J4 (J2 (UG (K:=K) (show _<cLine from JH hr)) (Ug (bz (pv 1) (pv 2))) (pv 0) (by with_unfolding_all rfl)) (Jj (ExcR.Xv G.g_WishStands.c G.m_WishStands ExcR.X0 rfl (az Pk)))
   JA) (Jg (J4 (J2 FX (ln K G.len (pv 0)) (ExcR.UW G.MOST_WISHES) (JN _)) (Jj (ExcR.Xv G.g_TooManyWishes.c G.m_TooManyWishes ExcR.X0 rfl (az (ExcR.pe_f (ExcR.X8 (ExcR.KS (ExcR.UW G.MOST_WISHES) (ExcR.X8 ExcR.KU)))))))
   JA) (Jj (Jp (Jl Pr (pv 0) (JD (az (Ug (bz (pv 1) (pv 2))))))))))))), (Ji (UY (UJ (sz (Jd 1)))) (Ji (UY (UJ (sz (Jd 2)))) (Ji (J9 (Jv (Xr (Jd 1) (Jd 2))) (X7 (sz KP)) J7) (Ji (J9 (Jv (Ud (Ue (tz (Jd 1) (Jd 2))) (Jd 0))) (X7 (sz KP)) J7) (Ji (J9 (Jv (F9 (JS (sz (Jd 0))) Je)) (X7 (sz (se_f (Xu (Pz Je (Xu KE)))))) J7) (Jz 2 (Jz 1 (Jx (P2 (Jd 0) (JI (sz (Ue (tz (Jd 1) (Jd 2))))))))))))))⟩) (.a λds R X h=>?_)
 ·obtain⟨ws,a,b,rfl,hz,hR⟩:=h;refine⟨rfl,?_⟩;have hl:(ws.map prD).length=ws.length:=ZV ..;unfold Xp at hR;refine⟨a,rfl,?_⟩;unfold Pf;by_cases c1:1<=a/\a<=10
  ·rw[ZZ (λz=>z c1)]at hR;rw[Ya c1];refine⟨b,rfl,?_⟩;unfold Pf;by_cases c2:1<=b/\b<=10
   ·rw[ZZ (λz=>z c2)]at hR;rw[Ya c2];refine ite2 (λg=>?_) (λg=>?_)
    ·rw[Ya (Yg g)]at hR;exact⟨by simp,hR⟩
    ·rw[ZZ (λz=>g (Yb z))]at hR;refine⟨by simp,_,.lp (a,b) ws,ite2 (λg2=>?_) (λg2=>?_)⟩
     ·rw[Ya (Yg g2)]at hR;exact⟨by simp,hR⟩
     ·rw[ZZ (λz=>g2 (Yb z))]at hR;refine ite2 (λg3=>?_) (λg3=>?_)
      ·have g3':(20:Int)<=((ws.map prD).length:Int):=Yg g3;rw[Ya (by omega)]at hR;exact⟨by decide,by decide,by decide,by decide,by decide,by simp,hR⟩
      ·have g3':¬(20:Int)<=((ws.map prD).length:Int):=λz=>g3 (Yb z);rw[ZZ (by omega)]at hR;refine⟨by simp,by simp,Te _,rfl,Yn (QV (Yn (Wz hl) hz) (Yc 1)) (by decide),?_⟩;rw[Yu]at hR;exact hR
   ·rw[Ya c2]at hR;rw[ZZ c2];exact hR
  ·rw[Ya c1]at hR;rw[ZZ c1];exact hR
def IM(G:Glob K mg)(DD:Def K mg "pair_costs" N9 ["strips"])(Zc:P8 P w K mg base)(Zx:A7 P w K mg base)
  : BA P w K mg base:=by
 refine DD.oz (k:=1) KF (λ_ _ _ _ _ _ E hr=>⟨_,(Jg (Pu.pz 1 KF.nd (fz Zc hr (az (pv 0)))) (Jg (Pu.pz 2 KF.nd ET) (Jg (JZ Yw rfl (JG (K:=K) (pv 1)) (gz 3 KF.nd) (Jj (JZ Yw rfl (JG (K:=K) (pv 1)) (gz 4 KF.nd) (Jj (B6 (JH hr) (pv 2) (Ug (bz (pv 3) (pv 4))) (fz Zx hr (dz (pv 0) (pv 3) (pv 4))) rfl))))) (Jj (Jp (pv 2)))))), (Ji (Jo (Jr (sz (Jd 0))) (Jh 1)) (Ji (Jo IW (Jh 2)) (Ji (Jz 1 (JY [3,4] (UF (Jd 1)) (Jh 3) (Jz 1 (JY [4] (UF (Jd 1)) (Jh 4) (Jz 4 (Jz 3 (Sr 2 (Ue (tz (Jd 3) (Jd 4))) (Jr (uz (Jd 0) (Jd 3) (Jd 4)))))))))) (UR 2))))⟩) (.a λds R X h=>?_)
 ·obtain⟨ps,rfl,hF,hz,hR⟩:=h;refine⟨rfl,?_⟩;refine⟨ps,rfl,hF,hz,?_⟩;have hh:=X2 ps;generalize Js ps=hs at hh hR ⊢
  refine⟨rfl,UO (xs:=hs) (emb:=D.int) (λi γ'=>∃kvs:List (List Key×V),γ'=[some (.bor (.lst (ps.map prD))),some (.sh (.lst (hs.map D.int))),some (.own (.dT kvs)),none,none]/\kvs.length<=i*10/\
   ∀x∈hs.take i,∀y∈hs,valV kvs [.inl x,.inl y]=some (.int (pcM ps x y ps.length))) ⟨[],rfl,by simp,by simp⟩ ?_ ?_⟩
  ·rintro i hi γ' ⟨kvs,rfl,hl,hv⟩
   refine⟨rfl,UO (xs:=hs) (emb:=D.int) (λj γ'=>∃kvs:List (List Key×V),γ'=[some (.bor (.lst (ps.map prD))),some (.sh (.lst (hs.map D.int))),some (.own (.dT kvs)),some (.sh (.int hs[i])),none]/\kvs.length<=i*10+j/\
    (∀x∈hs.take i,∀y∈hs,valV kvs [.inl x,.inl y]=some (.int (pcM ps x y ps.length)))/\∀y∈hs.take j,valV kvs [.inl hs[i],.inl y]=some (.int (pcM ps hs[i] y ps.length))) ⟨kvs,rfl,by omega,hv,by simp⟩ ?_ ?_⟩
   ·rintro j hj γ' ⟨kvs,rfl,hl,hv,hw⟩;refine⟨ps,_,_,rfl,hF,by simp,_,_,rfl,rfl,by omega,_,rfl,Yn (Tp _ _ _) (by omega),λx hx y hy=>?_,λy hy=>?_⟩
    ·rw[Tv];by_cases e:([.inl x,.inl y]:List Key)=[.inl hs[i],.inl hs[j]]
     ·rw[Ya e];simp only[Qj,Sum.inl.injEq,and_true]at e;rw[e.1,e.2]
     ·rw[ZZ e];exact hv x hx y hy
    ·rw[Tv];by_cases e:([.inl hs[i],.inl y]:List Key)=[.inl hs[i],.inl hs[j]]
     ·rw[Ya e];simp only[Qj,Sum.inl.injEq,and_true]at e;rw[e.2]
     ·rw[ZZ e];rw[Yx hj,Yt,ZX]at hy;rcases hy with hy|hy
      ·exact hw y hy
      ·subst hy;exact absurd rfl e
   ·rintro γ' ⟨kvs,rfl,hl,hv,hw⟩;rw[YX]at hw;refine⟨kvs,rfl,by omega,λx hx y hy=>?_⟩;rw[Yx hi,Yt,ZX]at hx;rcases hx with hx|hx
    ·exact hv x hx y hy
    ·subst hx;exact hw y hy
  ·rintro γ' ⟨kvs,rfl,hl,hv⟩;rw[YX]at hv;exact hR kvs hv
def Em(G:Glob K mg)(DD:Def K mg "cost_with_last" SL ["members","last","least","pairs"])(Zh:TH P w K mg base)
  : Au P w K mg base:=by
 refine DD.oz (k:=1) CA (λ_ _ _ _ _ _ E hr=>⟨_,(Jg (Pu.pz 4 CA.nd (fz Zh hr (bz (pv 0) (pv 1)))) (Jj (Jp (Jl JU (KD (JH hr) (pv 2) (pv 4) (λ_ _=>rfl)) (Uc (Al (K:=K) rfl) (by rfl) G.sum boot_sum (az (Us (N':=["other","pairs","last"]) (φ:=[none,some 3,some 1]) rfl (Own.CompOk.of (by rfl)) (P6 (K:=K) (pv 4)) (λ_ _ _ _ _=>⟨(gz 0 (show(["other","pairs","last"]:List Str).Nodup from by decide +kernel)),US,(KD (JH hr) (pv 1) (Ug (bz (pv 0) (pv 2))) (λ_ _=>rfl))⟩)))))))), (Ji (Jo (Jr (tz (Jd 0) (Jd 1))) (Jh 4)) (Jz 1 (Jx (JT (PB (Jd 2) (Jd 4)) (D3 (sz (JX (SndI.c (KY (Jd 4))) (Jh 0) Xe (PB (Jd 1) (Ue (tz (Jd 0) (Jd 2)))))))))))⟩) (.a λds R X h=>?_)
 ·obtain⟨ms,l,le,pa,c,v,rfl,hz,hv,hc,hR⟩:=h;refine⟨rfl,?_⟩;rw[Pb];have hz':(Ju ms l).length<=1000:=Yn less_sub.length_le hz;refine⟨ms,l,rfl,hz,_,_,Ta _,hv,rfl,_,rfl,JW (s:=.sh .non) (xs:=Ju ms l) (emb:=D.int) (λm=>some (.int (c m))) (by omega) (λm hm=>?_) ?_⟩
  ·exact⟨by simp,_,_,rfl,hc m hm,rfl,_,rfl,rfl⟩
  ·rw[mapD];exact⟨(Ju ms l).map c,by rw[YL];rfl,hR⟩
def OB(G:Glob K mg)(DD:Def K mg "cost_with_first" Sg ["members","first","least","pairs"])(Zh:TH P w K mg base)
  : Cu P w K mg base:=by
 refine DD.oz (k:=1) Cb (λ_ _ _ _ _ _ E hr=>⟨_,(Jg (Pu.pz 4 Cb.nd (fz Zh hr (bz (pv 0) (pv 1)))) (Jj (Jp (Jl JU (KD (JH hr) (pv 2) (pv 4) (λ_ _=>rfl)) (Uc (Al (K:=K) rfl) (by rfl) G.sum boot_sum (az (Us (N':=["other","pairs","first"]) (φ:=[none,some 3,some 1]) rfl (Own.CompOk.of (by rfl)) (P6 (K:=K) (pv 4)) (λ_ _ _ _ _=>⟨(gz 0 (show(["other","pairs","first"]:List Str).Nodup from by decide +kernel)),US,(KD (JH hr) (pv 1) (Ug (bz (pv 2) (pv 0))) (λ_ _=>rfl))⟩)))))))), (Ji (Jo (Jr (tz (Jd 0) (Jd 1))) (Jh 4)) (Jz 1 (Jx (JT (PB (Jd 2) (Jd 4)) (D3 (sz (JX (SndI.c (KY (Jd 4))) (Jh 0) Xe (PB (Jd 1) (Ue (tz (Jd 2) (Jd 0)))))))))))⟩) (.a λds R X h=>?_)
 ·obtain⟨ms,l,le,pa,c,v,rfl,hz,hv,hc,hR⟩:=h;refine⟨rfl,?_⟩;rw[Pb];have hz':(Ju ms l).length<=1000:=Yn less_sub.length_le hz;refine⟨ms,l,rfl,hz,_,_,Ta _,hv,rfl,_,rfl,JW (s:=.sh .non) (xs:=Ju ms l) (emb:=D.int) (λm=>some (.int (c m))) (by omega) (λm hm=>?_) ?_⟩
  ·exact⟨by simp,_,_,rfl,hc m hm,rfl,_,rfl,rfl⟩
  ·rw[mapD];exact⟨(Ju ms l).map c,by rw[YL];rfl,hR⟩
def Ib(G:Glob K mg)(DD:Pu.DefM K (Meth K (ExcR.Jm mg "Village") "drop") "drop" "Village.drop" Nq ["self","ahead","behind"])(Zl:Sb P w K mg base)(Zy:AF P w K mg base)(Zm:NM P w K mg base)(Zb:XO P w K mg base)(Zd:Kl P w K mg base)
  : FS P w K mg base:=by
 refine DD.ox (k:=1) D5 (λ_ _ _ _ _ _ E hr=>⟨_,(Jg (Ub (Up Zl G.cl_Village (hr.mono (by decide)) ExcR.U8 (pv 0))) (Jg (Pu.pz 3 D5.nd (UH Zy (hr.mono (by decide)) ExcR.U8 (dz (Up Zb G.cl_Village (hr.mono (by decide)) Uq (pv 0)) (pv 1) (pv 2)))) (Jj (Jp (Tz Zm G.cl_Village (hr.mono (by decide)) Uq (pv 0) (dz (Ug (dz Pk (pv 1) (pv 2))) (Up Zd G.cl_Village (hr.mono (by decide)) Uq (pv 0)) (pv 3))))))), (Ji (UY (F6 DZ (Jd 0) J1)) (Ji (Jo (UJ (uz (U1 Ki (Jd 0) J1) (Jd 1) (Jd 2))) (Jh 3)) (Jz 2 (Jz 1 (Jz 3 (FY (Tf 0 FG (uz (Ue (uz KP (Jd 1) (Jd 2))) (U1 KJ (Jd 0) J1) (Jd 3)))))))))⟩) (.c λo ss R X h=>?_)
 ·obtain⟨x,b1,b2,b3,bk,fs,ws,f,w,p,h,rfl,rfl,hb,hf,hw,hz,hR⟩:=h;refine⟨rfl,?_⟩;unfold Tq at hR;refine⟨rfl,rfl,bk,fs++[f],ws++[w],rfl,?_⟩;unfold Td;by_cases c:100<=bk.length
  ·rw[Ya c]at hR ⊢;exact⟨_,rfl,⟨rfl,by simp⟩,hR⟩
  ·rw[ZZ c]at hR ⊢;refine⟨rfl,rfl,bk,fs++[f],ws,w,rfl,w,p,h,rfl,hz,?_⟩;cases e:Kw w p h with
   |some c=>
    rw[e]at hR;exact⟨_,rfl,⟨rfl,by simp⟩,hR⟩
   |none=>
    rw[e]at hR;refine⟨rfl,rfl,by simp,rfl,rfl,bk,fs,ws++[w],f,rfl,?_⟩;exact⟨x,b1,b2,b3,bk,fs++[f],ws++[w],("drop",[p,h]),f,Xn w p h,rfl,rfl,hb,by rw[Yl];simp;omega,by rw[Yl];simp;omega,_,rfl,⟨rfl,by simp⟩,hR⟩
def Ra(G:Glob K mg)(DD:Def K mg "_law_draw" SG ["_law_script","_law_k"])(Zn:S9 P w K mg base)(Ze:TJ P w K mg base)
  : To P w K mg base:=by
 refine DD.oz (k:=1) Hf (λ_ _ _ _ _ _ E hr=>⟨_,(Jg (J4 (cq K hr (Jl JJ (fz Ze hr (bz (pv 0) Jf)) Jf) Jf) (Jj (Jp (fz Ze hr (bz (pv 0) (Jl JU Jf (pv 1))))))
   JA) (Jj (Jp (fz Zn hr (bz (fz Ze hr (bz (pv 0) Jf)) (pv 1)))))), (Ji (J9 (Jv (Xr (JL (Jr (tz (Jd 0) Je)) Je) Je)) (Jx (Jr (tz (Jd 0) (JT Je (Jd 1))))) J7) (Jx (Jr (tz (Jr (tz (Jd 0) Je)) (Jd 1)))))⟩) (.a λds R X h=>?_)
 ·obtain⟨ns,k,rfl,hk,hR⟩:=h;refine⟨rfl,?_⟩;refine⟨ns,0,rfl,by decide,λv=>⟨(by show(0:Int)<2;decide),ite2 (λ_=>?_) (λ_=>?_)⟩⟩
  ·exact⟨ns,_,rfl,by omega,λv=>hR v⟩
  ·exact⟨ns,1,rfl,by decide,λu=>⟨_,_,rfl,λv=>hR v⟩⟩
def LP(G:Glob K mg)(DD:Def K mg "_law_spare" NA ["_law_script"])(Zn:S9 P w K mg base)(Ze:TJ P w K mg base)
  : Fc P w K mg base:=by
 refine DD.oz (k:=1) Es (λ_ _ _ _ _ _ E hr=>⟨_,(Jg (J4 (cq K hr (Jl JJ (fz Ze hr (bz (pv 0) Jf)) Jf) Jf) (Jj (Jp (Jl Ul (fz Ze hr (bz (pv 0) Jf)) Jf)))
   JA) (Jj (Jp (fz Zn hr (bz (fz Ze hr (bz (pv 0) Jf)) Jf))))), (Ji (J9 (Jv (Xr (JL (Jr (tz (Jd 0) Je)) Je) Je)) (Jx (Uu (Jr (tz (Jd 0) Je)) Je)) J7) (Jx (Jr (tz (Jr (tz (Jd 0) Je)) Je))))⟩) (.a λds R X h=>?_)
 ·obtain⟨ns,rfl,hR⟩:=h;refine⟨rfl,?_⟩;exact⟨ns,0,rfl,by decide,λv=>⟨(by show(0:Int)<2;decide),ite2 (λ_=>⟨ns,0,rfl,by decide,λu=>⟨⟨by decide,by decide⟩,hR _⟩⟩) (λ_=>⟨ns,1,rfl,by decide,λu=>⟨_,_,rfl,λz=>hR _⟩⟩)⟩⟩
def Ie(G:Glob K mg)(DD:Def K mg "_law_row" Nl ["_law_found","_law_due"])(Zi:TU P w K mg base)
  : TZ P w K mg base:=by
 refine DD.oz (k:=1) F7 (λ_ _ _ _ _ _ E hr=>⟨_,(Jg (J4 (PW.pt (U0 (Um (JR (K:=K) (Uc (XD (K:=K)) (by rfl) G.isinstance W5 (bz (pv 0) (Kc (v:=.ty "list") rfl G.list boot_list rfl))))) (U9 (cn K hr (ln K G.len (pv 0)) (ln K G.len (pv 1)))))) (Jj (Jp Uk))
   JA) (Jg (JZ Yw rfl (Xq rfl G.range (az (ln K G.len (pv 1)))) (gz 2 F7.nd) (Jj (J4 (PW.pt (U0 (Um (JR (K:=K) (fz Zi hr (az (jx K (pv 0) (pv 2)))))) (U9 (cn K hr (jx K (pv 0) (pv 2)) (jx K (pv 1) (pv 2)))))) (Jj (Jp Uk))
   JA))) (Jj (Jp Uk)))), (Ji (J9 (U3 (Ur (JQ (XX (tz (Jd 0) XM)))) (Jv (Km (JS (sz (Jd 0))) (JS (sz (Jd 1)))))) (Jx Uj) J7) (Ji (JY [2] (Xl (sz (JS (sz (Jd 1))))) (Jh 2) (J9 (U3 (Ur (JQ (Jr (sz (Jt (Jd 0) (Jd 2)))))) (Jv (Km (Jt (Jd 0) (Jd 2)) (Jt (Jd 1) (Jd 2))))) (Jx Uj) J7)) (Jx Uj)))⟩) (.a λds R X h=>?_)
 ·obtain⟨xs,rfl|rfl,hz,hR⟩:=h;refine⟨rfl,?_⟩
  ·have hl:(xs.map D.int).length=xs.length:=ZV ..;refine⟨_,.same _,iteF (K8 rfl ?_)⟩;refine⟨⟨by omega,by omega⟩,UX (λi γ'=>γ'=[some (.bor (.lst (xs.map D.int))),some (.bor (.lst (xs.map D.int))),none]) rfl ?_ ?_⟩
   ·rintro i γ' hi rfl;have hi':i<(((xs.map D.int).length:Nat):Int).toNat:=hi;have ez:(0:Int)+(i:Int)=(i:Int):=by omega
    have hb:i<xs.length:=by omega
    have ha:atI (xs.map D.int) (0+(i:Int))=some (.int xs[i]):=by rw[ez];exact Ks hb
    exact⟨_,ha,_,rfl,iteF ⟨_,ha,_,ha,K8 rfl rfl⟩⟩
   ·rintro γ' rfl;exact hR
  ·refine⟨rfl,?_⟩;have hl:(xs.map D.int).length=xs.length:=ZV ..;have hl2:((xs.length:Nat):Int)=(((xs.map D.int).length:Nat):Int):=by rw[hl]
   refine⟨_,.same _,iteF (K8 hl2 ?_)⟩;refine⟨⟨by omega,by omega⟩,UX (λi γ'=>γ'=[some (.sh (.fL xs)),some (.bor (.lst (xs.map D.int))),none]) rfl ?_ ?_⟩
   ·rintro i γ' hi rfl;have hi':i<(((xs.map D.int).length:Nat):Int).toNat:=hi;have ez:(0:Int)+(i:Int)=(i:Int):=by omega
    have hb:i<xs.length:=by omega
    have ha:atI (xs.map D.int) (0+(i:Int))=some (.int xs[i]):=by rw[ez];exact Ks hb
    have hc:atI xs (0+(i:Int))=some xs[i]:=by rw[ez];exact KI (ZU hb)
    exact⟨_,hc,_,rfl,iteF ⟨_,hc,_,ha,K8 rfl rfl⟩⟩
   ·rintro γ' rfl;exact hR
def I0(G:Glob K mg)(DD:Def K mg "_law_tuples" NY ["_law_found","_law_due"])(Zi:TU P w K mg base)
  : CC P w K mg base:=by
 refine DD.oz (k:=1) NQ (λ_ _ _ _ _ _ E hr=>⟨_,(Jg (J4 (PW.pt (U0 (Um (JR (K:=K) (Uc (XD (K:=K)) (by rfl) G.isinstance W5 (bz (pv 0) (Kc (v:=.ty "list") rfl G.list boot_list rfl))))) (U9 (cn K hr (ln K G.len (pv 0)) (ln K G.len (pv 1)))))) (Jj (Jp Uk))
   JA) (Jg (JZ Yw rfl (Xq rfl G.range (az (ln K G.len (pv 1)))) (gz 2 NQ.nd) (Jg (J4 (PW.pt (U0 (Um (JR (K:=K) (Uc (XD (K:=K)) (by rfl) G.isinstance W5 (bz (jx K (pv 0) (pv 2)) (Kc (v:=.ty "tuple") rfl G.tuple boot_tuple rfl))))) (U9 (cn K hr (ln K G.len (jx K (pv 0) (pv 2))) (ln K G.len (jx K (pv 1) (pv 2))))))) (Jj (Jp Uk))
   JA) (Jj (JZ Yw rfl (Xq rfl G.range (az (ln K G.len (jx K (pv 1) (pv 2))))) (gz 3 NQ.nd) (Jj (J4 (PW.pt (U0 (Um (JR (K:=K) (fz Zi hr (az (jx K (jx K (pv 0) (pv 2)) (pv 3)))))) (U9 (cn K hr (jx K (jx K (pv 0) (pv 2)) (pv 3)) (jx K (jx K (pv 1) (pv 2)) (pv 3)))))) (Jj (Jp Uk))
   JA)))))) (Jj (Jp Uk)))), (Ji (J9 (U3 (Ur (JQ (XX (tz (Jd 0) XM)))) (Jv (Km (JS (sz (Jd 0))) (JS (sz (Jd 1)))))) (Jx Uj) J7) (Ji (JY [2,3] (Xl (sz (JS (sz (Jd 1))))) (Jh 2) (Ji (J9 (U3 (Ur (JQ (XX (tz (Jt (Jd 0) (Jd 2)) XM)))) (Jv (Km (JS (sz (Jt (Jd 0) (Jd 2)))) (JS (sz (Jt (Jd 1) (Jd 2))))))) (Jx Uj) J7) (JY [3] (Xl (sz (JS (sz (Jt (Jd 1) (Jd 2)))))) (Jh 3) (J9 (U3 (Ur (JQ (Jr (sz (Jt (Jt (Jd 0) (Jd 2)) (Jd 3)))))) (Jv (Km (Jt (Jt (Jd 0) (Jd 2)) (Jd 3)) (Jt (Jt (Jd 1) (Jd 2)) (Jd 3))))) (Jx Uj) J7)))) (Jx Uj)))⟩) (.a λds R X h=>?_)
 ·obtain⟨ps,rfl,hz,hR⟩:=h;refine⟨rfl,?_⟩;have hl:(ps.map prD).length=ps.length:=ZV ..;refine⟨_,.same _,iteF (K8 rfl ?_)⟩;refine⟨⟨by omega,by omega⟩,UX (λi γ'=>∃t,γ'=[some (.bor (.lst (ps.map prD))),some (.bor (.lst (ps.map prD))),none,t]) ⟨_,rfl⟩ ?_ ?_⟩
  ·rintro i γ' hi ⟨t,rfl⟩;have hi':i<(((ps.map prD).length:Nat):Int).toNat:=hi;have ez:(0:Int)+(i:Int)=(i:Int):=by omega
   have hb:i<ps.length:=by omega
   have ha:atI (ps.map prD) (0+(i:Int))=some (prD ps[i]):=by rw[ez];exact Ks hb
   generalize ps[i]=q at ha;refine⟨_,ha,_,.same _,iteF ⟨_,ha,_,ha,?_⟩⟩;refine⟨_,ha,⟨(by show -(2 ^ 62)<=(2:Int);decide),(by show(2:Int)<2 ^ 62;decide)⟩,UX (λj γ'=>∃t,γ'=[some (.bor (.lst (ps.map prD))),some (.bor (.lst (ps.map prD))),some (.sh (.int (0+(i:Int)))),t]) ⟨_,rfl⟩ ?_ ?_⟩
   ·rintro j γ' hj ⟨t,rfl⟩;have hj2:j<2:=hj
    obtain⟨z,ea⟩:∃z:Int,atI [D.int q.1,D.int q.2] (0+(j:Int))=some (.int z):=by
     have:j=0\/j=1:=by omega
     rcases this with rfl|rfl
     ·exact⟨_,rfl⟩
     ·exact⟨_,rfl⟩
    exact⟨_,ha,_,ea,z,rfl,iteF ⟨_,ha,_,ea,_,ha,_,ea,K8 rfl ⟨_,rfl⟩⟩⟩
   ·rintro γ' ⟨t,rfl⟩;exact⟨_,rfl⟩
  ·rintro γ' ⟨t,rfl⟩;exact hR
def Rx(G:Glob K mg)(DD:Def K mg "_law_is_ring" Bk ["_law_ring","_law_holders","_law_wishes_here"])(Zi:TU P w K mg base)
  : Ea P w K mg base:=by
 refine DD.oz (k:=1) Fs (λ_ _ _ _ _ _ E hr=>⟨_,(Jg (J4 (PW.pt (U0 (Um (JR (K:=K) (Uc (XD (K:=K)) (by rfl) G.isinstance W5 (bz (pv 0) (Kc (v:=.ty "list") rfl G.list boot_list rfl))))) (U9 (J2 Kn (ln K G.len (pv 0)) Jf (JN _))))) (Jj (Jp Uk))
   JA) (Jg (JZ Yw rfl (Xq rfl G.range (az (ln K G.len (pv 0)))) (gz 3 Fs.nd) (Jg (J4 (PW.pt (U0 (Um (JR (K:=K) (fz Zi hr (az (jx K (pv 0) (pv 3)))))) (U0 (J2 (XY (K:=K) (show _<cLine from JH hr)) (jx K (pv 0) (pv 3)) (pv 1) (by with_unfolding_all rfl)) (U9 (J2 (UG (K:=K) (show _<cLine from JH hr)) (jx K (pv 0) (pv 3)) (Ke (XJ (K:=K)) (pv 0) Kb (XN (pv 3))) (by with_unfolding_all rfl)))))) (Jj (Jp Uk))
   JA) (Jj (J4 (PW.pt (XT (J2 Xj (pv 3) Jf (JN _)) (Ky (J2 (XY (K:=K) (show _<cLine from JH hr)) (Ug (bz (jx K (pv 0) (Jl Tw (pv 3) Jf)) (jx K (pv 0) (pv 3)))) (pv 2) (by with_unfolding_all rfl))))) (Jj (Jp Uk))
   JA)))) (Jj (Jp (K0 (UG (K:=K) (show _<cLine from JH hr)) (Ug (bz (jx K (pv 0) (Xz X3 Jf)) (jx K (pv 0) Jf))) (pv 2) (by with_unfolding_all rfl)))))), (Ji (J9 (U3 (Ur (JQ (XX (tz (Jd 0) XM)))) (Jv (Kq (JS (sz (Jd 0))) Je))) (Jx Uj) J7) (Ji (JY [3] (Xl (sz (JS (sz (Jd 0))))) (Jh 3) (Ji (J9 (U3 (Ur (JQ (Jr (sz (Jt (Jd 0) (Jd 3)))))) (U3 (Jv (Ud (Jt (Jd 0) (Jd 3)) (Jd 1))) (Jv (Ud (Jt (Jd 0) (Jd 3)) (XQ (Jd 0) XZ (XG (Jd 3))))))) (Jx Uj) J7) (J9 (Kd (Jv (Xs (Jd 3) Je)) (Jv (Ud (Ue (tz (Jt (Jd 0) (Na (Jd 3) Je)) (Jt (Jd 0) (Jd 3)))) (Jd 2)))) (Jx Uj) J7))) (Jx (Ud (Ue (tz (Jt (Jd 0) (Kf Je)) (Jt (Jd 0) Je))) (Jd 2)))))⟩) (.a λds R X h=>?_)
 ·obtain⟨rs,hs,ws,rfl,hz,Rg,hR⟩:=h;refine⟨rfl,?_⟩;have two:=Rg.two;have hl:(rs.map D.int).length=rs.length:=ZV ..;refine⟨_,.same _,iteF ?_⟩;show if decide ((((rs.map D.int).length:Nat):Int)<2)=true then _ else _;rw[Ym (by rw[hl];omega)];refine iteF ?_;refine⟨⟨by omega,by omega⟩,UX (λi γ'=>γ'=[some (.bor (.lst (rs.map D.int))),some (.bor (.lst (hs.map D.int))),some (.bor (.lst (ws.map prD))),none]) rfl ?_ ?_⟩
  ·rintro i γ' hi rfl;have hi':i<(((rs.map D.int).length:Nat):Int).toNat:=hi;have ez:(0:Int)+(i:Int)=(i:Int):=by omega
   have hb:i<rs.length:=by omega
   have ha:atI (rs.map D.int) (0+(i:Int))=some (.int rs[i]):=by rw[ez];exact Ks hb
   refine⟨_,ha,_,rfl,iteF ⟨_,ha,_,.li _ _,?_⟩⟩;show if (!decide (rs[i]∈hs))=true then _ else _;rw[Yb (Rg.sub _ (Yr hb))];refine iteF ⟨_,ha,KN _,?_⟩
   have ec:cutD (rs.map D.int) none (some (0+(i:Int)))=(rs.take i).map D.int:=by
    rw[Kh,Nt rs (by omega),ez,YA]
   show ∃b,InR (.int rs[i]) (.lst (cutD (rs.map D.int) none (some (0+(i:Int))))) b/\_;rw[ec];refine⟨_,.li _ _,?_⟩;show if decide (rs[i]∈rs.take i)=true then _ else _
   have hni:rs[i]∉rs.take i:=λz=>by
    obtain⟨j,hj,e⟩:=Y9.mp z;rw[Y7]at hj;rw[Wr]at e
    have:=(Vg (h₀:=by omega) (h₁:=hb) Rg.nodup).mp e
    omega
   rw[Ym hni];refine iteF (ite2 (λg=>?_) (λg=>iteF rfl));have g':0<(0:Int)+(i:Int):=Yg g
   have ha':atI (rs.map D.int) (0+(i:Int)-1)=some (.int rs[i-1]):=by
    rw[show(0:Int)+(i:Int)-1=((i-1:Nat):Int) by omega];exact Ks (by omega)
   refine⟨_,ha',_,ha,by simp,_,.lp (rs[i-1],rs[i]) ws,?_⟩;show if (!decide ((rs[i-1],rs[i])∈ws))=true then _ else _;rw[Yb (Rg.chain (i-1) _ _ (ZU (by omega)) (by rw[show i-1+1=i by omega];exact ZU hb))];exact iteF rfl
  ·rintro γ' rfl;have hb0:0<rs.length:=by omega
   have hbl:rs.length-1<rs.length:=by omega
   have a1:atI (rs.map D.int) (-1)=some (.int rs[rs.length-1]):=by
    refine Uv (f:=D.int) ?_;unfold atI ixN;rw[ZZ (by omega),Ya (by omega)];show rs[_]?=_;rw[show((-1:Int)+(rs.length:Int)).toNat=rs.length-1 by omega];exact ZU hbl
   have a2:atI (rs.map D.int) 0=some (.int rs[0]):=Ks hb0;refine⟨_,a1,_,a2,by simp,_,.lp (rs[rs.length-1],rs[0]) ws,?_⟩;show R (.sh (.bl (decide ((rs[rs.length-1],rs[0])∈ws))));rw[Yb (Rg.last _ _ (ZU hb0) (ZU hbl))];exact hR
def Ej(G:Glob K mg)(DD:Def K mg "find_ring" NB ["holders","wishes"])(Zz:FJ P w K mg base)
  : Nu P w K mg base:=by
 refine DD.oz (k:=2) KL (λ_ _ _ _ _ _ E hr=>⟨_,(Jg (Pu.pz 2 KL.nd (JD J8)) (Jg (JZ Yw rfl (JG (K:=K) (Uc (Bo (K:=K) (w:=w) rfl) (by rfl) G.sorted boot_sorted (az (pv 0)))) (gz 3 KL.nd) (Jg (Pu.pz 4 KL.nd (fz Zz hr (dz (pv 3) (pv 0) (pv 1)))) (Jj (J4 (PW.pt (XT (JR (K:=K) (pv 4)) (Ky (PW.pt (U0 (Um (JR (K:=K) (pv 2))) (U9 (J2 Kn (ln K G.len (pv 4)) (ln K G.len (pv 2)) (JN _)))))))) (Jj (Pu.pz 2 KL.nd (pv 4)))
   JA)))) (Jj (Jp (pv 2))))), (Ji (Jo (JI J1) (Jh 2)) (Ji (Jz 2 (JY [3,4] (UF (Sk (sz (Jd 0)))) (Jh 3) (Ji (Jo (Jr (uz (Jd 3) (Jd 0) (Jd 1))) (Jh 4)) (J9 (Kd (JQ (Jd 4)) (U3 (Ur (JQ (Jd 2))) (Jv (Kq (JS (sz (Jd 4))) (JS (sz (Jd 2))))))) (Jz 4 (Jo (Jd 4) (Jh 2))) J7)))) (Jz 2 (UR 2))))⟩) (.a λds R X h=>?_)
 ·obtain⟨hs,ws,rfl,hnd,hz,hR⟩:=h;refine⟨rfl,?_⟩;refine⟨by simp,hs,rfl,by omega,λns hp hsrt=>?_⟩;have hlt:ns.Pairwise (· < ·):=T5 hsrt (hp.nodup_iff.mpr hnd);refine⟨rfl,UO (xs:=ns) (emb:=D.int) (λi γ'=>∃r,γ'=[some (.bor (.lst (hs.map D.int))),some (.bor (.lst (ws.map prD))),some (.sh (.lst (r.map D.int))),none,none]/\r.length<=60/\FRi hs ws (ns.take i) r) ⟨[],rfl,by simp,.inl ⟨rfl,λl hl=>by rw[Qs]at hl;cases hl⟩⟩ ?_ ?_⟩
  ·rintro i hi γ' ⟨r,rfl,hrl,F⟩
   have hbef:∀m∈ns.take i,m<ns[i]:=λm hm=>by
    obtain⟨j,hj,e⟩:=Y9.mp hm;rw[Y7]at hj;rw[Wr]at e;rw[←e];exact YN.mp hlt j i (by omega) hi (by omega)
   rw[Yx hi];generalize ns[i]=l at hbef ⊢;refine⟨l,hs,ws,rfl,hnd,hz,λf hf hfl=>?_⟩;have ef:(!(f.map D.int).isEmpty)=decide (f≠[]):=by cases f<;>simp
   have er:(!(r.map D.int).isEmpty)=decide (r≠[]):=by cases r<;>simp
   show if (!(f.map D.int).isEmpty)=true then _ else _;rw[ef];refine ite2 (λg=>?_) (λg=>iteF ⟨r,rfl,hrl,F.keep hbef hf (.inl (YC λz=>g (Yb z)))⟩);have hfe:f≠[]:=Yg g;show if (!(!(r.map D.int).isEmpty))=true then _ else _;rw[er];by_cases hre:r=[]
   ·rw[Ym (λz=>z hre)];exact iteT (iteT ⟨f,rfl,hfl,F.take hbef hf ⟨hfe,.inl hre⟩⟩)
   ·rw[Yb hre];refine iteF ?_;show if decide (((f.map D.int).length:Int)<((r.map D.int).length:Int))=true then _ else _;rw[ZV,ZV];refine ite2 (λg2=>?_) (λg2=>?_)
    ·have:=Yg g2
     exact⟨f,rfl,hfl,F.take hbef hf ⟨hfe,.inr (by omega)⟩⟩
    ·have:¬(f.length:Int)<(r.length:Int):=λz=>g2 (Yb z)
     exact⟨r,rfl,hrl,F.keep hbef hf (.inr ⟨hre,by omega⟩)⟩
  ·rintro γ' ⟨r,rfl,hrl,F⟩;rw[YX]at F;exact hR r (F.all λz=>hp.mem_iff) hrl
def Lm(G:Glob K mg)(DD:Def K mg "least_costs" Nj ["strips","wishes","pairs"])(Z0:Fd P w K mg base)(Zc:P8 P w K mg base)(Z1:Dq P w K mg base)(Z2:Au P w K mg base)
  : SN P w K mg base:=by
 refine DD.oz (k:=2) Tx (λ_ _ _ _ _ _ E hr=>⟨_,(Jg (Pu.pz 3 Tx.nd (M4 (JH hr) (Ug J8) Jf)) (Jg (JZ Yw rfl (JG (K:=K) (Ke (XJ (K:=K)) (fz Z0 hr (az (fz Zc hr (az (pv 0))))) (XN Jf) Kb)) (gz 4 Tx.nd) (Jg (X9 (N':=["holder","members","wishes"]) (φ:=[none,some 4,some 1]) (i:=5) Tx.nd rfl rfl rfl (Own.CompOk.of (by rfl)) (P6 (K:=K) (pv 4)) (λ_ _ _ _ _=>⟨(gz 0 (show(["holder","members","wishes"]:List Str).Nodup from by decide +kernel)),(UD (JR (K:=K) (fz Z1 hr (dz (pv 1) (pv 0) (pv 2))))),(pv 0)⟩)) (Jj (B6 (JH hr) (pv 3) (pv 4) (Uc (MN (K:=K) rfl) (by rfl) G.min boot_min (az (Us (N':=["last","members","least","pairs"]) (φ:=[none,some 4,some 3,some 2]) rfl (Own.CompOk.of (by rfl)) (JG (K:=K) (pv 5)) (λ_ _ _ _ _=>⟨(gz 0 (show(["last","members","least","pairs"]:List Str).Nodup from by decide +kernel)),US,(fz Z2 hr (J0 (pv 1) (J0 (pv 0) (J0 (pv 2) (J0 (pv 3) J8)))))⟩)))) rfl)))) (Jj (Jp (pv 3))))), (Ji (Jo (GS (Ue J1) Je) (Jh 3)) (Ji (JY [4,5] (UF (XQ (Jr (sz (Jr (sz (Jd 0))))) (XG Je) XZ)) (Jh 4) (Ji (Jo (JX (SndI.c (KY (Jd 4))) (Jh 0) (JQ (Jr (uz (Jd 1) (Jd 0) (Jd 2)))) (Jd 0)) (Jh 5)) (Sr 3 (Jd 4) (G4 (sz (JX (Uo (Jd 5)) (Jh 0) Xe (Jr (JC (Jd 1) (JC (Jd 0) (JC (Jd 2) (JC (Jd 3) J1))))))))))) (UR 3)))⟩) (.a λds R X h=>?_)
 ·obtain⟨ps,ws,pa,c,rfl,hF,hz,hw,hu,hc,hL,hR⟩:=h;refine⟨rfl,?_⟩;refine⟨by simp,_,_,rfl,rfl,?_⟩;refine⟨ps,rfl,hF,hz,_,rfl,X2 ps,?_⟩;have hh:=X2 ps;have nd:(Js ps).Nodup:=(Xc ps).imp (λh=>WI h);generalize Js ps=hs at hh nd hc hL hR ⊢;have hsl:=Fm hs;have hsub:=Pa hs;have hbef:=AK nd;have hsn:=CF nd
  have hlen:(J6 hs).length<=1024:=by
   rw[hsl];exact Nat.pow_le_pow_right (j:=10) (by decide) hh
  obtain⟨T,eT⟩:=LU hs;rw[eT]at hsub hbef hsn hlen hR ⊢;refine⟨rfl,rfl,?_⟩
  have ec:Pu.cutD (List.map tD ([]::T)) (some 1) none=T.map tD:=by
   rw[Kh,Dl _ (by decide)];rfl
  rw[ec];refine UO (xs:=T) (emb:=tD) (λi γ'=>∃kvs:List (List Key×V),γ'=[some (.bor (.lst (ps.map prD))),some (.bor (.lst (ws.map prD))),some (.bor (.dT pa)),some (.own (.dT kvs)),none,none]/\Tab ws c ([]::T.take i) kvs) ⟨_,rfl,RW ws c⟩ ?_ ?_
  ·rintro i hi γ' ⟨kvs,rfl,ht⟩;have em:([]::T)[i+1]?=some T[i]:=by rw[WK,ZU hi]
   have hmem:T[i]∈[]::T:=Yv em;have hsm:=hsub _ hmem;have hne:T[i]≠[]:=λe=>(Y8.mp hsn).1 (e▸Yr hi)
   have hnew:T[i]∉[]::T.take i:=λz=>by
    rcases Yh.mp z with z|z
    ·exact hne z
    ·obtain⟨j,hj,e⟩:=Y9.mp z;rw[Y7]at hj;rw[Wr]at e;exact YN.mp (Y8.mp hsn).2 j i (by omega) hi (by omega) e
   have hml:T[i].length<=10:=Yn hsm.length_le hh
   have hless:∀l∈T[i],Ju T[i] l∈[]::T.take i:=λl hl=>by
    obtain⟨j,hj,e⟩:=hbef (i+1) _ em l hl
    have:([]::T.take i)=([]::T).take (i+1):=by rw[List.take_succ_cons]
    rw[this];refine Yv (i:=j) ?_;rw[Wc hj];exact e
   have ndm:T[i].Nodup:=nd.sublist hsm
   have hkl:kvs.length<=1024:=by
    have:=YD List.length ht.keys
    rw[ZV,ZV,Y1,Y7]at this;rw[Y1]at hlen;omega
   have etk:[]::T.take (i+1)=([]::T.take i)++[T[i]]:=by rw[Yx hi];rfl
   rw[etk];generalize T[i]=ms at *;obtain⟨vs,hvs⟩:=FK λl hl=>ht.val _ (hless l hl);obtain⟨l0,hl0,hl0'⟩:=hL ms hsm hne;refine⟨_,rfl,JW (s:=.sh .non) (xs:=ms) (emb:=D.int) (λh=>if Xh ws ms h=true then some (.int h)else none) (by omega) (λh hm=>?_) ?_⟩
   ·refine⟨ms,h,ws,rfl,hw,?_⟩;refine ite2 (λg=>⟨_,rfl,Ya g⟩) (λg=>ZZ g)
   ·rw[Uy (λh=>Xh ws ms h)];refine JW (xs:=ms.filter (λh=>Xh ws ms h)) (emb:=D.int) (λl=>some (.int (vs l+((Ju ms l).map (c · l)).sum))) (Yn (YG _ _) (by omega)) (λl hl=>?_) ?_
    ·obtain⟨hl1,hl2⟩:=Y2.mp hl;exact⟨ms,l,kvs,pa,(c · l),vs l,rfl,by omega,(hvs l hl1).1,λm hm=>hc m (hsm.subset (less_sub.subset hm)) l (hsm.subset hl1),_,rfl,rfl⟩
    ·rw[mapD];refine⟨(ms.filter (λh=>Xh ws ms h)).map λl=>vs l+((Ju ms l).map (c · l)).sum,by rw[YL];rfl,?_,λM hM hle=>⟨_,_,Ta ms,rfl,by omega,_,rfl,ht.put hnew (Ew ndm hu (λl hl=>(hvs l hl).2) ?_ ?_)⟩⟩
     ·rw[ZV];exact List.length_pos_of_mem (Y2.mpr ⟨hl0,lastM_iff.mpr hl0'⟩)
     ·obtain⟨l,hl,e⟩:=Y4.mp hM;obtain⟨hl1,hl2⟩:=Y2.mp hl;exact⟨l,hl1,hl2,e.symm⟩
     ·intro l hl hlast;exact hle _ (Y4.mpr ⟨l,Y2.mpr ⟨hl,hlast⟩,rfl⟩)
  ·rintro γ' ⟨kvs,rfl,ht⟩;rw[YX]at ht;exact hR kvs ht
def MX(G:Glob K mg)(DD:Pu.DefM K (Mk K (ExcR.Jm mg "Village")) "__init__" "Village.__init__" Ni ["self","strips"])(Z3:Ah P w K mg base)
  : Dy P w K mg base:=by
 refine DD.ox (k:=2) Ll (λ_ _ _ _ _ _ E hr=>⟨_,(Jg (Ub (UH Z3 (hr.mono (by decide)) ExcR.U8 (az (pv 1)))) (Jg (SD (pv 0) (JD J8) rfl) (Jg (SD (pv 0) (JD (az (UT (Ph (K:=K)) (by rfl) G.list boot_list (az (pv 1))))) rfl) (Jj (SD (pv 0) (JD (az (JD J8))) rfl))))), (Ji (UY (UJ (sz (Jd 1)))) (Ji (Bt 0 G.cl_Village G.n_Village_book Oy (JI J1)) (Ji (Bt 0 G.cl_Village G.n_Village_fields LJ (JI (sz (Pg (sz (Jd 1)))))) (Bt 0 G.cl_Village G.n_Village_wished OM (JI (sz (JI J1)))))))⟩) (.c λo ss R X h=>?_)
 ·obtain⟨x,ps,rfl,rfl,hz,hR⟩:=h;refine⟨rfl,?_⟩;refine⟨ps,rfl,hz,?_⟩;cases e:K4 ps with
  |some c=>
   rw[e]at hR;exact⟨_,rfl,⟨rfl,by simp⟩,hR⟩
  |none=>
   rw[e]at hR;refine⟨by simp,rfl,rfl,by decide,λb1=>?_⟩;refine⟨rfl,by simp,rfl,rfl,by decide,λb2=>?_⟩;refine⟨by simp,by simp,rfl,rfl,by decide,λb3=>?_⟩;exact⟨_,rfl,⟨rfl,by simp⟩,hR b1 b2 b3⟩
def Ls(G:Glob K mg)(DD:Pu.DefM K (Meth K (ExcR.Jm mg "Village") "wish") "wish" "Village.wish" Nx ["self","ahead","behind"])(Zl:Sb P w K mg base)(Z4:CQ P w K mg base)(Zm:NM P w K mg base)(Zb:XO P w K mg base)(Zd:Kl P w K mg base)
  : CD P w K mg base:=by
 refine DD.ox (k:=2) AM (λ_ _ _ _ _ _ E hr=>⟨_,(Jg (Ub (Up Zl G.cl_Village (hr.mono (by decide)) ExcR.U8 (pv 0))) (Jg (Pu.pz 3 AM.nd (UH Z4 (hr.mono (by decide)) ExcR.U8 (dz (Up Zb G.cl_Village (hr.mono (by decide)) Uq (pv 0)) (pv 1) (pv 2)))) (Jj (Jp (Tz Zm G.cl_Village (hr.mono (by decide)) Uq (pv 0) (dz (Ug (dz Pk (pv 1) (pv 2))) (Up Zd G.cl_Village (hr.mono (by decide)) Uq (pv 0)) (pv 3))))))), (Ji (UY (F6 DZ (Jd 0) J1)) (Ji (Jo (UJ (uz (U1 Ki (Jd 0) J1) (Jd 1) (Jd 2))) (Jh 3)) (Jz 2 (Jz 1 (Jz 3 (FY (Tf 0 FG (uz (Ue (uz KP (Jd 1) (Jd 2))) (U1 KJ (Jd 0) J1) (Jd 3)))))))))⟩) (.c λo ss R X h=>?_)
 ·obtain⟨x,b1,b2,b3,bk,fs,ws,f,w,p,h,rfl,rfl,hb,hf,hw,hz,hR⟩:=h;refine⟨rfl,?_⟩;unfold B9 at hR;refine⟨rfl,rfl,bk,fs++[f],ws++[w],rfl,?_⟩;unfold Td;by_cases c:100<=bk.length
  ·rw[Ya c]at hR ⊢;exact⟨_,rfl,⟨rfl,by simp⟩,hR⟩
  ·rw[ZZ c]at hR ⊢;refine⟨rfl,rfl,bk,fs++[f],ws,w,rfl,w,p,h,rfl,hz,?_⟩;cases e:Xp w p h with
   |some c=>
    rw[e]at hR;exact⟨_,rfl,⟨rfl,by simp⟩,hR⟩
   |none=>
    rw[e]at hR;refine⟨rfl,rfl,by simp,rfl,rfl,bk,fs,ws++[w],f,rfl,?_⟩;exact⟨x,b1,b2,b3,bk,fs++[f],ws++[w],("wish",[p,h]),f,w++[(p,h)],rfl,rfl,hb,by rw[Yl];simp;omega,by rw[Yl];simp;omega,_,rfl,⟨rfl,by simp⟩,hR⟩
def HE(G:Glob K mg)(DD:Def K mg "_law_strips" Bm ["_law_script","_law_menu_here","_law_many"])(Zf:To P w K mg base)(Zk:BE P w K mg base)
  : Ff P w K mg base:=by
 refine DD.oz (k:=2) P1 (λ_ _ _ _ _ _ E hr=>⟨_,(Jg (Pu.pz 3 P1.nd (JD J8)) (Jg (JZ Yw rfl (Xq rfl G.range (az (pv 2))) (gz 4 P1.nd) (Jg (Pu.pz 5 P1.nd (fz Zf hr (bz (pv 0) (Jl JU Jf (pv 4))))) (Jg (Pu.pz 6 P1.nd (Jl JU (jx K (pv 1) Jf) (Jl JJ (Jl Ul (pv 5) (jx K (pv 1) Jf)) (jx K (pv 1) Jf)))) (Jj (Ub (UP Y6 YI YJ UU (pv 3) (az (Ug (bz (fz Zk hr (bz (pv 1) (Jl JJ (pv 5) (jx K (pv 1) Jf)))) (pv 6)))))))))) (Jj (Jp (pv 3))))), (Ji (Jo (JI J1) (Jh 3)) (Ji (JY [4,5,6] (Xl (sz (Jd 2))) (Jh 4) (Ji (Jo (Jr (tz (Jd 0) (JT Je (Jd 4)))) (Jh 5)) (Ji (Jo (JT (Jt (Jd 1) Je) (JL (Uu (Jd 5) (Jt (Jd 1) Je)) (Jt (Jd 1) Je))) (Jh 6)) (Jz 6 (P0 3 (Ue (tz (Jr (tz (Jd 1) (JL (Jd 5) (Jt (Jd 1) Je)))) (Jd 6)))))))) (UR 3)))⟩) (.a λds R X h=>?_)
 ·obtain⟨ns,m,n,rfl,hM,h0,h1,hR⟩:=h;refine⟨rfl,?_⟩;have hMM:=hM;obtain⟨a,b,c,d,e,rfl,ha,hb,hc,hd,he⟩:=hM;refine⟨by simp,⟨by omega,by omega⟩,UX (λi γ'=>∃ps:List (Int×Int),γ'=[some (.bor (.scr ns)),some (.bor (.lst (([a,b,c,d,e]:List Int).map D.int))),some (.sh (.int n)),some (.own (ps.map prD)),none,none,none]/\Field ps/\ps.length=i) ⟨[],rfl,(λq hq=>by cases hq),rfl⟩ ?_ ?_⟩
  ·rintro i γ' hi ⟨ps,rfl,hF,hl⟩;have hlm:(ps.map prD).length=ps.length:=ZV ..;have hi':i<n.toNat:=hi;refine⟨ns,_,rfl,by omega,λv=>?_⟩;have q1:=Wg (v / a) (show d≠0 by omega);have q2:=Wd (v / a) (show 0<d by omega);refine⟨_,rfl,_,rfl,⟨by omega,by omega⟩,_,rfl,(by show 0<d;omega),_,rfl,(by show 0<a;omega),[a,b,c,d,e],_,rfl,hMM,λh l1 l2 _=>⟨by simp,by omega,ps++[(h,e+v / a % d)],?_,λq hq=>?_,by rw[Yl,hl];rfl⟩⟩
   ·rw[Yu];rfl
   ·rcases Yt.mp hq with hq|hq
    ·exact hF q hq
    ·rw[ZX]at hq;subst hq;exact⟨l1,l2,by show 1<=e+v / a % d;omega,by show e+v / a % d<=1000;omega⟩
  ·rintro γ' ⟨ps,rfl,hF,hl⟩;exact hR ps hF hl
def ED(G:Glob K mg)(DD:Def K mg "_law_wishes" Nr ["_law_script","_law_menu_here"])(Zf:To P w K mg base)(Zk:BE P w K mg base)
  : Fz P w K mg base:=by
 refine DD.oz (k:=2) Xb (λ_ _ _ _ _ _ E hr=>⟨_,(Jg (Pu.pz 2 Xb.nd (fz Zf hr (bz (pv 0) Jf))) (Jg (Pu.pz 3 Xb.nd (jx K (JD (bz Jf (Uc (MA rfl) (by rfl) G.max boot_max (bz Jf (jx K (pv 1) Jf))))) (Jl JJ (Jl Ul (pv 2) Jf) Jf))) (Jg (Pu.pz 4 Xb.nd (JD J8)) (Jg (JZ Yw rfl (Xq rfl G.range (az (Jl JJ (pv 2) Jf))) (gz 5 Xb.nd) (Jg (Pu.pz 6 Xb.nd (fz Zf hr (bz (pv 0) (Jl JU Jf (pv 5))))) (Jg (Pu.pz 7 Xb.nd (Jl JJ (pv 6) (pv 3))) (Jg (Pu.pz 8 Xb.nd (Jl JJ (Jl JU (Jl JU (pv 7) Jf) (Jl JJ (Jl Ul (pv 6) (pv 3)) (Jl Tw (pv 3) Jf))) (pv 3))) (FC (J4 (PW.pt (XT (J2 Xj (Jl JJ (Jl Ul (pv 2) Jf) Jf) Jf (JN _)) (Ky (J2 Xj (pv 7) (pv 8) (JN _))))) (Jj (RS (i:=7) (j:=8) rfl Xb.nd rfl rfl (by decide) rfl rfl (bz (pv 8) (pv 7)) (by rfl)))
   JA) (Jg (Pu.pz 9 Xb.nd (Ug (bz (fz Zk hr (bz (pv 1) (pv 7))) (fz Zk hr (bz (pv 1) (pv 8)))))) (Jj (J4 (J2 (XY (K:=K) (show _<cLine from JH hr)) (pv 9) (pv 4) (by with_unfolding_all rfl)) (Jj (Ub (UP Y6 YI YJ UU (pv 4) (az (pv 9)))))
   JA)))))))) (Jj (Jp (pv 4))))))), (Ji (Jo (Jr (tz (Jd 0) Je)) (Jh 2)) (Ji (Jo (Jt (JI (tz Je (MY (tz Je (Jt (Jd 1) Je))))) (JL (Uu (Jd 2) Je) Je)) (Jh 3)) (Ji (Jo (JI J1) (Jh 4)) (Ji (JY [5,6,7,8,9] (Xl (sz (JL (Jd 2) Je))) (Jh 5) (Ji (Jo (Jr (tz (Jd 0) (JT Je (Jd 5)))) (Jh 6)) (Ji (Jo (JL (Jd 6) (Jd 3)) (Jh 7)) (Ji (Jo (JL (JT (JT (Jd 7) Je) (JL (Uu (Jd 6) (Jd 3)) (Na (Jd 3) Je))) (Jd 3)) (Jh 8)) (Dg (J9 (Kd (Jv (Xs (JL (Uu (Jd 2) Je) Je) Je)) (Jv (Xs (Jd 7) (Jd 8)))) (Jz 7 (Jz 8 (L9 (tz (Jd 8) (Jd 7))))) J7) (Ji (Jo (Ue (tz (Jr (tz (Jd 1) (Jd 7))) (Jr (tz (Jd 1) (Jd 8))))) (Jh 9)) (J9 (Jv (Ud (Jd 9) (Jd 4))) (Jz 9 (P0 4 (Jd 9))) J7))))))) (UR 4)))))⟩) (.a λds R X h=>?_)
 ·obtain⟨ns,m,rfl,hM,hR⟩:=h;refine⟨rfl,?_⟩;have hMM:=hM;obtain⟨a,b,c,d,e,rfl,ha,hb,hc,hd,he⟩:=hM;refine⟨ns,1,rfl,by decide,λhow=>?_⟩
  have hpool:∃p:Int,atI [D.int 10,.int (if a>2 then a else 2)] (how / 63 % 2)=some (.int p)/\2<=p/\p<=10:=by
   have:how / 63 % 2=0\/how / 63 % 2=1:=by omega
   rcases this with e|e<;>rw[e]
   ·exact⟨10,rfl,by decide,by decide⟩
   ·exact⟨_,rfl,by split<;>omega,by split<;>omega⟩
  obtain⟨pool,ep,hp⟩:=hpool;refine⟨_,rfl,by simp,⟨by decide,by decide⟩,(by show(0:Int)<2;decide),_,ep,by simp,(by show(0:Int)<21;decide),⟨by omega,by omega⟩,UX (λi γ'=>∃ws:List (Int×Int),γ'=[some (.bor (.scr ns)),some (.bor (.lst (([a,b,c,d,e]:List Int).map D.int))),some (.sh (.int how)),some (.sh (.int pool)),some (.own (ws.map prD)),none,none,none,none,none]/\UI ws/\ws.length<=i) ⟨[],rfl,Mu,Yc _⟩ ?_ ?_⟩
  ·rintro i γ' hi ⟨ws,rfl,hW,hl⟩;have hi':i<(how % 21).toNat:=hi;have hlm:(ws.map prD).length=ws.length:=ZV ..;refine⟨ns,_,rfl,by omega,λcell=>?_⟩;refine⟨(by show 0<pool;omega),⟨by omega,by omega⟩,(by show 0<pool-1;omega),(by show 0<pool;omega),?_⟩
   have fit:(0<=cell % pool/\cell % pool<=9)/\(0<=(cell % pool+1+cell / pool % (pool-1)) % pool/\(cell % pool+1+cell / pool % (pool-1)) % pool<=9)/\cell % pool≠(cell % pool+1+cell / pool % (pool-1)) % pool:=by
    have g1:=Wg cell (show pool≠0 by omega);have g2:=Wd cell (show 0<pool by omega);have g3:=Wg (cell / pool) (show pool-1≠0 by omega);have g4:=Wd (cell / pool) (show 0<pool-1 by omega);obtain⟨⟨k1,k2⟩,k3⟩:=two_ne ⟨g1,g2⟩ ⟨g3,g4⟩;exact⟨⟨g1,by omega⟩,⟨k1,by omega⟩,k3⟩
   refine Di (λγ'=>∃(o t:Int) (t1 t2:Option S),((0<=o/\o<=9)/\(0<=t/\t<=9)/\o≠t)/\γ'=[some (.bor (.scr ns)),some (.bor (.lst (([a,b,c,d,e]:List Int).map D.int))),some (.sh (.int how)),some (.sh (.int pool)),some (.own (ws.map prD)),t1,t2,some (.sh (.int o)),some (.sh (.int t)),none]) ?_ ?_
   ·refine⟨⟨by decide,by decide⟩,(by show(0:Int)<3;decide),ite2 (λ_=>ite2 (λ_=>?_) (λ_=>?_)) (λ_=>iteF ?_)⟩
    ·exact⟨_,_,_,_,⟨fit.2.1,fit.1,λz=>fit.2.2 z.symm⟩,rfl⟩
    ·exact⟨_,_,_,_,fit,rfl⟩
    ·exact⟨_,_,_,_,fit,rfl⟩
   ·rintro γ' ⟨o,t,t1,t2,hot,rfl⟩;refine⟨_,_,rfl,hMM,λh1 l1 l2 e1=>⟨_,_,rfl,hMM,λh2 l3 l4 e2=>?_⟩⟩;have b3:=OJ hMM hot.1 hot.2.1 hot.2.2;refine⟨by simp,_,.lp (h1,h2) ws,ite2 (λg=>?_) (λg=>?_)⟩
    ·have g':(h1,h2)∉ws:=λz=>by rw[Ya rfl,Yb z]at g;cases g
     refine⟨by omega,ws++[(h1,h2)],?_,Rn hW (DY ⟨l1,l2⟩ ⟨l3,l4⟩ (by rw[e1,e2];exact b3) g' (by omega)),?_⟩
     ·rw[Yu];rfl
     ·rw[Yl,Wj];omega
    ·exact⟨ws,rfl,hW,by omega⟩
  ·rintro γ' ⟨ws,rfl,hW,hl⟩;exact hR ws hW
def MD(G:Glob K mg)(DD:Def K mg "check_no_ring" SX ["strips","wishes"])(Zo:Nu P w K mg base)(Zc:P8 P w K mg base)(Z5:Ir P w K mg base)
  : Sy P w K mg base:=by
 refine DD.ox (k:=3) AU (λ_ _ _ _ _ _ E hr=>⟨_,(Jg (Pu.pz 2 AU.nd (fz Zo hr (bz (fz Zc hr (az (pv 0))) (pv 1)))) (Jj (J4 (JR (K:=K) (pv 2)) (Jj (ExcR.MP Z5 (hr.mono (by decide)) G.m_Ringed ExcR.G6 rfl rfl (az (pv 2))))
   JA))), (Ji (Jo (Jr (tz (Jr (sz (Jd 0))) (Jd 1))) (Jh 2)) (J9 (JQ (Jd 2)) (Jz 2 (Gh (sz (Jd 2)))) J7))⟩) (.a λds R X h=>?_)
 ·obtain⟨ps,ws,rfl,hF,hz,hu,hX,hR⟩:=h;refine⟨rfl,?_⟩;refine⟨ps,rfl,hF,hz,_,ws,rfl,(Xc ps).imp (λh=>WI h),Yn (X2 ps) (by decide),λr hr hl=>?_⟩;by_cases e:r=[]
  ·have hN:=(hr.none_iff hu).mp e;subst e;exact iteF (A:=False) (hR hN)
  ·have hx:=hX r hr e;refine ite2 (λ_=>⟨r,rfl,hx⟩) (λg=>absurd g ?_);cases r with
   |nil=>exact absurd rfl e
   |cons a t=>simp
def L4(G:Glob K mg)(DD:Pu.DefM K (Meth K (ExcR.Jm mg "Village") "ring") "ring" "Village.ring" SM ["self"])(Zo:Nu P w K mg base)(Zc:P8 P w K mg base)(Zb:XO P w K mg base)(Zd:Kl P w K mg base)
  : B8 P w K mg base:=by
 refine DD.oz (k:=3) LW (λ_ _ _ _ _ _ E hr=>⟨_,(Jj (Jp (fz Zo hr (bz (fz Zc hr (az (Up Zd G.cl_Village (hr.mono (by decide)) Uq (pv 0)))) (Up Zb G.cl_Village (hr.mono (by decide)) Uq (pv 0)))))), (SY (Jr (tz (Jr (sz (U1 KJ (Jd 0) J1))) (U1 Ki (Jd 0) J1))))⟩) (.a λds R X h=>?_)
 ·obtain⟨bk,fs,ws,f,w,rfl,hF,hz,hR⟩:=h;refine⟨rfl,?_⟩;refine⟨rfl,rfl,bk,fs,ws++[w],f,rfl,f,rfl,hF,hz,rfl,rfl,bk,fs++[f],ws,w,rfl,?_⟩;exact⟨_,w,rfl,(Xc f).imp (λh=>WI h),Yn (X2 f) (by decide),λr hr hl=>hR r hr hl⟩
def Lb(G:Glob K mg)(DD:Def K mg "cost_table" Sh ["strips","wishes"])(Zp:Sy P w K mg base)(Zq:SN P w K mg base)(Zr:BA P w K mg base)
  : Dk P w K mg base:=by
 refine DD.ox (k:=4) DC (λ_ _ _ _ _ _ E hr=>⟨_,(Jg (Ub (UH Zp (hr.mono (by decide)) ExcR.U8 (bz (pv 0) (pv 1)))) (Jg (Pu.pz 2 DC.nd (fz Zq hr (dz (pv 0) (pv 1) (fz Zr hr (az (pv 0)))))) (Jj (Jp (UT (ML rfl) (by rfl) G.list boot_list (J0 (IY (K:=K) (pv 2)) J8)))))), (Ji (UY (UJ (tz (Jd 0) (Jd 1)))) (Ji (Jo (Jr (uz (Jd 0) (Jd 1) (Jr (sz (Jd 0))))) (Jh 2)) (Jx (Rv (Jd 2)))))⟩) (.a λds R X h=>?_)
 ·obtain⟨ps,ws,rfl,hF,hz,hw,hu,hX,hR⟩:=h;refine⟨rfl,?_⟩;refine⟨ps,ws,rfl,hF,hz,hu,hX,λhN=>?_⟩;have hR:=hR hN;refine⟨ps,rfl,hF,hz,λpa hpa=>⟨ps,ws,pa,pcc ps,rfl,hF,hz,hw,hu,hpa,CH hu hN,λkvs T=>?_⟩⟩;have nd:(Js ps).Nodup:=(Xc ps).imp (λh=>WI h);obtain⟨vs,e,hv⟩:=T.vals (CF nd);obtain⟨e1,e2⟩:=BZ e;refine⟨kvs,rfl,e1,?_⟩;rw[e2];exact hR vs hv
def RV(G:Glob K mg)(DD:Def K mg "best_order" Sz ["strips","wishes"])(Zp:Sy P w K mg base)(Zr:BA P w K mg base)(Zq:SN P w K mg base)(Zc:P8 P w K mg base)(Zh:TH P w K mg base)(Z6:A8 P w K mg base)(Z7:Cu P w K mg base)
  : BW P w K mg base:=by
 refine DD.ox (k:=4) X4 (λ_ _ _ _ _ _ E hr=>⟨_,(Jg (Ub (UH Zp (hr.mono (by decide)) ExcR.U8 (bz (pv 0) (pv 1)))) (Jg (Pu.pz 2 X4.nd (fz Zr hr (az (pv 0)))) (Jg (Pu.pz 3 X4.nd (fz Zq hr (dz (pv 0) (pv 1) (pv 2)))) (Jg (Pu.pz 4 X4.nd (UT (BI (K:=K)) (by rfl) G.tuple boot_tuple (az (fz Zc hr (az (pv 0)))))) (Jg (Pu.pz 5 X4.nd (JD J8)) (Jg (PP ExcR.D8 (JR (K:=K) (pv 4)) (Jg (X9 (N':=["holder","members","wishes"]) (φ:=[none,some 4,some 1]) (i:=6) X4.nd rfl rfl rfl (Own.CompOk.of (by rfl)) (P6 (K:=K) (pv 4)) (λ_ _ _ _ _=>⟨(gz 0 (show(["holder","members","wishes"]:List Str).Nodup from by decide +kernel)),(UD (JR (K:=K) (fz Z6 hr (dz (pv 1) (pv 0) (pv 2))))),(pv 0)⟩)) (Jg (X9 (N':=["first","members","least","pairs"]) (φ:=[none,some 4,some 3,some 2]) (i:=7) X4.nd rfl rfl rfl (Own.CompOk.of (by rfl)) (JG (K:=K) (pv 6)) (λ_ _ _ _ _=>⟨(gz 0 (show(["first","members","least","pairs"]:List Str).Nodup from by decide +kernel)),(UD (cq K hr (fz Z7 hr (J0 (pv 1) (J0 (pv 0) (J0 (pv 2) (J0 (pv 3) J8))))) (KD (JH hr) (pv 2) (pv 1) (λ_ _=>rfl)))),(pv 0)⟩)) (Jg (Ub (UP Y6 YI YJ UU (pv 5) (az (jx K (pv 7) Jf)))) (Jj (Pu.pz 4 X4.nd (fz Zh hr (bz (pv 4) (jx K (pv 7) Jf))))))))) (Jj (Jp (pv 5))))))))), (Ji (UY (UJ (tz (Jd 0) (Jd 1)))) (Ji (Jo (Jr (sz (Jd 0))) (Jh 2)) (Ji (Jo (Jr (uz (Jd 0) (Jd 1) (Jd 2))) (Jh 3)) (Ji (Jo (Aj (sz (Jr (sz (Jd 0))))) (Jh 4)) (Ji (Jo (JI J1) (Jh 5)) (Ji (B7 [6,7] (JQ (Jd 4)) (Ji (Jo (JX (SndI.c (KY (Jd 4))) (Jh 0) (JQ (Jr (uz (Jd 1) (Jd 0) (Jd 2)))) (Jd 0)) (Jh 6)) (Ji (Jo (JX (Uo (Jd 6)) (Jh 0) (Jv (Xr (Jr (JC (Jd 1) (JC (Jd 0) (JC (Jd 2) (JC (Jd 3) J1))))) (PB (Jd 2) (Jd 1)))) (Jd 0)) (Jh 7)) (Ji (P0 5 (Jt (Jd 7) Je)) (Jo (Jr (tz (Jd 4) (Jt (Jd 7) Je))) (Jh 4)))))) (UR 5)))))))⟩) (.a λds R X h=>?_)
 ·obtain⟨ps,ws,rfl,hF,hz,hw,hu,hX,hR⟩:=h;refine⟨rfl,?_⟩;refine⟨ps,ws,rfl,hF,hz,hu,hX,λhN=>?_⟩;have hR:=hR hN;refine⟨ps,rfl,hF,hz,λpa hpa=>⟨ps,ws,pa,pcc ps,rfl,hF,hz,hw,hu,hpa,CH hu hN,λkvs T=>⟨ps,rfl,hF,hz,?_⟩⟩⟩;have hh:=X2 ps;have hri:=Xc ps;have nd:(Js ps).Nodup:=hri.imp (λh=>WI h);have hpa':∀x∈Js ps,∀y∈Js ps,valV pa [.inl x,.inl y]=some (.int (pcc ps x y)):=hpa;generalize pcc ps=c at *;generalize Js ps=hs at *
  refine⟨rfl,by simp,BB (λγ'=>∃(ms o:List Int),γ'=[some (.bor (.lst (ps.map prD))),some (.bor (.lst (ws.map prD))),some (.own (.dT pa)),some (.own (.dT kvs)),some (.sh (tD ms)),some (.own (o.map D.int)),none,none]/\ms∈J6 hs/\o.length+ms.length<=10/\
   ∀p,Best ws c ms p->Best ws c hs (o++p)) Oc ⟨hs,[],rfl,List.mem_of_getLast? (An hs),by simpa using hh,λp hp=>hp⟩ ?_⟩
  rintro γ' ⟨ms,o,rfl,hms,hol,hB⟩;show if (!(ms.map D.int).isEmpty)=true then _ else _;refine ite2 (λg=>?_) (λg=>?_)
  ·have hsm:=Pa hs ms hms;have hne:ms≠[]:=λe=>by subst e;simp at g
   have ndm:ms.Nodup:=nd.sublist hsm;have hrm:=hri.sublist hsm
   have hless:∀l∈ms,Ju ms l∈J6 hs:=λl hl=>by
    obtain⟨k,hk,e⟩:=Y9.mp hms;obtain⟨j,_,ej⟩:=AK nd k ms (by rw[ZU hk,e]) l hl;exact Yv ej
   obtain⟨vs,hvs⟩:=FK λl hl=>T.val _ (hless l hl);obtain⟨V,hV1,hV2⟩:=T.val ms hms;have hv2:∀l∈ms,Least ws c (Ju ms l) (vs l):=λl hl=>(hvs l hl).2
   have hsome:∃f rest,(ms.filter (λh=>firstM ws ms h)).filter (λf=>decide (vs f+((Ju ms f).map (c f)).sum=V))=f::rest:=by
    obtain⟨q,q1,q2,q3⟩:=hV2.is;cases q with
    |nil=>exact absurd q1.nil_eq.symm hne
    |cons g p=>
     obtain⟨r1,r2,r3,_⟩:=Dx ndm hu hv2 hV2 q1 q2 q3;exact List.exists_cons_of_ne_nil (List.ne_nil_of_mem (Y2.mpr ⟨Y2.mpr ⟨r1,r2⟩,Yb r3⟩))
   obtain⟨f,rest,ef⟩:=hsome;have hfm:f∈(ms.filter (λh=>firstM ws ms h)).filter (λf=>decide (vs f+((Ju ms f).map (c f)).sum=V)):=by rw[ef];exact Yz ..
   obtain⟨hfm,hf3⟩:=Y2.mp hfm;obtain⟨hf1,hf2⟩:=Y2.mp hfm
   have hmin:∀g∈ms,firstM ws ms g=true->vs g+((Ju ms g).map (c g)).sum=V->f<=g:=λg h1 h2 h3=>by
    have hg:g∈(ms.filter (λh=>firstM ws ms h)).filter (λf=>decide (vs f+((Ju ms f).map (c f)).sum=V)):=Y2.mpr ⟨Y2.mpr ⟨h1,h2⟩,Yb h3⟩
    have hr:(f::rest).Pairwise (· < ·):=by
     rw[←ef];exact(hrm.filter _).filter _
    rw[ef]at hg;rcases Yh.mp hg with e|hg
    ·omega
    ·have:=(W2.mp hr).1 g hg
     omega
   refine⟨_,rfl,JW (s:=.sh .non) (xs:=ms) (emb:=D.int) (λh=>if firstM ws ms h=true then some (.int h)else none) (by omega) (λh hm=>?_) ?_⟩
   ·refine⟨ms,h,ws,rfl,hw,?_⟩;refine ite2 (λg=>⟨_,rfl,Ya g⟩) (λg=>ZZ g)
   ·rw[Uy (λh=>firstM ws ms h)];refine JW (xs:=ms.filter (λh=>firstM ws ms h)) (emb:=D.int) (λf=>if decide (vs f+((Ju ms f).map (c f)).sum=V)=true then some (.int f)else none) (Yn (YG _ _) (by omega)) (λl hl=>?_) ?_
    ·obtain⟨hl1,hl2⟩:=Y2.mp hl;refine⟨ms,l,kvs,pa,c l,vs l,rfl,by omega,(hvs l hl1).1,λm hm=>hpa' l (hsm.subset hl1) m (hsm.subset (less_sub.subset hm)),_,_,Ta ms,hV1,rfl,?_⟩;refine ite2 (λg=>⟨_,rfl,Ya g⟩) (λg=>ZZ g)
    ·rw[Uy (λf=>decide (vs f+((Ju ms f).map (c f)).sum=V)),ef];refine⟨_,Pv _ _,by rw[ZV];omega,_,Pv _ _,ms,f,rfl,by omega,⟨Ju ms f,o++[f],?_,hless f hf1,?_,λp hp=>?_⟩,?_⟩
     ·rw[Yu];rfl
     ·have:=(Xo ndm hf1).length_eq
      rw[Yl];rw[Y1]at this;show o.length+1+_<=10;omega
     ·rw[WV];exact hB _ (R9 ndm hu hv2 hV2 hf1 hf2 (Yg hf3) hmin hp)
     ·have:=(Xo ndm hf1).length_eq
      rw[Y1]at this;show((Ju ms f).map D.int).length<(ms.map D.int).length;rw[ZV,ZV];omega
  ·have e:ms=[]:=by
    cases ms with
    |nil=>rfl
    |cons a r=>exact absurd rfl g
   subst e
   have:=hB [] (RG ws c)
   rw[YO]at this;exact hR o this
def L3(G:Glob K mg)(DD:Def K mg "least_cost" SB ["strips","wishes"])(Z8:Dk P w K mg base)
  : Fk P w K mg base:=by
 refine DD.ox (k:=5) MU (λ_ _ _ _ _ _ E hr=>⟨_,(Jj (Jp (jx K (UH Z8 (hr.mono (by decide)) ExcR.U8 (bz (pv 0) (pv 1))) (Xz X3 Jf)))), (Jx (Jt (UJ (tz (Jd 0) (Jd 1))) (Kf Je)))⟩) (.a λds R X h=>?_)
 ·obtain⟨ps,ws,rfl,hF,hz,hw,hu,hX,hR⟩:=h;refine⟨rfl,?_⟩;refine⟨ps,ws,rfl,hF,hz,hw,hu,hX,λhN vs hv=>?_⟩;have hR:=hR hN;have e1:=An (Js ps);rw[List.getLast?_eq_getElem?]at e1;have hi:=(Yk.mp e1).1;have hl:=hv.1;obtain⟨v,h2⟩:∃v,vs[(J6 (Js ps)).length-1]?=some v:=⟨_,ZU (by omega)⟩;have L:=hv.2 _ _ _ e1 h2;rw[←hl]at h2;exact⟨_,Uv (f:=D.int) (Tn h2),hR _ L⟩
def LZ(G:Glob K mg)(DD:Pu.DefM K (Meth K (ExcR.Jm mg "Village") "order") "order" "Village.order" Sn ["self"])(Z9:BW P w K mg base)(Zd:Kl P w K mg base)(Zb:XO P w K mg base)
  : Av P w K mg base:=by
 refine DD.ox (k:=5) RP (λ_ _ _ _ _ _ E hr=>⟨_,(Jj (Jp (UH Z9 (hr.mono (by decide)) ExcR.U8 (bz (Up Zd G.cl_Village (hr.mono (by decide)) Uq (pv 0)) (Up Zb G.cl_Village (hr.mono (by decide)) Uq (pv 0)))))), (Jx (UJ (tz (U1 KJ (Jd 0) J1) (U1 Ki (Jd 0) J1))))⟩) (.a λds R X h=>?_)
 ·obtain⟨bk,fs,ws,f,w,rfl,hF,hz,hw,hu,hN,hR⟩:=h;refine⟨rfl,?_⟩;exact⟨rfl,rfl,bk,fs,ws++[w],f,rfl,rfl,rfl,bk,fs++[f],ws,w,rfl,f,w,rfl,hF,hz,hw,hu,hN,hR⟩
def RK(G:Glob K mg)(DD:Pu.DefM K (Meth K (ExcR.Jm mg "Village") "cost") "cost" "Village.cost" Nn ["self"])(ZA:Fk P w K mg base)(Zd:Kl P w K mg base)(Zb:XO P w K mg base)
  : Nz P w K mg base:=by
 refine DD.ox (k:=6) L7 (λ_ _ _ _ _ _ E hr=>⟨_,(Jj (Jp (UH ZA (hr.mono (by decide)) ExcR.U8 (bz (Up Zd G.cl_Village (hr.mono (by decide)) Uq (pv 0)) (Up Zb G.cl_Village (hr.mono (by decide)) Uq (pv 0)))))), (Jx (UJ (tz (U1 KJ (Jd 0) J1) (U1 Ki (Jd 0) J1))))⟩) (.a λds R X h=>?_)
 ·obtain⟨bk,fs,ws,f,w,rfl,hF,hz,hw,hu,hN,hR⟩:=h;refine⟨rfl,?_⟩;exact⟨rfl,rfl,bk,fs,ws++[w],f,rfl,rfl,rfl,bk,fs++[f],ws,w,rfl,f,w,rfl,hF,hz,hw,hu,hN,hR⟩
def O1(G:Glob K mg)(DD:Def K mg "_law_refused_with" NR ["_law_village","_law_ring"])(Zg:TZ P w K mg base)(Zs:Nz P w K mg base)
  : Ed P w K mg base:=by
 refine DD.oz (k:=7) Tu (λ_ _ _ _ _ _ E hr=>⟨_,(Jg (Pu.pz 2 Tu.nd (JD J8)) (FC (ExcR.Ih (λpins D=>(Jj (Ub (LI Zs G.cl_Village (hr.mono (by decide)) (ExcR.LO (pins:=pins) (D:=D) (i:=3) rfl rfl Tu.nd rfl rfl rfl G.m_Ringed (by decide) (λa=>(Jj (Pu.pz 2 Tu.nd (ExcR.LM (pv 3) (by rfl)))))) (pv 0)))))) (Jj (Jp (fz Zg hr (bz (pv 2) (pv 1))))))), (Ji (Jo (JI J1) (Jh 2)) (Dg (My (E':=λ_=>E) G.x_Ringed (λD=>(UY (Cg Ar (Jd 0) J1))) (Jo (L6 G.r_Ringed (Jd 3)) (Jh 2))) (Jx (Jr (tz (Jd 2) (Jd 1))))))⟩) (.a λds R X h=>?_)
 ·obtain⟨bk,fs,ws,f,w,rs,rfl,hF,hz,hw,hu,hr,hne,hl,hR⟩:=h;refine⟨rfl,?_⟩;refine⟨by decide,Di (λγ'=>γ'=[some (.bor (vilD (ExcR.Jm mg "Village") bk (fs++[f]) (ws++[w]))),some (.bor (.lst (rs.map D.int))),some (.sh (.fL rs)),none]) ?_ ?_⟩
  ·refine⟨rfl,rfl,bk,fs,ws,f,w,rfl,hF,hz,hw,hu,λr hr2 _=>⟨r,rfl,?_⟩,λhN=>absurd ((hr.none_iff hu).mpr hN) hne⟩;rw[hr2.one hr];exact⟨rfl,rfl⟩
  ·rintro γ' rfl;exact⟨rs,.inr rfl,by omega,hR⟩
def Lf(G:Glob K mg)(DD:Def K mg "_law_order_keeps" Sv ["_law_village","_law_strips_here","_law_wishes_here"])(ZC:Av P w K mg base)(Zg:TZ P w K mg base)(ZD:Fg P w K mg base)(Zs:Nz P w K mg base)(ZE:BY P w K mg base)(Zt:B8 P w K mg base)(Zu:Bq P w K mg base)
  : BJ P w K mg base:=by
 refine DD.oz (k:=7) CL (λ_ _ _ _ _ _ E hr=>⟨_,(Jg (Pu.pz 3 CL.nd (Up ZC G.cl_Village (hr.mono (by decide)) P7 (pv 0))) (Jg (J4 (PW.pt (U0 (Um (JR (K:=K) (fz Zg hr (bz (Up Zt G.cl_Village (hr.mono (by decide)) Uq (pv 0)) (JD J8))))) (U9 (Um (JR (K:=K) (Uc (XD (K:=K)) (by rfl) G.isinstance W5 (bz (pv 3) (Kc (v:=.ty "list") rfl G.list boot_list rfl)))))))) (Jj (Jp Uk))
   JA) (Jg (J4 (PW.pt (U0 (Um (JR (K:=K) (fz Zg hr (bz (Uc (Bo (K:=K) (w:=w) rfl) (by rfl) G.sorted boot_sorted (az (pv 3))) (fz Zu hr (az (pv 1))))))) (U9 (Um (JR (K:=K) (fz ZD hr (bz (pv 3) (pv 2)))))))) (Jj (Jp Uk))
   JA) (Jj (Jp (fz Zg hr (bz (JD (az (Up Zs G.cl_Village (hr.mono (by decide)) P7 (pv 0)))) (JD (az (fz ZE hr (bz (pv 1) (pv 3)))))))))))), (Ji (Jo (U1 EZ (Jd 0) J1) (Jh 3)) (Ji (J9 (U3 (Ur (JQ (Jr (tz (U1 CB (Jd 0) J1) (JI J1))))) (Ur (JQ (XX (tz (Jd 3) XM))))) (Jx Uj) J7) (Ji (J9 (U3 (Ur (JQ (Jr (tz (Sk (sz (Jd 3))) (Jr (sz (Jd 1))))))) (Ur (JQ (Jr (tz (Jd 3) (Jd 2)))))) (Jx Uj) J7) (Jx (Jr (tz (JI (sz (U1 Ar (Jd 0) J1))) (JI (sz (Jr (tz (Jd 1) (Jd 3)))))))))))⟩) (.a λds R X h=>?_)
 ·obtain⟨bk,fs,ws,f,w,rfl,hF,hz,hw,hu,hN,hR⟩:=h;refine⟨rfl,?_⟩;have hh:=X2 f;refine⟨rfl,rfl,bk,fs,ws,f,w,rfl,hF,hz,hw,hu,λr hr hne=>absurd ((hr.none_iff hu).mpr hN) hne,λ_ o hB=>?_⟩;have hol:=hB.perm.length_eq;refine⟨rfl,rfl,bk,fs,ws,f,w,rfl,hF,hz,λr hr _=>?_⟩;obtain rfl:=(hr.none_iff hu).mpr hN;refine⟨by decide,[],.inl rfl,by decide,iteF ⟨_,.same _,iteF ?_⟩⟩;refine⟨o,rfl,by omega,λns hp hs=>⟨f,rfl,by omega,?_⟩⟩;obtain rfl:=OH hB.perm hp hs;refine⟨Js f,.inl rfl,by omega,iteF ⟨o,w,rfl,λ_=>iteF ?_,λ⟨q,hq,hb⟩=>absurd hb (by rw[MH hB.keeps q hq];simp)⟩⟩;refine⟨rfl,rfl,bk,fs,ws,f,w,rfl,hF,hz,hw,hu,λr hr hne=>absurd ((hr.none_iff hu).mpr hN) hne,λ_ v hL=>?_⟩
  have ev:v=priM f o f.length:=by
   rw[←OD hF hB.perm];obtain⟨p,p1,p2,p3⟩:=hL.is;have h1:=hL.le o hB.perm hB.keeps;have h2:=hB.le p p1 p2;show v=oc (pcc f) o;omega
  exact⟨by simp,f,o,rfl,hF,by omega,Ia hF hB.perm,by simp,[v],.inl (by rw[ev];rfl),by simp,hR⟩
def Rw(G:Glob K mg)(DD:Def K mg "law" UZ ["_law_script"])(ZF:DO P w K mg base)(ZG:Ff P w K mg base)(Zu:Bq P w K mg base)(ZH:Fc P w K mg base)(ZI:Ex P w K mg base)(ZJ:Ca P w K mg base)(ZK:Dy P w K mg base)(ZL:BJ P w K mg base)(Zf:To P w K mg base)(ZM:Fz P w K mg base)(ZN:CD P w K mg base)(ZO:Ap P w K mg base)(Zt:B8 P w K mg base)(ZP:CC P w K mg base)(Zg:TZ P w K mg base)(Zb:XO P w K mg base)(Ze:TJ P w K mg base)(ZQ:Ea P w K mg base)(ZR:Ed P w K mg base)(ZS:FS P w K mg base)
  : RZ P w K mg base:=by
 refine DD.oz (k:=8) Ut (λ_ _ _ _ _ _ E hr=>⟨_,(Jg (Pu.pz 1 Ut.nd (fz ZF hr (az (fz Zf hr (bz (pv 0) Jf))))) (Jg (Pu.pz 2 Ut.nd (fz ZG hr (dz (pv 0) (pv 1) (Jl JJ (Jl Ul (fz Ze hr (bz (pv 0) Jf)) Jf) Jf)))) (Jg (Pu.pz 3 Ut.nd (fz Zu hr (az (pv 2)))) (Jg (Pu.pz 4 Ut.nd (fz ZH hr (az (pv 0)))) (Jg (Pu.pz 5 Ut.nd (fz ZI hr (bz (pv 3) (Jl Ul (fz Zf hr (bz (pv 0) Jf)) Jf)))) (Jg (Pu.pz 6 Ut.nd (fz ZJ hr (dz (fz ZM hr (bz (pv 0) (pv 1))) (pv 5) (pv 4)))) (Jg (Pu.pz 7 Ut.nd (HC ZK G.m_Village (hr.mono (by decide)) P7 (az (UT (Ph (K:=K)) (by rfl) G.list boot_list (az (pv 2)))))) (Jg (JZ Yw rfl (JG (K:=K) (pv 6)) (XF (K:=K) (n:=2) rfl (U5 (gz 8 Ut.nd) (U5 (gz 9 Ut.nd) XB))) (Jj (Ub (Tz ZN G.cl_Village (hr.mono (by decide)) P7 (pv 7) (bz (pv 8) (pv 9)))))) (Jg (Pu.pz 10 Ut.nd (ln K G.len (pv 6))) (Jg (PP Yw (Um (JR (K:=K) (fz ZO hr (bz (pv 3) (pv 6))))) (Jg (Pu.pz 11 Ut.nd (Up Zt G.cl_Village (hr.mono (by decide)) Uq (pv 7))) (Jg (J4 (PW.pt (U0 (Um (JR (K:=K) (fz ZQ hr (dz (pv 11) (pv 3) (pv 6))))) (U9 (Um (JR (K:=K) (fz ZR hr (bz (pv 7) (pv 11)))))))) (Jj (Jp Uk))
   JA) (Jg (Pu.pz 12 Ut.nd (Jl JJ (Jl Ul (pv 4) Jf) (ln K G.len (pv 11)))) (Jg (Pu.pz 13 Ut.nd (Ug (bz (jx K (pv 11) (Jl Tw (pv 12) Jf)) (jx K (pv 11) (pv 12))))) (Jg (Pu.pz 10 Ut.nd (Jl JU (pv 10) Jf)) (Jg (J4 (Um (JR (K:=K) (fz Zg hr (bz (JD (az (Tz ZS G.cl_Village (hr.mono (by decide)) P7 (pv 7) (bz (jx K (pv 13) Jf) (jx K (pv 13) Jf))))) (JD (az (pv 10))))))) (Jj (Jp Uk))
   JA) (Jj (X9 (N':=["_law_one","_law_pair"]) (φ:=[none,some 13]) (i:=6) Ut.nd rfl rfl rfl (Own.CompOk.of (by rfl)) (JG (K:=K) (pv 6)) (λ_ _ _ _ _=>⟨(gz 0 (show(["_law_one","_law_pair"]:List Str).Nodup from by decide +kernel)),(UD (J2 (Dp (K:=K) (show _<cLine from hr.units0)) (pv 0) (pv 1) (JN _))),(pv 0)⟩)))))))))) (Jg (J4 (Um (JR (K:=K) (fz ZP hr (bz (Up Zb G.cl_Village (hr.mono (by decide)) Uq (pv 7)) (pv 6))))) (Jj (Jp Uk))
   JA) (Jj (Jp (fz ZL hr (dz (pv 7) (pv 2) (pv 6)))))))))))))))), (Ji (Jo (Jr (sz (Jr (tz (Jd 0) Je)))) (Jh 1)) (Ji (Jo (Jr (uz (Jd 0) (Jd 1) (JL (Uu (Jr (tz (Jd 0) Je)) Je) Je))) (Jh 2)) (Ji (Jo (Jr (sz (Jd 2))) (Jh 3)) (Ji (Jo (Jr (sz (Jd 0))) (Jh 4)) (Ji (Jo (Jr (tz (Jd 3) (Uu (Jr (tz (Jd 0) Je)) Je))) (Jh 5)) (Ji (Jo (IV (uz (Jr (tz (Jd 0) (Jd 1))) (Jd 5) (Jd 4))) (Jh 6)) (Ji (Jo (RJ (sz (Pg (sz (Jd 2))))) (Jh 7)) (Ji (Jz 6 (JY [8,9] (UF (Jd 6)) (KA (UK (Jh 8) (UK (Jh 9) Kk))) (Jz 9 (Jz 8 (TN (Tf 7 Mv (tz (Jd 8) (Jd 9)))))))) (Ji (Jo (JS (sz (Jd 6))) (Jh 10)) (Ji (B7 [11,12,13] (Ur (JQ (Jr (tz (Jd 3) (Jd 6))))) (Ji (Jo (U1 CB (Jd 7) J1) (Jh 11)) (Ji (J9 (U3 (Ur (JQ (Jr (uz (Jd 11) (Jd 3) (Jd 6))))) (Ur (JQ (Jr (tz (Jd 7) (Jd 11)))))) (Jx Uj) J7) (Ji (Jo (JL (Uu (Jd 4) Je) (JS (sz (Jd 11)))) (Jh 12)) (Ji (Jo (Ue (tz (Jt (Jd 11) (Na (Jd 12) Je)) (Jt (Jd 11) (Jd 12)))) (Jh 13)) (Ji (Jo (JT (Jd 10) Je) (Jh 10)) (Ji (Jz 10 (G9 (Hx (EV (Tf 7 OW (tz (Jt (Jd 13) Je) (Jt (Jd 13) Je))) (sz (JI (sz (Jd 10)))))) (Jx Uj) J7)) (Jo (JX (Uo (Jd 6)) (Jh 0) (Jv (Aw (Jd 0) (Jd 1))) (Jd 0)) (Jh 6))))))))) (Ji (J9 (Ur (JQ (Jr (tz (U1 Ki (Jd 7) J1) (Jd 6))))) (Jx Uj) J7) (Jx (Jr (uz (Jd 7) (Jd 2) (Jd 6)))))))))))))))⟩) (.a λds R X h=>?_)
 ·obtain⟨ns,rfl,hR⟩:=h;refine⟨rfl,?_⟩;refine⟨ns,0,rfl,by decide,λc0=>⟨c0,rfl,λm hM=>?_⟩⟩;refine⟨ns,0,rfl,by decide,λc1=>⟨⟨by decide,by decide⟩,(by show(0:Int)<41;decide),ns,m,_,rfl,hM,by omega,by omega,λps hF hlen=>?_⟩⟩;have hz:ps.length<=40:=by omega
  have hh:=X2 ps;refine⟨ps,rfl,by omega,ns,rfl,λc=>?_⟩;refine⟨ns,1,rfl,by decide,λd=>⟨⟨by decide,by decide⟩,Js ps,_,rfl,by omega,λo ho=>?_⟩⟩;have hol:=ho.length_eq;have hno:o.Nodup:=ho.nodup_iff.mpr ((Xc ps).imp λh=>WI h);refine⟨ns,m,rfl,hM,λws0 hW0 a=>⟨⟨a,_,rfl,_,rfl⟩,a,ws0,o,c,rfl,hW0,hno,by omega,λh hh=>?_,λws hW s hs'=>Ic hs' ?_⟩⟩
  ·obtain⟨q,hq,rfl⟩:=Y4.mp ((T8 hF).mp (ho.mem_iff.mp hh))
   have:=hF q hq
   omega
  refine⟨rfl,λx=>⟨x,ps,rfl,rfl,by omega,?_⟩⟩;rw[IX hF hz];refine λb1 b2 b3=>⟨rfl,?_⟩;have hW1:=hW.1;refine⟨rfl,UO (xs:=ws) (emb:=prD) (λi γ'=>∃(bk:List (Str×List Int)) (fs us:List (List (Int×Int))),γ'=[some (.bor (.scr ns)),some (.own (m.map D.int)),some (.own (ps.map prD)),some (.own ((Js ps).map D.int)),some (.sh (.int c)),some (.own (o.map D.int)),some (.sh (.lst (ws.map prD))),some (.own (vO (ExcR.Jm mg "Village") x b1 b2 b3 bk (fs++[ps]) (us++[ws.take i]))),none,none,none,none,none,none]/\bk.length=i/\fs.length=i/\us.length=i) ⟨[],[],[],rfl,rfl,rfl,rfl⟩ ?_ ?_⟩
  ·rintro i hi γ' ⟨bk,fs,us,rfl,h1,h2,h3⟩;refine⟨rfl,rfl,rfl,x,b1,b2,b3,bk,fs,us,ps,ws.take i,ws[i].1,ws[i].2,rfl,rfl,by omega,by omega,by omega,by rw[Y7];omega,?_⟩;unfold B9;rw[ZZ (by omega),Mj hW hi];refine⟨bk++[(("wish" : Str),[ws[i].1,ws[i].2])],fs++[ps],us++[ws.take i],?_,by simp[h1],by simp[h2],by simp[h3]⟩;rw[Yx hi];rfl
  rintro γ' ⟨bk,fs,us,rfl,h1,h2,h3⟩;rw[YX];have hlw:(ws.map prD).length=ws.length:=ZV ..;refine BB (λγ'=>∃(bk:List (Str×List Int)) (fs us:List (List (Int×Int))) (w:List (Int×Int)) (s6:S),(s6=.sh (.lst (w.map prD))\/s6=.own (w.map prD))/\γ'=[some (.bor (.scr ns)),some (.own (m.map D.int)),some (.own (ps.map prD)),some (.own ((Js ps).map D.int)),some (.sh (.int c)),some (.own (o.map D.int)),some s6,some (.own (vO (ExcR.Jm mg "Village") x b1 b2 b3 bk (fs++[ps]) (us++[w]))),none,none,some (.sh (.int (bk.length:Nat))),none,none,none]/\bk.length+w.length<=40/\fs.length=bk.length/\us.length=bk.length/\UI w) wLen ⟨bk,fs,us,ws,_,.inl rfl,?_,by omega,by omega,by omega,hW⟩ ?_
  ·rw[hlw,←h1];rfl
  rintro γ' ⟨bk,fs,us,w,s6,h6,rfl,hb,hf,hu',hWw⟩;have hWl:=hWw.1;have hu:∀q∈w,q.1≠q.2:=λq hq=>(hWw.2.2 q hq).2;rcases h6 with rfl|rfl
  ·refine⟨Js ps,w,rfl,by omega,by omega,ite2 (λg=>?_) (λg=>?_)⟩
   ·have hne:¬JB w (Js ps) (Js ps).length=[]:=λz=>by rw[Yb z]at g;cases g
    refine⟨rfl,rfl,bk,fs,us,ps,w,rfl,hF,by omega,λr hr hrl=>?_⟩;have hrn:r≠[]:=λz=>hne ((T7 hu).mpr ((hr.none_iff hu).mp z));obtain⟨RR,_⟩:=hr.ring hu hrn;have hl1:=KZ RR.nodup RR.sub;have hl2:=RR.two;have hlr:(r.map D.int).length=r.length:=ZV ..;refine⟨r,Js ps,w,rfl,by omega,RR,iteF ⟨bk,fs,us,ps,w,r,rfl,hF,by omega,by omega,hu,hr,hrn,hrl,iteF ?_⟩⟩;refine⟨⟨by decide,by decide⟩,(by omega),?_⟩;obtain⟨y,z,ey,ez,hyz⟩:=De RR (k:=c / 2 % (((r.map D.int).length:Nat):Int)) (Wg _ (by omega)) (by have:=Wd (c / 2) (b:=(((r.map D.int).length:Nat):Int)) (by omega);omega);refine⟨_,Uv ey,_,Uv ez,?_⟩;refine⟨by simp,rfl,rfl,_,Pv _ _,_,BK _ _ (.inr rfl),x,b1,b2,b3,bk,fs,us,ps,w,y,z,rfl,rfl,by omega,by omega,by omega,by omega,?_⟩;unfold Tq Kw;rw[ZZ (by omega),Ya hyz];refine⟨by simp,by simp,[(bk.length:Int)+1],.inl rfl,by simp,iteF ?_⟩;refine JW (xs:=w) (emb:=prD) (λq=>if (!decide (q=(y,z)))=true then some (prD q)else none) (by omega) (λq hq=>?_) ?_
    ·refine BC (p:=q) (q:=(y,z)) (R:=λs=>match s.d with | .bl b=>(if b=true then ∃d,(S.sh (prD q)).shd=some d/\(if (!decide (q=(y,z)))=true then some (prD q)else none)=some d else(if (!decide (q=(y,z)))=true then some (prD q)else none)=none)|_=>False) ?_
     exact ite2 (λh=>⟨_,rfl,Ya h⟩) (λh=>ZZ h)
    rw[Uy (λq:Int×Int=>!decide (q=(y,z)))];have hd:=A5 hyz;have hW2:=F8 (a:=y) (b:=z) hWw;refine⟨⟨bk++[(("drop" : Str),[y,z])],fs++[ps],us++[w],Xn w y z,_,.inr rfl,?_,by simp;omega,by simp[hf],by simp[hu'],hW2⟩,?_⟩
    ·have e:(((bk++[(("drop" : Str),[y,z])]).length:Nat):Int)=(bk.length:Int)+1:=by simp
     rw[e];rfl
    ·show((w.filter λq:Int×Int=>!decide (q=(y,z))).map prD).length<(w.map prD).length;rw[ZV,ZV];exact hd
   ·have hN:¬ ∃r,Ring (Js ps) w r:=(T7 hu).mp (YC λz=>g (by rw[Ym z];rfl));refine⟨rfl,rfl,bk,fs++[ps],us,w,rfl,w,rfl,by omega,iteF ⟨bk,fs,us,ps,w,rfl,hF,by omega,by omega,hu,hN,hR⟩⟩
  ·refine⟨Js ps,w,rfl,by omega,by omega,ite2 (λg=>?_) (λg=>?_)⟩
   ·have hne:¬JB w (Js ps) (Js ps).length=[]:=λz=>by rw[Yb z]at g;cases g
    refine⟨rfl,rfl,bk,fs,us,ps,w,rfl,hF,by omega,λr hr hrl=>?_⟩;have hrn:r≠[]:=λz=>hne ((T7 hu).mpr ((hr.none_iff hu).mp z));obtain⟨RR,_⟩:=hr.ring hu hrn;have hl1:=KZ RR.nodup RR.sub;have hl2:=RR.two;have hlr:(r.map D.int).length=r.length:=ZV ..;refine⟨r,Js ps,w,rfl,by omega,RR,iteF ⟨bk,fs,us,ps,w,r,rfl,hF,by omega,by omega,hu,hr,hrn,hrl,iteF ?_⟩⟩;refine⟨⟨by decide,by decide⟩,(by omega),?_⟩;obtain⟨y,z,ey,ez,hyz⟩:=De RR (k:=c / 2 % (((r.map D.int).length:Nat):Int)) (Wg _ (by omega)) (by have:=Wd (c / 2) (b:=(((r.map D.int).length:Nat):Int)) (by omega);omega);refine⟨_,Uv ey,_,Uv ez,?_⟩;refine⟨by simp,rfl,rfl,_,Pv _ _,_,BK _ _ (.inr rfl),x,b1,b2,b3,bk,fs,us,ps,w,y,z,rfl,rfl,by omega,by omega,by omega,by omega,?_⟩;unfold Tq Kw;rw[ZZ (by omega),Ya hyz];refine⟨by simp,by simp,[(bk.length:Int)+1],.inl rfl,by simp,iteF ?_⟩;refine JW (xs:=w) (emb:=prD) (λq=>if (!decide (q=(y,z)))=true then some (prD q)else none) (by omega) (λq hq=>?_) ?_
    ·refine BC (p:=q) (q:=(y,z)) (R:=λs=>match s.d with | .bl b=>(if b=true then ∃d,(S.sh (prD q)).shd=some d/\(if (!decide (q=(y,z)))=true then some (prD q)else none)=some d else(if (!decide (q=(y,z)))=true then some (prD q)else none)=none)|_=>False) ?_
     exact ite2 (λh=>⟨_,rfl,Ya h⟩) (λh=>ZZ h)
    rw[Uy (λq:Int×Int=>!decide (q=(y,z)))];have hd:=A5 hyz;have hW2:=F8 (a:=y) (b:=z) hWw;refine⟨⟨bk++[(("drop" : Str),[y,z])],fs++[ps],us++[w],Xn w y z,_,.inr rfl,?_,by simp;omega,by simp[hf],by simp[hu'],hW2⟩,?_⟩
    ·have e:(((bk++[(("drop" : Str),[y,z])]).length:Nat):Int)=(bk.length:Int)+1:=by simp
     rw[e];rfl
    ·show((w.filter λq:Int×Int=>!decide (q=(y,z))).map prD).length<(w.map prD).length;rw[ZV,ZV];exact hd
   ·have hN:¬ ∃r,Ring (Js ps) w r:=(T7 hu).mp (YC λz=>g (by rw[Ym z];rfl));refine⟨rfl,rfl,bk,fs++[ps],us,w,rfl,w,rfl,by omega,iteF ⟨bk,fs,us,ps,w,rfl,hF,by omega,by omega,hu,hN,hR⟩⟩
end
end T
namespace T
open PySem PySem.Spec PyProof.Rows L2 Own M
def Mx{l:PySem.W.OpenLaw}{w:World}{K:Za}{h:Heap}{mg:Str->Option Value}{fa:Addr}(X:K.In h)(G0:h.Ns mainGlobals mg)(hfa:mg "law"=some (.ref fa)){Vj:Addr}(Vm:PySem.W.nsIn K mainGlobals "Village"=some (some (.ref Vj)))(Vv:PySem.W.plainGet K Vj Str.empty=true)(Vw:PySem.W.hasDictIn K Vj=true)(Vx:PySem.W.plainOver K Vj=true)(Vy:PySem.W.findIn K (.ref Vj) "__setattr__"=some (some (.builtin "object.__setattr__")))(Vz:PySem.W.makesIn K Vj=true)(V0:PySem.W.keepIn K (.ref Vj)=true)(V1:PySem.W.findIn K (.ref Vj) "book"=some none)(V2:PySem.W.findIn K (.ref Vj) "fields"=some none)(V3:PySem.W.findIn K (.ref Vj) "wished"=some none)(a1:Pu.DI K "check_holder" Bg)(a2:Pu.DI K "check_width" NP)(a3:Pu.DI K "check_strips" NH)(a4:Pu.DI K "holders_of" NF)(a5:Pu.DI K "pair_cost" Sx)(a6:Pu.DI K "longer_paths" Np)(a7:Pu.DI K "ring_from" Bc)(a8:Pu.DI K "find_ring" NB)(a9:Pu.DI K "check_no_ring" SX)(a10:Pu.DI K "with_wish" N6)(a11:Pu.DI K "without_wish" Sl)(a12:Pu.DI K "pair_costs" N9)(a13:Pu.DI K "sets_of" SE)(a14:Pu.DI K "without" BD)(a15:Pu.DI K "may_lie_last" SR)(a16:Pu.DI K "may_lie_first" SO)(a17:Pu.DI K "cost_with_last" SL)(a18:Pu.DI K "cost_with_first" Sg)(a19:Pu.DI K "least_costs" Nj)(a20:Pu.DI K "cost_table" Sh)(a21:Pu.DI K "best_order" Sz)(a22:Pu.DI K "least_cost" SB)(a23:Pu.MI K Vj "__init__" "Village.__init__" Ni)(a24:Pu.MI K Vj "strips" "Village.strips" NZ)(a25:Pu.MI K Vj "wishes" "Village.wishes" Nk)(a26:Pu.MI K Vj "check_room" "Village.check_room" Bs)(a27:Pu.MI K Vj "enter" "Village.enter" NK)(a28:Pu.MI K Vj "wish" "Village.wish" Nx)(a29:Pu.MI K Vj "drop" "Village.drop" Nq)(a30:Pu.MI K Vj "ring" "Village.ring" SM)(a31:Pu.MI K Vj "order" "Village.order" Sn)(a32:Pu.MI K Vj "cost" "Village.cost" Nn)(a33:Pu.DI K "_law_at" N8)(a34:Pu.DI K "_law_whole" SC)(a35:Pu.DI K "_law_mix" Nc)(a36:Pu.DI K "_law_draw" SG)(a37:Pu.DI K "_law_spare" NA)(a38:Pu.DI K "_law_menu" S8)(a39:Pu.DI K "_law_holder" N2)(a40:Pu.DI K "_law_strips" Bm)(a41:Pu.DI K "_law_wishes" Nr)(a42:Pu.DI K "_law_row" Nl)(a43:Pu.DI K "_law_tuples" NY)(a44:Pu.DI K "_law_present" N1)(a45:Pu.DI K "_law_price" Bi)(a46:Pu.DI K "_law_kept" B3)(a47:Pu.DI K "_law_is_ring" Bk)(a48:Pu.DI K "_law_no_ring" SH)(a49:Pu.DI K "_law_with_round" NG)(a50:Pu.DI K "_law_shuffled" N0)(a51:Pu.DI K "_law_refused_with" NR)(a52:Pu.DI K "_law_order_keeps" Sv){f53:Addr}{od53 an53:Option Addr}{sl53:Array (Option Value)}{oc53 kV53 dc53 pm53 cd53 ct53:Value}(a53:PySem.W.nsIn K mainGlobals "law"=some (some (.ref f53)))(l53:K.lookup f53=some ⟨oc53,od53,.func (PySem.W.fnOf "law" "law" (U4 UZ) (JV UZ) (Jk UZ) .none kV53 dc53 pm53 an53 cd53 ct53),sl53⟩)(c53:PySem.W.codeIn K cd53 "law"=true)(k53:PySem.W.keepIn K (.ref f53)=true)(V4:PySem.W.nsIn K mainGlobals "any"=some none)(V5:PySem.W.nsIn K mainGlobals "bool"=some none)(V6:PySem.W.nsIn K mainGlobals "int"=some none)(V7:PySem.W.nsIn K mainGlobals "isinstance"=some none)(V8:PySem.W.nsIn K mainGlobals "len"=some none)(V9:PySem.W.nsIn K mainGlobals "list"=some none)(VA:PySem.W.nsIn K mainGlobals "max"=some none)(VB:PySem.W.nsIn K mainGlobals "min"=some none)(VC:PySem.W.nsIn K mainGlobals "range"=some none)(VD:PySem.W.nsIn K mainGlobals "set"=some none)(VE:PySem.W.nsIn K mainGlobals "sorted"=some none)(VF:PySem.W.nsIn K mainGlobals "sum"=some none)(VG:PySem.W.nsIn K mainGlobals "tuple"=some none){VP:Tok}(VH:PySem.W.nsIn K mainGlobals "HOLDERS"=some (some (.int 10 VP))){VQ:Tok}(VI:PySem.W.nsIn K mainGlobals "STRIPS"=some (some (.int 40 VQ))){VR:Tok}(VJ:PySem.W.nsIn K mainGlobals "WIDEST"=some (some (.int 1000 VR))){VS:Tok}(VL:PySem.W.nsIn K mainGlobals "MOST_WISHES"=some (some (.int 20 VS))){VT:Tok}(VM:PySem.W.nsIn K mainGlobals "MOST_DEEDS"=some (some (.int 100 VT))){VU:Addr}(Vn:Pu.EI K "TooManyStrips" VU){VW:Addr}(Vo:Pu.EI K "BadHolder" VW){VX:Addr}(Vp:Pu.EI K "BadWidth" VX){VY:Addr}(Vq:Pu.EI K "LikeHolders" VY){VZ:Addr}(Vr:Pu.EI K "WishStands" VZ){Ja:Addr}(Vs:Pu.EI K "TooManyWishes" Ja){Jb:Addr}(Vt:Pu.EI K "NoWish" Jb){Jc:Addr}(Vu:Pu.EI K "BookFull" Jc){VN:Addr}(Vl:Pu.RI K "Ringed" VN "Ringed.__init__" ND)(x_Ringed:PySem.W.exmOne K (.ref VN) (.ref VN)=some true)
  : ∃fd:FuncData,(∀(s:Shared) (v:Value),BindsTo s fd ⟨[v],[]⟩ [("_law_script",v)])/\∀base:Heap,K.In base->base.Ns mainGlobals mg->FnOk l.prog w K mg base CX0 9 fa fd ["_law_script"] (Pu.B0 K):=by
 have e:=hfa.symm.trans (YQ X G0 a53);cases e
 have VO:=Vl.c X G0;have Vk:=ExcR.Su (YQ X G0 Vm);have G:Glob K mg:=⟨YF X G0 V4,YF X G0 V5,YF X G0 V6,YF X G0 V7,YF X G0 V8,YF X G0 V9,YF X G0 VA,YF X G0 VB,YF X G0 VC,YF X G0 VD,YF X G0 VE,YF X G0 VF,YF X G0 VG,⟨_,YQ X G0 VH,⟨_,rfl⟩⟩,⟨_,YQ X G0 VI,⟨_,rfl⟩⟩,⟨_,YQ X G0 VJ,⟨_,rfl⟩⟩,⟨_,YQ X G0 VL,⟨_,rfl⟩⟩,⟨_,YQ X G0 VM,⟨_,rfl⟩⟩,(Vn.m X G0),(Vn.k X G0),(Vo.m X G0),(Vo.k X G0),(Vp.m X G0),(Vp.k X G0),(Vq.m X G0),(Vq.k X G0),(Vr.m X G0),(Vr.k X G0),(Vs.m X G0),(Vs.k X G0),(Vt.m X G0),(Vt.k X G0),(Vu.m X G0),(Vu.k X G0),(Vl.m X G0),(Vl.i X G0),(by rw[VO];exact x_Ringed),(by rw[Vk];exact YQ X G0 Vm),(by rw[Vk];exact⟨Vv,Vw,Vx,Vy⟩),(by rw[Vk];exact V1),(by rw[Vk];exact V2),(by rw[Vk];exact V3)⟩;have F53:=PQ (st:=UZ) l53 c53 k53;have b53:=F53.binds (ps:=["_law_script"]) λ_ _ _ _ _ _ us hl=>by obtain⟨_,rfl⟩:=Pu.len1 hl;rfl
 have D53:Def K mg "law" UZ ["_law_script"]:=⟨_,_,F53,YQ X G0 a53,b53⟩;refine⟨PySem.W.fnOf "law" "law" (U4 UZ) (JV UZ) (Jk UZ) .none kV53 dc53 pm53 an53 cd53 ct53,λs v=>.of_eq rfl,λbase _ _=>?_⟩;have C0:=@G1 l.prog w K mg base G (Vl.j VO);have C1:=@IF l.prog w K mg base G (a1.e X G0);have C2:=@Rz l.prog w K mg base G (a2.e X G0);have C4:=@OE l.prog w K mg base G (a4.e X G0);have C5:=@Zae l.prog w K mg base G (a5.e X G0);have C6:=@GL l.prog w K mg base G (a6.e X G0);have C11:=@HZ l.prog w K mg base G (a11.e X G0);have C13:=@E1 l.prog w K mg base G (a13.e X G0);have C14:=@EX l.prog w K mg base G (a14.e X G0);have C15:=@Ho l.prog w K mg base G (a15.e X G0);have C16:=@L8 l.prog w K mg base G (a16.e X G0);have C24:=@Gq l.prog w K mg base G (a24.e Vk);have C25:=@Re l.prog w K mg base G (a25.e Vk);have C26:=@Eh l.prog w K mg base G (a26.e Vk);have C27:=@OZ l.prog w K mg base G (a27.e Vk);have C33:=@Rr l.prog w K mg base G (a33.e X G0);have C34:=@Zac l.prog w K mg base G (a34.e X G0);have C35:=@M8 l.prog w K mg base G (a35.e X G0);have C38:=@LY l.prog w K mg base G (a38.e X G0);have C39:=@Ly l.prog w K mg base G (a39.e X G0);have C44:=@GC l.prog w K mg base G (a44.e X G0);have C45:=@G7 l.prog w K mg base G (a45.e X G0);have C46:=@LQ l.prog w K mg base G (a46.e X G0);have C48:=@OI l.prog w K mg base G (a48.e X G0);have C49:=@E7 l.prog w K mg base G (a49.e X G0);have C50:=@MW l.prog w K mg base G (a50.e X G0);have C3:=@Hg l.prog w K mg base G (a3.e X G0) C1 C2;have C7:=@Me l.prog w K mg base G (a7.e X G0) C6;have C10:=@HN l.prog w K mg base G (a10.e X G0) C1;have C12:=@IM l.prog w K mg base G (a12.e X G0) (KQ C4) C5;have C17:=@Em l.prog w K mg base G (a17.e X G0) C14;have C18:=@OB l.prog w K mg base G (a18.e X G0) C14;have C29:=@Ib l.prog w K mg base G (a29.e Vk) C26 C11 C27 C25 C24;have C36:=@Ra l.prog w K mg base G (a36.e X G0) C35 C33;have C37:=@LP l.prog w K mg base G (a37.e X G0) C35 C33;have C42:=@Ie l.prog w K mg base G (a42.e X G0) C34;have C43:=@I0 l.prog w K mg base G (a43.e X G0) C34;have C47:=@Rx l.prog w K mg base G (a47.e X G0) C34;have C8:=@Ej l.prog w K mg base G (a8.e X G0) C7;have C19:=@Lm l.prog w K mg base G (a19.e X G0) C13 (KQ C4) C15 C17;have C23:=@MX l.prog w K mg base G (a23.j Vk Vz V0) C3;have C28:=@Ls l.prog w K mg base G (a28.e Vk) C26 C10 C27 C25 C24;have C40:=@HE l.prog w K mg base G (a40.e X G0) C36 C39;have C41:=@ED l.prog w K mg base G (a41.e X G0) C36 C39;have C9:=@MD l.prog w K mg base G (a9.e X G0) C8 (KQ C4) C0;have C30:=@L4 l.prog w K mg base G (a30.e Vk) C8 (KQ C4) C25 C24;have C20:=@Lb l.prog w K mg base G (a20.e X G0) C9 C19 C12;have C21:=@RV l.prog w K mg base G (a21.e X G0) C9 C12 C19 (KQ C4) C14 C16 C18;have C22:=@L3 l.prog w K mg base G (a22.e X G0) C20;have C31:=@LZ l.prog w K mg base G (a31.e Vk) C21 C24 C25;have C32:=@RK l.prog w K mg base G (a32.e Vk) C22 C24 C25;have C51:=@O1 l.prog w K mg base G (a51.e X G0) C42 C32;have C52:=@Lf l.prog w K mg base G (a52.e X G0) C31 C42 C46 C32 C45 C30 C44;have C53:=@Rw l.prog w K mg base G D53 C38 C40 C44 C37 (O5 C50) C49 C23 C52 C36 C41 C28 C48 C30 C43 C42 C25 C33 C47 C51 C29;exact(C53.at (YQ X G0 a53) F53 D53).imp λ_ _ _ _ z=>Pu.Oe z
end T
structure PySem.W.Fast:Prop where (tw398504985387124912 tw15478639235747932160 tw10791711959307140160 tw1976524660121099328 tw3670233151864314976 tw4330250748162421856 tw11182944619832845472 tw10848078459438535872 tw9963893812766741760 tw6512123694127743264 tw163779549422880032 tw16267234559977121056 tw6436708382328027424 tw13806084626182963552 tw15269306907084299648 tw1333960377420597664 tw11623137219442864544 tw5036958707439906272 tw6364091880182647296 tw7985468238012944992 tw2431902600349064800 tw647173106449982144 tw8981969207954400960 tw10944196471058217696 tw16696148665581814496 tw15243906573446792928 tw13140870179916219136 tw10365872980917415680 tw5437871879054621440 tw14246477013031910144 tw5915355569738528576 tw17840638646259760960 tw852864231997934432 tw14782457686477436768 tw3475199237082216288 tw6094118568928707456 tw16191656993336296416 tw17785376934207237088 tw2022533832580976608 tw3117272740322791489 tw9105207391465824321 tw5370464130251007137 tw17625359595650296993 tw17305233229295338689 tw17538302488450546913 tw13307120054454675745 tw15050453126924529953 tw3598302872995651073 tw14112348687419206177 tw11977125189218691681 tw12533267935609409153 tw3379979762182222465 tw12905199168046973601 tw2479958126962428577 tw7813606429533495969 tw15241520218605874849 tw1147901234832395009 tw390077142567046945 tw13340502418576606017 tw6476992971259670337 tw17782077143832806305 tw1033739869783442369 tw14493493270936901666 tw15551270455233754178 tw9313524309585532002 tw9278245540500971682 tw7055332550918755586 tw1760039747799030082 tw7678986812506633570 tw1529947855162642850 tw18100176338834560482 tw18246886103859347938 tw9079291751606447618 tw13494296892840166946 tw11730228126575928962 tw3542421409502329538 tw24431506359810754 tw7001395056427432674 tw13158461858631206658 tw3700107745140452130 tw3162872365706225474 tw13384668109429917538 tw15361378235830303618 tw7602416751156650914 tw6803190901784768418 tw14830009699361593282 tw944468688308021186 tw17162070596092933123 tw9971368822659639299 tw14168862684238555171 tw18444720939744555075 tw12756474488824843395 tw8696776542323876035 tw10774764736646199523 tw4311996719757125859 tw5849225626072839395 tw12560433506336508163 tw3949348149797288195 tw15569703683219573091 tw9928585732068895107 tw4075548907070442947 tw12733276426951003619 tw15273449105531085315 tw5581224192278198819 tw14977464458504665635 tw11899460521567425251 tw14501937734883368707 tw17492071073351087907 tw12471675070652076931 tw9732196293079637987 tw780985110795021380 tw16405465982876577924 tw8609253572939281540 tw3691734483054722180 tw3348839094897285316 tw17961971303549440228 tw18018470234208073988 tw10897352572995382628 tw3285225688477121924 tw7984373704958493124 tw8974688891038014084 tw6551830811762578052 tw15277089554202135300 tw13171923326734026500 tw5746045272932793124 tw13974245166076987364 tw10005249482788586501 tw12552453585337831461 tw17244948734565111845 tw6306414085397515365 tw14215561171196089477 tw1363949834421770373 tw12148280788207084741 tw12849062461329242309 tw16299148033340496165 tw17419201179518050629 tw1406553252620948805 tw14570991079423044933 tw12897124557939405125 tw18174867136399862117 tw9212326635561364869 tw11668551565953606053 tw14711637189207375301 tw5186170247357630021 tw16319985607533772453 tw8942626836082606757 tw8363569251903891141 tw11694308184493806309 tw1623305435646120677 tw5516165808727195365 tw8200910545856005925 tw17513765855877044101 tw5473683458851804069 tw14372837426115953573 tw308803155915392933 tw3951341187592970149 tw5149651904860300358 tw8069053155572810982 tw9800910807282081030 tw9616765845087452486 tw9499914348328076678 tw8767508431891473830 tw8726235479516108230 tw11393873391081381350 tw9349451579053353510 tw16342759514812971558 tw768757566589063846 tw4809252290494937798 tw2315441303502121734 tw16192811142021540614 tw11396580403184380838 tw11826413105624854470 tw8700043174940492742 tw3506984897987512294 tw15720085817864522759 tw7146772159944870919 tw11635182599977555975 tw10646422109496030247 tw16905810949206951015 tw2739167758030495911 tw4704639427303991527 tw15967712193859760487 tw3215496915859854695 tw7766799666902951271 tw7112919048485774823 tw10661433220873960935 tw10811762480003473927 tw13360346800943660551 tw6091694827340841511 tw7743662503440471623 tw6898205461556846151 tw4456723778485335655 tw16594942671107740263 tw6679156071483602535 tw4533966898581913223 tw4553484869801751303 tw6229251050824823591 tw8253549618956341223 tw2323214167151090663 tw13789783337516786663 tw11224417351779828744 tw7154991186266847272 tw5730513974149910632 tw5067599880788587656 tw5839519693544928424 tw5091566476918313128 tw10475778110590654760 tw4696492583111731528 tw10752279123397475720 tw3262273280836601256 tw598021594979622344 tw12615600157378581992 tw16217954486635922984 tw8912539870249874024 tw14632869982715929256 tw6718585725209559752 tw8964356459018156776 tw3440922483759330056 tw13688288303933257480 tw12756824212538427176 tw7293428651787195208 tw11655776640653613000 tw10728096737075161032 tw9597635141123903497 tw11110032197507571753 tw7378035939820892233 tw821073027273764969 tw14146497272858014857 tw2554658755335952553 tw13357322375857366185 tw9808832940375496905 tw16983230078980892969 tw15249685185253618025 tw14203775801291094377 tw15505381407521633705 tw12190582901556762089 tw742107382221294089 tw4690304838244933193 tw6307453282487304809 tw12169446232197444201 tw10649296601518837417 tw14325162183736673993 tw12598386138108291785 tw11101176176644570857 tw13349643874664088393 tw11379293396943021897 tw4466509574892455785 tw1083635439028832105 tw16870753722713475945 tw5117599846921054057 tw18073999006827266058 tw13933543584952881194 tw6731256642430393546 tw7396091627135930602 tw1036623250117881098 tw8408397101397027178 tw13942505376261977482 tw2573496664347254250 tw9757622552086882794 tw2326528295278327402 tw10164515277617315498 tw17739942651619892938 tw10987893277714837258 tw930979551402199850 tw17557711708176795434 tw142625099191095114 tw2247417686416687978 tw10949477889516039018 tw7746369289585639370 tw9547620482113467595 tw12954879300094241003 tw13731116756526952747 tw3786589936220570955 tw8009946835840160075 tw2982462461034365291 tw5434792694648990091 tw9898207228914201995 tw16782378879776157099 tw15455374569646957035 tw5295328084679538155 tw2087536689690787403 tw6005019841249511019 tw5289700556206031499 tw17079152510394755755 tw15787837540891256587 tw8879796741216425803 tw5634030714443610987 tw5020307451492480939 tw12904291409976967083 tw16906980394043295659 tw12473430938154585035 tw15017936451190215692 tw577982648836231276 tw3918005534474174700 tw15685290399432346924 tw6203606563023540524 tw4537139150176705836 tw3232852791927695692 tw5604359017604643212 tw1388654659867335116 tw12897916879382581740 tw2424601390694570476 tw1016521179299728908 tw6335255094110244396 tw4580990870441669196 tw13719571518226420332 tw11023149105977162348 tw4126393637300205228 tw12990018297204763340 tw8512484355030149836 tw1418790607415453420 tw17075049634664318892 tw8727934623822069676 tw1078557115648632748 tw12355299366160791693 tw5569382308233581741 tw5499427405488130253 tw13466562506103041261 tw4405820619580048685 tw11341184560415591853 tw11983053895971964365 tw8899714073477388781 tw2427260725276887629 tw10014676636004345421 tw5696422398740156045 tw5869697897669583533 tw10197574452545384173 tw8273360378751881037 tw11602030048014653261 tw5827763212097299341 tw8080644178590816141 tw443323128832670637 tw12215760702959124397 tw12666079644272920557 tw3602847442565409838 tw5146237711329992782 tw2083364635989652558 tw17366034659265528942 tw1575427758529541230 tw728692626411447438 tw13337884359999487150 tw15734907288247255246 tw17664832683947094254 tw16187647588297613678 tw15705180234711097774 tw15974925682413722062 tw6182343388651266542 tw4480091582347979246 tw9930443670307792366 tw5784177949104170542 tw6578403410170236526 tw1050371351572331150 tw3909598824374472366 tw17995063041475091118 tw4065681248824629998 tw219510495957160750 tw10358078569931560782 tw11267713522440630126 tw8919007407602304942 tw2580465746216897454 tw10484118120011837422 tw9678357409032888335 tw8864337496979439727 tw6838930175724489839 tw14564280661676873839 tw4447807435870325903 tw2882982130801037519 tw8854749103733990607 tw854196577190029551 tw2856728585255105775 tw8610506354275734927 tw16272951304917613967 tw1351736002254570927 tw11608844910634613199 tw8068885180539350575 tw14775912795980000847 tw14099270517875471023 tw2480840950308746991 tw9562358884139959087 tw11745356287839391599 tw15802996935982125999 tw17521612412109738927 tw9144778765401577391 tw14860379789726526415 tw14077207698268176335 tw8773614043638324175 tw16007911848493725679 tw10443178467329834032 tw18430209382422857840 tw17122952732000254064 tw11475936429769789584 tw16029840038164435088 tw15798959144247768208 tw456054540703074480 tw7728391543623268560 tw14838813485094985072 tw3076527891679658384 tw9220429266461446544 tw15346910366119199216 tw13843199428822435376 tw41417972578373168 tw15078037737379579504 tw15322103590830797456 tw17812198850883417872 tw2489576210621233936 tw4706057436447799088 tw1794833232208009072 tw4772112602062153584 tw10701517687972231120 tw2042436823127569425 tw7295890000592970801 tw1842508213499975761 tw2051187521087639697 tw10834919585119094961 tw10444365056924591313 tw13662877000926500081 tw3040510388852175185 tw4981895914632198481 tw3848683207148043697 tw2517684308904806897 tw3002763406777608689 tw10460431367960696401 tw4969191835570476657 tw9502375381325019825 tw13026065683005960913 tw6819807916984916753 tw9889572899775390513 tw4467355292148799345 tw18792311519730545 tw9384559232840244145 tw2243583163024838609 tw16563473226084418545 tw5800625470629875697 tw17981079723898707953 tw12544486640849276082 tw11421187587210911026 tw8407408339568677202 tw9890582395617764690 tw11149462332003084626 tw4452295020177269106 tw14753121343025504658 tw5812148386662222290 tw17925650354647185970 tw15742364617039502930 tw14072564020349231890 tw5667629262435321650 tw15255190036777674674 tw4404891187893259186 tw6529566707848371122 tw18060853940880542674 tw17780108497082234834 tw5287791271684062387 tw14462459399237814547 tw2555540490837136691 tw11255787102824564083 tw8529489079784466803 tw9039431199718686099 tw14009544123736549811 tw1390831758886080979 tw515802671972911603 tw5826537144682015251 tw18265900081404205651 tw16484588421905694323 tw17833738693962245779 tw8979756322763910803 tw9259916433987291827 tw5873582160273070771 tw6111723549925179059 tw12738595757184559827 tw4604223983287180051 tw13828467564247225139 tw9940249253318368051 tw2393719251460640659 tw12633801849702022131 tw371263405078720724 tw17037458924574343412 tw12478226996427530484 tw16789746007862747444 tw10010840205818261844 tw1953328343612625268 tw6416041285618853236 tw15411031595349276020 tw6519914921157500308 tw14383031398102428052 tw8445529606256364980 tw5276373897190111668 tw10492018310572123636 tw9467682035870564916 tw1326381184323979828 tw10788191260813844052 tw8497828114285091444 tw17308737583599138516 tw5189162257476837108 tw133543912413193972 tw10034478517645570804 tw856431949327365876 tw15570951283984299860 tw15776814021580644244 tw7413990868977575860 tw12605152096984764372 tw12202086510933666772 tw11033416330114138133 tw14960440252101400597 tw15596984861676671093 tw6638585002301367413 tw14590736151984309397 tw16234959356189136021 tw3725751883552008405 tw5788610132225048821 tw6898963323543506165 tw10009015661905305845 tw2604866796840746261 tw399214693874703829 tw17769580888222265813 tw17779463399010721269 tw6729980650316442133 tw15164025498315666997 tw17235440918576238165 tw10611547607424384597 tw11862434406530113109 tw6530383847991463541 tw7949332480019066485 tw10134263256455715477 tw16937739327785021077 tw4781572083647906485 tw16106581693244216053 tw10801888316569543477 tw5872211896978625461 tw17743829512552480725 tw2196314009185208309 tw13422276984729882678 tw7518202523160744022 tw17904252429698244694 tw15410366855966124150 tw16363312112232895670 tw11549297071823494326 tw9034156503491938518 tw9104394050756366550 tw14953816433889242358 tw11929977288113077526 tw8014599952824686870 tw16536326754516759094 tw17166128359787986518 tw5612932222872572534 tw5970300362911685270 tw14467405819342022294 tw4325341877255225046 tw14076827921903445718 tw445032019753707286 tw13385516387164443414 tw6269765349719525174 tw9003115885603397687 tw3775630792108178487 tw2531525135521153111 tw17656362863813442679 tw18192126894191849687 tw12318925343847058743 tw14520870436263993687 tw9959867136440512855 tw1047862385020751191 tw10891055670859031991 tw11023459594655440375 tw14253660272117535223 tw13542990955433072183 tw4865423581692879415 tw7592740474043962999 tw6976604819621039831 tw13722822284421376759 tw32406546778995447 tw7898894159846481687 tw16684265757028480823 tw5509521545829105527 tw10218812280970090455 tw17975416959121448951 tw14233252758413240311 tw11468934060914768887 tw2090728797728708632 tw15758632385713418296 tw10852532861872211064 tw17270787354675823736 tw15517483090334346360 tw17045610905916652696 tw1743691970983083160 tw13207627482413206744 tw8630292576809434328 tw5015412725885142360 tw6860653471038227800 tw9659663884848541112 tw16077897248333932024 tw7059658539512296952 tw2169743686424143416 tw11993729734115218008 tw9338217100356473432 tw6959373673570438776 tw7384612245293745880 tw6045388813334638392 tw905441819013176152 tw11948609084592183192 tw10572242348943703960 tw2376285769100496824 tw18075205112705244120 tw12852436218454107096 tw4292354530203985912 tw4975110083799975961 tw13014052482946019353 tw14003860190639900857 tw1998665464497018073 tw5691606840708870361 tw17237467658913530233 tw7470695835010647449 tw3461797126345195993 tw9133746942417737209 tw13844213801598320185 tw2219583648932843097 tw2109756626525193881 tw13849239780471132825 tw7301662170184049337 tw5465018774923406009 tw16929858368590584569 tw8899046945904559897 tw2776861069339969337 tw5026365889563079513 tw1296972050698074969 tw17925377661764413337 tw9334047774945543097 tw15396605905376792537 tw7117031073816743929 tw17779667729082143802 tw15280924300307424346 tw8916573710390603898 tw12973894956173807802 tw13492740972195476698 tw7532491521557289210 tw11697691298496773402 tw4243978940231123258 tw8799694026140537146 tw12970923164602377594 tw17700667366774005146 tw7525575754279382426 tw14582676434776640090 tw15220273410781303482 tw1687443613261894554 tw9004086757292956666 tw11155137078612007035 tw10711244482431220859 tw1011904061310107803 tw10854151666647245979 tw13974298274388393275 tw3337402368570452315 tw15459423351319258523 tw17957662280394696123 tw5076476329908070971 tw17250209238606582363 tw10634447471070495323 tw16631330856986219163 tw4227126032479576795 tw18230063535062692603 tw8836814191899326203 tw9692942148204550939 tw2758376544749906843 tw5962863784614524124 tw1938005970282699004 tw11217499674074057052 tw11345030355223645532 tw14030986078997139868 tw10320953801444443580 tw16178670500423981500 tw8171561971439045084 tw5324381593677253084 tw9546207287371139676 tw494681447982075484 tw17218327514745187036 tw8687410956774249244 tw4156365676262888252 tw15955188414161622908 tw7293000456492722076 tw5448205106068111292 tw11756855659313483805 tw8171234229928100925 tw16114482816698029181 tw8670500821127187581 tw15101997132054950077 tw15581074060735740125 tw16807692394829332733 tw4055601330089866621 tw2829284052873044349 tw5007126093616420349 tw2278410302004963837 tw16843927702506906173 tw4086979648897981021 tw9091249908435905117 tw8315038776152621693 tw257871530722124413 tw5870684494213249757 tw7087270837065654013 tw3824924957828776797 tw9895077973340028765 tw17381238285191984125 tw14682200049783406622 tw5864237877571186718 tw15378262867271193726 tw4451579688882309310 tw15681381737237384382 tw4504362645929178334 tw11372210631588721886 tw15701732927409297662 tw8542726560651268414 tw2585396290072445278 tw14309310530509042014 tw10781957725588621726 tw7892101836524723614 tw16776070368425275838 tw11538530577631499742 tw9738870258431842782 tw17652062204547138078 tw10422703419559318078 tw11229621372376875614 tw6579458123350901374 tw1192169260075960958 tw10302937869601512190 tw657395892102682494 tw11437473982590788574 tw3485459123285150686 tw15953244783743487966 tw6284807120938698815 tw12964041309429372991 tw12225029936336411775 tw9773636735573081311 tw18034944182574777727 tw11221411883928680831 tw4513029703522823583 tw18025168800505423263 tw16289586509580267999 tw17846899054938522143 tw1374758585670861407 tw3562460409618902879 tw15571176717471367039 tw9109541376774620031 tw4332852189409883103:True)
open PySem PySem.W PyProof.Rows
set_option maxRecDepth 100000 in
set_option maxHeartbeats 0 in
theorem PySem.Challenge.cw_stripmeld_k51_whole_rings_dropped_holds : PySem.Challenge.rw_stripmeld_k51_whole_rings_dropped.Holds := by
 w_on;o_law;k_head;(case hw=>w_witness2)
 k_fill
 refine L2.Ht (l:=PySem.Challenge.rw_stripmeld_k51_whole_rings_dropped) (n:=63) (k:=9) (x:="_law_script") (CX:=L2.CX0) (sp:=Pu.B0) rfl (by decide) rfl ⟨rfl,by decide,by decide⟩ (fun w h Y=>PySem.W.kIn_of Y) ?F ?S ?C
 case F=>
  intro w mg fa h KX G hmg
  refine' T.Mx KX G hmg ?Vm ?Vv ?Vw ?Vx ?Vy ?Vz ?V0 ?V1 ?V2 ?V3 ?a1 ?a2 ?a3 ?a4 ?a5 ?a6 ?a7 ?a8 ?a9 ?a10 ?a11 ?a12 ?a13 ?a14 ?a15 ?a16 ?a17 ?a18 ?a19 ?a20 ?a21 ?a22 ?a23 ?a24 ?a25 ?a26 ?a27 ?a28 ?a29 ?a30 ?a31 ?a32 ?a33 ?a34 ?a35 ?a36 ?a37 ?a38 ?a39 ?a40 ?a41 ?a42 ?a43 ?a44 ?a45 ?a46 ?a47 ?a48 ?a49 ?a50 ?a51 ?a52 ?a53 ?l53 ?c53 ?k53 ?V4 ?V5 ?V6 ?V7 ?V8 ?V9 ?VA ?VB ?VC ?VD ?VE ?VF ?VG ?VH ?VI ?VJ ?VL ?VM ?Vn ?Vo ?Vp ?Vq ?Vr ?Vs ?Vt ?Vu ?Vl ?x_Ringed
  (case Vm|Vv|Vw|Vx|Vy|Vz|V0|V1|V2|V3=>k_is)
  (case a1|a2|a3|a4|a5|a6|a7|a8|a9|a10|a11|a12|a13|a14|a15|a16|a17|a18|a19|a20|a21|a22=>apply Pu.di<;>k_is)
  (case a23|a24|a25|a26|a27|a28|a29|a30|a31|a32=>apply Pu.mi<;>k_is)
  (case a33|a34|a35|a36|a37|a38|a39|a40|a41|a42|a43|a44|a45|a46|a47|a48|a49|a50|a51|a52=>apply Pu.di<;>k_is)
  (case a53|l53|c53|k53|V4|V5|V6|V7|V8|V9|VA|VB|VC|VD|VE|VF|VG|VH|VI|VJ|VL|VM=>k_is)
  (case Vn|Vo|Vp|Vq|Vr|Vs|Vt|Vu=>apply Pu.ei<;>first|(k_is;done)|k_exc)
  (case Vl=>apply Pu.ri<;>first|(k_is;done)|k_exc|rfl)
  (case x_Ringed=>kts_exm)
 case S=>exact fun K H a ns hl hO hS=>⟨a,ns,rfl,hS,fun _=>rfl⟩
 case C=>exact fun _ _ _ _ z=>z
