import PyProof.Rows.All
import Wide.All
import OpenK.AllK
import Wide.FinOn
import Lean
import PyProof.EqAt
import PyProof.EqKinds
import PyProof.TupleCall
import PySem.Challenge.RW_stripmeld_k38_whole_wishes_or_ring
set_option Elab.async false
set_option linter.all false
set_option maxRecDepth 100000
noncomputable section
def Yi:=@List.length_map
def Yj:=@List.getElem?_eq_getElem
def Yk:=@PySem.wpAny_bind
def Yl:=@decide_eq_true
def Ym:=@List.mem_singleton
def Yn:=@if_pos
def Yo:=@if_neg
def Yp:=@of_decide_eq_true
def Yq:=@PySem.Heap.get?_push_of_some
def Yr:=@Nat.le_refl
def Ys:=@PySem.wpAny_pure
def Yt:=@List.length_append
def Yu:=@PySem.Heap.lt_size
def Yv:=@Option.some.inj
def Yw:=@List.getElem?_map
def Yx:=@List.mem_cons
def Yy:=@Nat.le_trans
def Yz:=@List.size_toArray
def Y0:=@decide_eq_false
def Y1:=@List.getD_eq_getElem?_getD
def Y2:=@List.getElem?_eq_some_iff
def Y3:=@PySem.Heap.get?_push_size
def Y4:=@List.mem_append
def Y5:=@List.map_append
def Y6:=@List.length_cons
def Y7:=@Bool.false_ne_true
def Y8:=@List.mem_of_getElem?
def Y9:=@Bool.and_eq_true
def YA:=@Nat.ne_of_lt
def YB:=@List.mem_cons_of_mem
def YC:=@List.getElem_mem
def YD:=@List.take_succ_eq_append_getElem
def YE:=@List.mem_iff_getElem
def YF:=@List.mem_append_right
def YG:=@List.mem_filter
def YH:=@List.map_cons
def YI:=@PySem.F.plainAttrs_list
def YJ:=@List.length_take
def YK:=@Nat.lt_of_lt_of_le
def YL:=@List.mem_cons_self
def YM:=@List.getElem?_append_left
def YN:=@Classical.byContradiction
def YO:=@List.getElem?_append_right
def YQ:=@congrArg
def YR:=@Nat.add_le_add
def YS:=@PySem.wpAny_mono
def YT:=@PySem.PassesOwn.never
def YU:=@List.mem_map
def YV:=@PySem.W.mg_none_of
def YW:=@List.append_nil
def YX:=@Int.toNat_natCast
def YY:=@Array.length_toList
def YZ:=@List.pairwise_iff_getElem
def Wa:=@List.nodup_cons
def Wb:=@PySem.Heap.get?_update_self
def Wc:=@List.length_filter_le
def Wd:=@List.getElem?_cons_succ
def We:=@PySem.Heap.get?_update_other
def Wf:=@PySem.W.mg_of
def Wg:=@PySem.F.slot_list_append
def Wh:=@PySem.F.type_list_append
def Wi:=@List.length_singleton
def Wj:=@List.length_set
def Wk:=@List.map_map
def Wl:=@List.lookup_cons
def Wm:=@Classical.not_not
def Wn:=@PySem.W.kia_one
def Wo:=@List.mem_append_left
def Wp:=@List.take_length
def Wq:=@Nat.lt_irrefl
def Wr:=@Nat.zero_le
def Ws:=@List.getElem_take
def Wt:=@beq_eq_false_iff_ne
def Wu:=@Array.getElem?_toList
def Wv:=@List.getElem?_take_of_lt
def Ww:=@PySem.Obj.data_mapFields
def Wx:=@PySem.wpAny_holding
def Wy:=@List.length_eq_zero_iff
def Wz:=@PySem.wpAny_newObj_type
def W1:=@List.nodup_append
def W2:=@decide_eq_true_eq
def W3:=@PySem.wpAny_loadPart_at
def W4:=@PySem.Heap.SameBut.update
def W5:=@List.cons_append
def W6:=@List.eq_nil_or_concat
def W7:=@Array.getElem?_eq_getElem
def W8:=@Nat.le_of_eq
def W9:=@List.dropLast_concat
def WA:=@Bool.eq_false_iff
def WB:=@List.getElem?_replicate
def WC:=@List.filterMap_cons
def WD:=@PySem.mem_of_lookup
def WE:=@PySem.Heap.size_push
def WG:=@List.dropLast_concat_getLast
def WH:=@Nat.le_succ
def WI:=@PyProof.Rows.callWith_type1
def WJ:=@PySem.codeAny_mono
def WK:=@List.pairwise_cons
def WL:=@PyProof.Rows.F.plain_set_update_loop
def WM:=@PySem.wpAny_passesOwn
def WN:=@PySem.Obj.isFreed_of_fields
def WO:=@Bool.true_and
def WQ:=@PySem.F.excBase_ValueError
def WR:=@PySem.wpAny_truthy_bool
def WS:=@PySem.wpAny_setState_of
def WT:=@Nat.lt_succ_of_lt
def WU:=@PySem.Heap.get?_none_of_le
def WV:=@PySem.W.looks_findIn
def WW:=@PySem.Around.under_plainId
def WX:=@List.mem_of_mem_take
def WY:=@Bool.false_and
def WZ:=@List.nodup_nil
def Qa:=@PySem.wpAny_setField
def Qb:=@Nat.lt_succ_self
def Qc:=@List.length_drop
def Qd:=@List.all_eq_true
def Qe:=@List.idxOf_lt_length_iff
def Qf:=@List.length_pos_iff
def Qg:=@List.any_cons
def Qh:=@List.find?_cons
def Qi:=@PySem.codeAny_builtin
def Qj:=@List.getElem?_set_self
def Qk:=@List.take_of_length_le
def Ql:=@List.filterMap_eq_map'
def Qm:=@PySem.W.methodCall_KW
def Qn:=@Nat.lt_trans
def Qo:=@List.getElem?_eq_none
def Qp:=@List.filterMap_append
def Qq:=@List.concat_eq_append
def Qr:=@PySem.F.slot_list_pop
def Qs:=@PySem.F.type_list_pop
def Qt:=@List.getElem?_set_ne
def Qu:=@List.pairwise_append
def Qv:=@PySem.wpAny_call_entry
def Qw:=@PySem.wpAny_standAt
def Qx:=@Array.getElem?_eq_some_iff
def Qy:=@List.drop_eq_getElem_cons
def Qz:=@List.cons.injEq
def Q0:=@PyProof.Rows.boot_isinstance
def Q1:=@Nat.le_of_lt
def Q2:=@PySem.wpAny_Call_Name_kw
def Q3:=@PySem.F.args_tuple_add_2
def Q4:=@PySem.tupleKind_room_in1
def Q5:=@PyProof.Rows.F.entry_set_update_loop
def Q6:=@List.getElem_idxOf
def Q7:=@Nat.add_sub_cancel
def Q8:=@List.map_singleton
def Q9:=@Int.ne_of_lt
def QA:=@Nat.not_lt
def QB:=@List.take_zero
def QC:=@PySem.F.entry_tuple_add
def QD:=@PySem.F.slot_list_index
def QE:=@List.take_sublist
def QF:=@PySem.fits_of_scanBound
def QG:=@Bool.not_eq_true'
def QH:=@PySem.sizeLine_eq
def QI:=@PySem.F.slot_tuple_add
def QJ:=@List.all_cons
def QK:=@PySem.plainId_quiet
def QL:=@PySem.W.any_some
def QM:=@List.not_mem_nil
def QN:=@List.getElem?_reverse
def QO:=@PySem.wpAny_execs_nil
def QP:=@Nat.ne_of_gt
def QR:=@Bool.eq_iff_iff
def QS:=@PySem.wpAny_call
def QT:=@PySem.Calls.evalArgs_plain
def QU:=@List.length_dropLast
def QV:=@Option.map_some
def QW:=@List.forIn_cons
def QX:=@PySem.codeAny_call_builtin
def QY:=@List.mem_of_mem_drop
def QZ:=@PySem.W.plainGet_of
def Va:=@PySem.W.looks_clsIn
def Vb:=@List.filter_sublist
def Vc:=@List.length_reverse
def Vd:=@List.mem_map_of_mem
def Ve:=@PySem.wpAny_isSubtype_exc
def Vf:=@List.mem_filterMap
def Vg:=@PySem.W.Looks.here
def Vh:=@PySem.W.callWith_K
def Vi:=@Nat.lt_of_le_of_lt
def Vj:=@PySem.W.isNs_of_in
def Vk:=@List.contains_cons
def Vl:=@Int.emod_lt_of_pos
def Vm:=@List.sum_cons
def Vn:=@List.any_eq_false
def Vo:=@Option.isSome_map
def Vp:=@List.append_assoc
def Vq:=@List.ext_getElem?
def Vr:=@List.map_nil
def Vs:=@Int.add_zero
abbrev Za:=PySem.W.Frag
namespace L2
open PySem PySem.Spec PyProof.Rows
abbrev Key:=Sum Int Str
def Pz:Key->Value->Bool
 | .inl k,v=>Value.isInt k v
 | .inr x,v=>Value.isStrOf x v
def keyH(w:World):Key->Int
 | .inl k=>hashInt k
 | .inr x=>hashStr w x
def Kp:∀{k:Key}{v:Value},Pz k v=true->(∃i t,k=Sum.inl i/\v=Value.int i t)\/(∃x t,k=Sum.inr x/\v=Value.str x t)
 | .inl i,v,h=>by
  obtain⟨t,e⟩:=Value.isInt_shape (k:=i) (v:=v) h;exact .inl ⟨i,t,rfl,e⟩
 | .inr x,v,h=>by
  obtain⟨t,e⟩:=Value.isStrOf_shape (x:=x) (v:=v) h;exact .inr ⟨x,t,rfl,e⟩
def OG(i:Int)(t:Tok):Pz (.inl i) (.int i t)=true:=by simp[Pz,Value.isInt]
def Hd(x:Str)(t:Tok):Pz (.inr x) (.str x t)=true:=by simp[Pz,Value.isStrOf]
def Oe(a b:Int):decide ((Sum.inl a:Key)=Sum.inl b)=(a==b):=by
 by_cases e:a=b
 ·subst e;simp
 ·have h:¬(Sum.inl a:Key)=Sum.inl b:=fun q=>e (Sum.inl.inj q);rw[Y0 h];exact(Wt.mpr e).symm
def Rn(a b:Str):decide ((Sum.inr a:Key)=Sum.inr b)=decide (a=b):=by
 by_cases e:a=b
 ·subst e;simp
 ·have h:¬(Sum.inr a:Key)=Sum.inr b:=fun q=>e (Sum.inr.inj q);rw[Y0 h,Y0 e]
def Zbh(a:Int)(b:Str):decide ((Sum.inl a:Key)=Sum.inr b)=false:=Y0 (fun q=>nomatch q)
def RV(a:Str)(b:Int):decide ((Sum.inr a:Key)=Sum.inl b)=false:=Y0 (fun q=>nomatch q)
def X5(prog:Program)(w:World):PySem.KeyKind prog w Key where
 is:=Pz
 hash:=keyH w
 inj:=fun v a b ha hb=>by
  rcases Kp ha with⟨i,t,rfl,rfl⟩|⟨x,t,rfl,rfl⟩
  ·rcases Kp hb with⟨j,u,rfl,e⟩|⟨y,u,rfl,e⟩
   ·injection e with e1 _;rw[e1]
   ·exact nomatch e
  ·rcases Kp hb with⟨j,u,rfl,e⟩|⟨y,u,rfl,e⟩
   ·exact nomatch e
   ·injection e with e1 _;rw[e1]
 byValue:=fun k v h=>by
  rcases Kp h with⟨i,t,rfl,rfl⟩|⟨x,t,rfl,rfl⟩<;>rfl
 pyHash:=fun hv h=>by
  rcases Kp hv with⟨i,t,rfl,rfl⟩|⟨x,t,rfl,rfl⟩
  ·exact wpAny_pyHash_int h
  ·exact wpAny_pyHash_str h
 eqBool:=fun hu hv h=>by
  rcases Kp hu with⟨i,t,rfl,rfl⟩|⟨x,t,rfl,rfl⟩
  ·rcases Kp hv with⟨j,u,rfl,rfl⟩|⟨y,u,rfl,rfl⟩
   ·rw[Oe]at h;exact wpAny_eqBool_int h
   ·rw[Zbh]at h;exact SeqAt.EqAt.int_str i t y u _ _ _ _ h
  ·rcases Kp hv with⟨j,u,rfl,rfl⟩|⟨y,u,rfl,rfl⟩
   ·rw[RV]at h;exact SeqAt.EqAt.str_int x t j u _ _ _ _ h
   ·rw[Rn]at h;exact wpAny_eqBool_str h
 «strs»:=fun k x t v h=>by
  rcases Kp h with⟨i,u,rfl,e⟩|⟨y,u,rfl,e⟩
  ·exact nomatch e
  ·injection e with e1 _;subst e1;cases v<;>rfl
def Zcv(prog:Program)(w:World)(i:Int)(t:Tok):(X5 prog w).is (.inl i) (.int i t)=true:=OG i t
def Hr(prog:Program)(w:World)(x:Str)(t:Tok):(X5 prog w).is (.inr x) (.str x t)=true:=Hd x t
inductive V where
 |non|bl (b:Bool)|int (i:Int)|str (x:Str)|byt (b:Array UInt8)|flt (b:UInt64)|ref (a:Addr)|ty (n:String)
 deriving DecidableEq
def RelV:V->Value->Prop
 | .non,u=>u=Value.none
 | .bl b,u=>u=Value.bool b
 | .int i,u=>∃t,u=Value.int i t
 | .str x,u=>∃t,u=Value.str x t
 | .byt b,u=>∃t,u=Value.bytes b t
 | .flt b,u=>∃t,u=Value.float b t
 | .ref a,u=>u=Value.ref a
 | .ty n,u=>u=Value.type n
abbrev Vals:List V->List Value->Prop:=Paired RelV
def Vals.length {xs:List V}{us:List Value} (r:Vals xs us):xs.length=us.length:=Paired.length r
def Vals.get:∀{xs:List V}{us:List Value}{i:Nat}{x:V},Vals xs us->xs[i]?=some x->∃u,us[i]?=some u/\RelV x u
 |_,_,_,_,.nil,e=>by simp at e
 |_,_,0,_,.cons r _,e=>by simp at e;subst e;exact⟨_,rfl,r⟩
 |_,_,i+1,x,.cons _ t,e=>by
  obtain⟨u,h1,h2⟩:=Vals.get (i:=i) (x:=x) t (by simpa using e);exact⟨u,by simpa using h1,h2⟩
def Vals.set {x:V}{u:Value} (r:RelV x u):∀{xs:List V}{us:List Value} (i:Nat),Vals xs us->Vals (xs.set i x) (us.set i u)
 |_,_,_,.nil=>.nil
 |_,_,0,.cons _ t=>.cons r t
 |_,_,i+1,.cons q t=>.cons q (Vals.set r i t)
def Vals.append:∀{xs ys:List V}{us ws:List Value},Vals xs us->Vals ys ws->Vals (xs++ys) (us++ws)
 |_,_,_,_,.nil,s=>s
 |_,_,_,_,.cons r t,s=>.cons r (Vals.append t s)
def Vals.take:∀{xs:List V}{us:List Value} (n:Nat),Vals xs us->Vals (xs.take n) (us.take n)
 |_,_,0,_=>.nil
 |_,_,_+1,.nil=>.nil
 |_,_,n+1,.cons r t=>.cons r (Vals.take n t)
def Vals.drop:∀{xs:List V}{us:List Value} (n:Nat),Vals xs us->Vals (xs.drop n) (us.drop n)
 |_,_,0,r=>r
 |_,_,_+1,.nil=>.nil
 |_,_,n+1,.cons _ t=>Vals.drop n t
def RelO:Option V->Option Value->Prop
 |some v,some u=>RelV v u
 |none,none=>True
 |_,_=>False
def KV{κ:Type}:List (κ×V)->List (κ×Value)->Prop:=Paired fun(p:κ×V) (q:κ×Value)=>p.1=q.1/\RelV p.2 q.2
def kV:Key->V
 | .inl i=>.int i
 | .inr x=>.str x
inductive HO where
 |lst (xs:List V)
 |tup (xs:List V)
 |dK (kvs:List (Key×V))|dT (kvs:List (List Key×V))
 |set (S:Int->Bool) (n:Nat)
 |ins (C dx:Addr) (fs:List (Str×V))
 |own (x:Addr)
 |xd (fs:List (Str×V))
 |met (f x:Addr)
 |rng (lo hi:Int)
 |frz (o:Obj) (u:HO)
 |tbl (ps:Array Value)
 |ext (φ:Heap->Prop)
abbrev Hp:=Addr->Option HO
def upd(H:Hp)(a:Addr)(o:HO):Hp:=fun b=>if b=a then some o else H b
def Ug{H:Hp}{a:Addr}{o:HO}:upd H a o a=some o:=by unfold upd;rw[Yn rfl]
def JI{H:Hp}{a b:Addr}{o:HO}(h:b≠a):upd H a o b=H b:=by unfold upd;rw[Yo h]
def EW{H:Hp}{a:Addr}{o u:HO}:upd (upd H a o) a u=upd H a u:=by
 funext b;unfold upd;split<;>rfl
def Fh{H:Hp}{a b:Addr}{o u:HO}(h:H a=some o)(h':H b=some u)(d:o≠u):a≠b:=by
 intro e;subst e;rw[h]at h';exact d (Yv h')
def U8{H:Hp}{a b:Addr}{o:HO}(h:H a=some o)(h':H b=none):a≠b:=by
 intro e;subst e;rw[h]at h';cases h'
section
variable (P:Program) (w:World)
def ObjOk(H:Hp)(h:Heap)(a:Addr):HO->Prop
 | .lst xs=>xs.length<=sizeLine/\∃(its:List Value) (n:Nat),Vals xs its/\h.get? a=some {cls:=.type "list",data:=.seq its.toArray n}
 | .tup xs=>xs.length<=sizeLine/\∃its:List Value,Vals xs its/\IsTup h a its.toArray
 | .dK kvs=>kvs.length<=sizeLine/\(a==sysModules)=false/\∃vs,KV kvs vs/\h.DictOf (X5 P w) a vs
 | .dT kvs=>kvs.length<=sizeLine/\(a==sysModules)=false/\∃xs:List (List Key×Addr×Value),
   Paired (fun(p:List Key×V) (q:List Key×Addr×Value)=>p.1=q.1/\H q.2.1=some (.tup (p.1.map kV))/\RelV p.2 q.2.2) kvs xs/\
   ∃o es ep,h.get? a=some o/\o.ExactDict/\o.data=.dict es ep/\es.toList=xs.map (entryOfKey (tupleKind (X5 P w)))/\(xs.map (·.1)).Nodup
 | .set S n=>h.SetOf (intKind P w) a S n
 | .ins C dx fs=>H dx=some (.own a)/\fs.length<=1000/\dx≠a/\h.get? a=some (PySem.W.instObj C dx)/\
   ∃mA,h.Ns1 dx mA/\(∀f,RelO (fs.lookup f) (mA f))/\PySem.Within mA (fs.map (·.1))
 | .own _=>∃o,h.get? a=some o
 | .xd fs=>∃mA,h.Ns1 a mA/\∀f,RelO (fs.lookup f) (mA f)
 | .rng lo hi=>∃t u v,h.get? a=some {cls:=.type "range",data:=.fields #[.int lo t,.int hi u,.int 1 v]}
 | .frz o u=>h.get? a=some o/\ObjOk H h a u
 | .tbl ps=>h.get? a=some {cls:=.none,data:=.fields ps}
 | .met f x=>h.get? a=some (PySem.W.methodObj (.ref f) (.ref x))
 | .ext φ=>φ h/\(∃o,h.get? a=some o)/\∀h1 h2:Heap,φ h1->(∀o,h1.get? a=some o->h2.get? a=some o)->φ h2
def HOk(H:Hp)(h:Heap):Prop:=∀a o,H a=some o->ObjOk P w H h a o
end
section
variable {P:Program}{w:World}{H H':Hp}{h h':Heap}{a:Addr}{o:HO}
def ObjOk.lt (x:ObjOk P w H h a o):a<h.objs.size:=by
 cases o with
 |lst xs=>obtain⟨_,_,_,_,e⟩:=x;exact Yu e
 |tup xs=>obtain⟨_,_,_,p⟩:=x;exact p.lt
 |dK kvs=>obtain⟨_,_,_,_,o,_,_,e,_⟩:=x;exact Yu e
 |dT kvs=>obtain⟨_,_,_,_,o,_,_,e,_⟩:=x;exact Yu e
 |set S n=>obtain⟨o,_,_,_,e,_⟩:=x;exact Yu e
 |ins C dx fs=>obtain⟨_,_,_,e,_⟩:=x;exact Yu e
 |own y=>obtain⟨_,e⟩:=x;exact Yu e
 |xd fs=>obtain⟨_,⟨_,_,_,e,_⟩,_⟩:=x;exact Yu e
 |rng lo hi=>obtain⟨_,_,_,e⟩:=x;exact Yu e
 |frz ob u=>obtain⟨e,_⟩:=x;exact Yu e
 |tbl ps=>exact Yu (show h.get? a=some _ from x)
 |met f y=>exact Yu (show h.get? a=some _ from x)
 |ext φ=>obtain⟨_,⟨_,e⟩,_⟩:=x;exact Yu e
def Paired.mapP {α β:Type}{F G:α->β->Prop}:∀{l₁:List α}{l₂:List β},Paired F l₁ l₂->(∀a b,F a b->G a b)->Paired G l₁ l₂
 |_,_,.nil,_=>.nil
 |_,_,.cons r t,f=>.cons (f _ _ r) (Paired.mapP t f)
def ObjOk.stay (x:ObjOk P w H h a o) (k:∀b u,(b=a\/H b=some (.own a))->h.get? b=some u->h'.get? b=some u)
  (ho:∀b,H b=some (.own a)->H' b=some (.own a)) (ht:∀b xs,H b=some (.tup xs)->H' b=some (.tup xs)):ObjOk P w H' h' a o:=by
 induction o with
 |lst xs=>obtain⟨z,its,n,r,e⟩:=x;exact⟨z,its,n,r,k _ _ (.inl rfl) e⟩
 |tup xs=>obtain⟨z,its,r,ob,e,c⟩:=x;exact⟨z,its,r,ob,k _ _ (.inl rfl) e,c⟩
 |dK kvs=>obtain⟨z,y,vs,r,ob,es,ep,e,c⟩:=x;exact⟨z,y,vs,r,ob,es,ep,k _ _ (.inl rfl) e,c⟩
 |dT kvs=>
  obtain⟨z,y,xs,r,ob,es,ep,e,c⟩:=x;exact⟨z,y,xs,Paired.mapP r fun p q z=>⟨z.1,ht _ _ z.2.1,z.2.2⟩,ob,es,ep,k _ _ (.inl rfl) e,c⟩
 |set S n=>obtain⟨ob,es,ep,t,e,c⟩:=x;exact⟨ob,es,ep,t,k _ _ (.inl rfl) e,c⟩
 |ins C dx fs=>
  obtain⟨d,z,ne,e,mA,⟨od,es,ep,e2,c⟩,r⟩:=x;exact⟨ho _ d,z,ne,k _ _ (.inl rfl) e,mA,⟨od,es,ep,k _ _ (.inr d) e2,c⟩,r⟩
 |own y=>obtain⟨ob,e⟩:=x;exact⟨ob,k _ _ (.inl rfl) e⟩
 |xd fs=>obtain⟨mA,⟨od,es,ep,e,c⟩,r⟩:=x;exact⟨mA,⟨od,es,ep,k _ _ (.inl rfl) e,c⟩,r⟩
 |rng lo hi=>obtain⟨t,u,v,e⟩:=x;exact⟨t,u,v,k _ _ (.inl rfl) e⟩
 |frz ob u ih=>obtain⟨e,q⟩:=x;exact⟨k _ _ (.inl rfl) e,ih q⟩
 |tbl ps=>
  have e:h.get? a=some {cls:=.none,data:=.fields ps}:=x;show h'.get? a=some {cls:=.none,data:=.fields ps};exact k a _ (.inl rfl) e
 |met f y=>
  have e:h.get? a=some (PySem.W.methodObj (.ref f) (.ref y)):=x;show h'.get? a=some (PySem.W.methodObj (.ref f) (.ref y));exact k a _ (.inl rfl) e
 |ext φ=>obtain⟨p,⟨o,e⟩,st⟩:=x;exact⟨st _ _ p fun o q=>k _ _ (.inl rfl) q,⟨o,k _ _ (.inl rfl) e⟩,st⟩
def HOk.lt (x:HOk P w H h) (e:H a=some o):a<h.objs.size:=(x a o e).lt
def HOk.fresh (x:HOk P w H h) (e:h.objs.size<=a):H a=none:=by
 cases q:H a with
 |none=>rfl
 |some u=>exact absurd (YK (x.lt q) e) (Wq _)
def HOk.kept (x:HOk P w H h) (k:∀b u,h.get? b=some u->h'.get? b=some u):HOk P w H h':=fun a o e=>
 (x a o e).stay (fun b u _ q=>k b u q) (fun _ q=>q) fun _ _ q=>q
def HOk.laid (x:HOk P w H h) (k:∀b u,h.get? b=some u->h'.get? b=some u) (hp:h.objs.size<=a) (new:ObjOk P w (upd H a o) h' a o):HOk P w (upd H a o) h':=fun b u e=>by
 have hn:=x.fresh hp;by_cases hb:b=a
 ·subst hb;rw[Ug]at e;cases e;exact new
 ·rw[JI hb]at e;exact(x b u e).stay (fun c v _ q=>k c v q) (fun c q=>by rw[JI (U8 q hn)];exact q) fun c xs q=>by rw[JI (U8 q hn)];exact q
end
def Rd(H:Hp)(a:Addr)(u:HO):Prop:=H a=some u\/∃o,H a=some (.frz o u)
def Rd.ok {P:Program}{w:World}{H:Hp}{h:Heap}{a:Addr}{u:HO} (r:Rd H a u) (x:HOk P w H h):ObjOk P w H h a u:=by
 rcases r with r|⟨o,r⟩
 ·exact x a u r
 ·obtain⟨_,q⟩:=x a _ r;exact q
def Mut:Option HO->Prop
 |some (.lst _)=>True
 |some (.dK _)=>True
 |some (.dT _)=>True
 |some (.set _ _)=>True
 |some (.ins _ _ _)=>True
 |some (.ext _)=>True
 |_=>False
section
variable {P:Program}{w:World}{H:Hp}{h h':Heap}{x e:Addr}{o':HO}
def HOk.write (ok:HOk P w H h) (mu:Mut (H x)) (he:e=x\/H e=some (.own x)) (k:∀b u,b≠e->h.get? b=some u->h'.get? b=some u) (heo:∃u,h'.get? e=some u)
  (new:ObjOk P w (upd H x o') h' x o'):HOk P w (upd H x o') h':=fun b u q=>by
 have nown:∀c y,H c=some (.own y)->c≠x:=fun c y r z=>by subst z;rw[r]at mu;exact mu
 have ntup:∀c xs,H c=some (.tup xs)->c≠x:=fun c xs r z=>by subst z;rw[r]at mu;exact mu
 by_cases hb:b=x
 ·subst hb;rw[Ug]at q;cases q;exact new
 ·rw[JI hb]at q;by_cases hbe:b=e
  ·have q':H b=some (.own x):=by
    rcases he with z|z
    ·exact absurd (hbe.trans z) hb
    ·rw[hbe];exact z
   rw[q]at q';cases q';obtain⟨v,hv⟩:=heo;exact⟨v,by rw[hbe];exact hv⟩
  ·refine(ok b u q).stay (fun c v hc r=>k c v ?_ r) (fun c r=>by rw[JI (nown c b r)];exact r) fun c xs r=>by rw[JI (ntup c xs r)];exact r
   rcases hc with rfl|hc
   ·exact hbe
   ·rintro rfl;rcases he with z|z
    ·exact nown c b hc z
    ·rw[hc]at z;cases z;exact hb rfl
end
structure Un (fs ex:List Addr) (H H':Hp) (h h':Heap):Prop where
 keep:∀b o,h.get? b=some o->H b=none->b∉fs->b∉ex->h'.get? b=some o
 slot:∀b o,h.get? b=some o->H b=none->b∈fs->b∉ex->∃sl,h'.get? b=some {o with slots:=sl}
 free:∀b o,h.get? b=some o->H b=none->b∉ex->H' b=none
 there:∀b o,h.get? b=some o->b∉ex->∃o',h'.get? b=some o'
 tups:∀b xs,H b=some (.tup xs)->H' b=some (.tup xs)
 frzs:∀b o u,H b=some (.frz o u)->H' b=some (.frz o u)
 tbls:∀b ps,H b=some (.tbl ps)->∃more,H' b=some (.tbl (ps++more))
section
variable {fs fs' ex ex':List Addr}{H H1 H2:Hp}{h h1 h2 h':Heap}{a x e:Addr}{o:HO}
def Un.any (u:Un fs ex H H1 h h1) {b:Addr}{ob:Obj} (q:h.get? b=some ob) (n:H b=none) (hx:b∉ex):∃sl,h1.get? b=some {ob with slots:=sl}:=by
 by_cases hb:b∈fs
 ·exact u.slot b ob q n hb hx
 ·exact⟨ob.slots,u.keep b ob q n hb hx⟩
def Un.kept (k:∀b u,h.get? b=some u->h'.get? b=some u):Un fs ex H H h h':=
 ⟨fun b ob q _ _ _=>k b ob q,fun b ob q _ _ _=>⟨ob.slots,k b ob q⟩,fun _ _ _ n _=>n,fun b ob q _=>⟨ob,k b ob q⟩,fun _ _ q=>q,fun _ _ _ q=>q,fun _ ps q=>⟨#[],by rw[q];simp⟩⟩
def Un.refl:Un fs ex H H h h:=Un.kept fun _ _ q=>q
def Un.laid (k:∀b u,h.get? b=some u->h'.get? b=some u) (hp:h.objs.size<=a) (hn:H a=none):Un fs ex H (upd H a o) h h' where
 keep:=fun b u q _ _ _=>k b u q
 slot:=fun b u q _ _ _=>⟨u.slots,k b u q⟩
 free:=fun b u q n _=>by rw[JI (YA (YK (Yu q) hp))];exact n
 there:=fun b u q _=>⟨u,k b u q⟩
 tups:=fun b xs q=>by rw[JI (U8 q hn)];exact q
 frzs:=fun b u xs q=>by rw[JI (U8 q hn)];exact q
 tbls:=fun b ps q=>⟨#[],by rw[JI (U8 q hn),q];simp⟩
def Un.write (mu:Mut (H x)) (he:e=x\/H e=some (.own x)) (k:∀b u,b≠e->h.get? b=some u->h'.get? b=some u) (heo:∃u,h'.get? e=some u):Un fs ex H (upd H x o) h h':=by
 have hx:∀b,H b=none->b≠x:=fun b n z=>by subst z;rw[n]at mu;exact mu
 have hb:∀b,H b=none->b≠e:=fun b n z=>by
  subst z;rcases he with r|r
  ·exact hx b n r
  ·rw[n]at r;cases r
 have hm:∀b u,H b=some u->¬Mut (some u)->b≠x:=fun b u q nm z=>by subst z;rw[q]at mu;exact nm mu
 refine⟨fun b u q n _ _=>k b u (hb b n) q,fun b u q n _ _=>⟨u.slots,k b u (hb b n) q⟩,fun b u q n _=>by rw[JI (hx b n)];exact n,fun b u q _=>?_,
  fun b xs q=>by rw[JI (hm b _ q fun z=>z)];exact q,fun b u xs q=>by rw[JI (hm b _ q fun z=>z)];exact q,fun b ps q=>⟨#[],by rw[JI (hm b _ q fun z=>z),q];simp⟩⟩
 by_cases hbe:b=e
 ·subst hbe;exact heo
 ·exact⟨u,k b u hbe q⟩
end
def trk(h:Heap)(H:Hp):List Addr:=(List.range h.objs.size).filter fun a=>(H a).isSome
def hidT(h:Heap)(H:Hp):Heap:=PySem.W.hideAll h (trk h H)
def Zas(h:Heap)(H:Hp):(hidT h H).objs.size=h.objs.size:=PySem.W.hideAll_size _ _
def OS{h:Heap}{H:Hp}{b:Addr}{o:Obj}(e:h.get? b=some o)(n:H b=none):(hidT h H).get? b=some o:=
 PySem.W.hideAll_get _ e fun hm=>by
  have q:(H b).isSome=true:=(YG.mp hm).2;rw[n]at q;simp at q
def Iq{h:Heap}{H:Hp}{b:Addr}{o:Obj}(e:(hidT h H).get? b=some o):h.get? b=some o/\H b=none:=by
 have e':h.get? b=some o:=PySem.W.of_hideAll (trk h H) e;refine⟨e',?_⟩;cases q:H b with
 |none=>rfl
 |some x=>
  have hm:b∈trk h H:=YG.mpr ⟨List.mem_range.mpr (Yu e'),by simp[q]⟩;have z:(hidT h H).get? b=none:=PySem.W.hideAll_none (trk h H) hm;rw[z]at e;cases e
def MW(g h:Heap)(L:Addr):List (Addr×Obj):=(List.range h.objs.size).filterMap fun a=>if a=L\/(g.get? a).isSome=true then none else(h.get? a).map fun o=>(a,o)
def rest(g h:Heap)(L d:Addr):List (Addr×Obj):=(MW g h L).filter fun p=>decide (p.1≠d)
structure Mod (K:Za) (mg:Str->Option Value) (base:Heap):Prop where
 kin:K.In base
 glob:base.Ns mainGlobals mg
 blt:∃mb,base.Ns builtinsNs mb/\∀x:Str,x≠"__name__"->mb x=bootBuiltins x
 nolimit:base.NoLimit
structure Cx where
 prog:Program
 w:World
 K:Za
 mg:Str->Option Value
 base:Heap
 A:Around
 N:List Str
 s₀:Shared
 H₀:Hp
 env:Env
 outer:List Env
 stack:List Env
 ex:List Addr
 fn:Str->Bool
 calm:Bool
 pn:List (Addr×Obj)
 xe:Value->Shared->Prop
def frs(l:List Env):List Addr:=l.filterMap (·.frame)
abbrev Cx.fs (X:Cx):List Addr:=frs X.outer
def Vis(sc:Scope)(x:Str):Prop:=sc.names.lookup x=some .local\/sc.names.lookup x=some .cell\/sc.names.lookup x=some .free
def Loc(sc:Scope)(x:Str):Prop:=sc.names.lookup x=some .local\/sc.names.lookup x=some .cell
def Look(env:Env)(h:Heap)(m:Str->Option Value)(x:Str)(u:Value):Prop:=
 (env.kindOf x=some .local/\m x=some u)\/((env.kindOf x=some .cell\/env.kindOf x=some .free)/\∃c,env.cells.lookup x=some c/\h.IsCell c (some u))
structure Cx.Ok (X:Cx):Prop where
 mod:Mod X.K X.mg X.base
 kind:X.env.scope.kind=.function
 glob:X.env.globals=mainGlobals
 blt:X.env.builtins=builtinsNs
 above:X.s₀.heap.objs.size<=X.env.locals
 inj:∀x y c,X.env.cells.lookup x=some c->X.env.cells.lookup y=some c->x=y
 has:∀x,(X.env.kindOf x=some .cell\/X.env.kindOf x=some .free)->∃c,X.env.cells.lookup x=some c
 cab:∀x c,X.fn x=true->X.env.cells.lookup x=some c->X.s₀.heap.objs.size<=c
 hd:X.calm=true->X.A.handled=none
 frames:X.A.frames=some X.stack
 stk:X.stack=X.outer\/(X.stack=X.env::X.outer/\X.env.frame=some X.env.locals)
 exf:∀b∈X.ex,b≠X.env.locals/\∀x c,X.env.cells.lookup x=some c->c≠b
 bs:∀b o,X.base.get? b=some o->X.s₀.heap.get? b=some o/\X.H₀ b=none
 bsz:X.base.objs.size<=X.s₀.heap.objs.size
 noex:∀b o,X.base.get? b=some o->b∉X.ex
 exfs:∀b∈X.ex,b∉X.fs
 funs:X.s₀.heap.FunFrames X.base X.outer
 frf:∀b∈X.fs,X.H₀ b=none
structure Inv (X:Cx) (pins:List (Addr×Obj)) (σ:List (Option V)) (H:Hp) (s:Shared):Prop where
 ok:X.Ok
 os:s.os=X.s₀.os
 bare:AllBare s.gens
 base:Un X.fs X.ex X.H₀ H X.s₀.heap s.heap
 loc:∃m,s.heap.Ns X.env.locals m/\∀(i:Nat) (x:Str) (v:V),X.N[i]?=some x->σ[i]?=some (some v)->Vis X.env.scope x->∃u,RelV v u/\Look X.env s.heap m x u
 cell:∀x c,X.env.cells.lookup x=some c->∃v,s.heap.IsCell c v
 free:H X.env.locals=none
 freeC:∀x c,X.env.cells.lookup x=some c->H c=none
 pin:∀p∈X.pn++pins,s.heap.get? p.1=some p.2/\H p.1=none/\p.1≠X.env.locals/\p.1∉X.fs/\∀v,p.2.data≠.cell v
 hok:HOk X.prog X.w H s.heap
 len:σ.length=X.N.length
section
variable {X:Cx}{pins:List (Addr×Obj)}{σ:List (Option V)}{H H':Hp}{s:Shared}{h':Heap}
def Cx.Ok.nofr (ok:X.Ok) {b:Addr}{o:Obj} (e:X.base.get? b=some o):b∉X.fs:=fun hb=>by
 have:=(ok.funs.mem hb).1
 rw[e]at this;cases this
def Inv.bs (I:Inv X pins σ H s):∀b o,X.base.get? b=some o->s.heap.get? b=some o/\H b=none:=fun b o e=>
 ⟨I.base.keep b o (I.ok.bs b o e).1 (I.ok.bs b o e).2 (I.ok.nofr e) (I.ok.noex b o e),I.base.free b o (I.ok.bs b o e).1 (I.ok.bs b o e).2 (I.ok.noex b o e)⟩
def Inv.bk (I:Inv X pins σ H s):∀b o,X.base.get? b=some o->s.heap.get? b=some o:=fun b o e=>(I.bs b o e).1
def Inv.mod (I:Inv X pins σ H s):Mod X.K X.mg X.base:=I.ok.mod
def Inv.kIn (I:Inv X pins σ H s):X.K.In s.heap:=I.ok.mod.kin.keeps I.bk
def Inv.lt (I:Inv X pins σ H s):X.env.locals<s.heap.objs.size:=let ⟨_,hn,_⟩:=I.loc;hn.lt
def Inv.sz (I:Inv X pins σ H s):X.s₀.heap.objs.size<=s.heap.objs.size:=Yy I.ok.above (Q1 I.lt)
def Inv.nofs (I:Inv X pins σ H s) {a:Addr} (h:s.heap.objs.size<=a):a∉X.fs:=fun hb=>by
 obtain⟨_,o,ho,_⟩:=I.ok.funs.mem hb;exact absurd (YK (Yu ho) (Yy I.sz h)) (Wq _)
def Inv.cne (I:Inv X pins σ H s):∀x c,X.env.cells.lookup x=some c->c≠X.env.locals:=fun x c e z=>by
 obtain⟨v,o,ho,hd⟩:=I.cell x c e;obtain⟨m,⟨o',es,ep,ho',hd',_⟩,_⟩:=I.loc;rw[z,ho']at ho;cases ho;rw[hd']at hd;cases hd
def Inv.funs (I:Inv X pins σ H s):s.heap.FunFrames X.base X.outer:=by
 have all:∀(l:List Env),(∀b∈frs l,b∈X.fs)->X.s₀.heap.FunFrames X.base l->s.heap.FunFrames X.base l:=by
  intro l
  induction l with
  |nil=>intro _ _;trivial
  |cons env r ih=>
   intro hs hl;obtain⟨hk,⟨L,o,hf,hn,ho,hd⟩,hr⟩:=hl;have hL:L∈X.fs:=hs L (by unfold frs;rw[WC,hf];exact YL);obtain⟨sl,e⟩:=I.base.slot L o ho (I.ok.frf L hL) hL fun z=>I.ok.exfs L z hL;exact⟨hk,⟨L,_,hf,hn,e,hd⟩,ih (fun b hb=>hs b (by unfold frs;rw[WC,hf];exact YB _ hb)) hr⟩
 exact all X.outer (fun _ hb=>hb) I.ok.funs
def Inv.stack (I:Inv X pins σ H s):s.heap.FunFrames X.base X.stack:=by
 rcases I.ok.stk with e|⟨e,hf⟩
 ·rw[e];exact I.funs
 ·rw[e];obtain⟨m,hn,_⟩:=I.loc;refine .cons (by rw[I.ok.kind];decide) hf hn ?_ I.funs;exact WU (Yy I.ok.bsz I.ok.above)
def Inv.stkSub (I:Inv X pins σ H s):∀b∈frs X.stack,b∈X.env.locals::X.fs:=fun b hb=>by
 rcases I.ok.stk with e|⟨e,hf⟩
 ·rw[e]at hb;exact YB _ hb
 ·rw[e]at hb;unfold frs at hb;rw[WC,hf]at hb;exact hb
def Inv.stkFree (I:Inv X pins σ H s):∀b∈frs X.stack,H b=none:=fun b hb=>by
 rcases Yx.mp (I.stkSub b hb)with e|hb
 ·rw[e];exact I.free
 ·obtain⟨_,o,ho,_⟩:=I.ok.funs.mem hb;exact I.base.free b o ho (I.ok.frf b hb) fun z=>I.ok.exfs b z hb
def Inv.step {g':Array GenState}{t':Nat}{d':Drawn}{ch:List Addr} (I:Inv X pins σ H s)
  (hch:∀b∈ch,(b∈X.ex\/X.s₀.heap.objs.size<=b)/\b≠X.env.locals/\(∀x c,X.env.cells.lookup x=some c->c≠b)/\∀p∈X.pn++pins,p.1≠b)
  (keep:∀b o,b≠X.env.locals->b∉X.fs->b∉ch->s.heap.get? b=some o->H b=none->h'.get? b=some o)
  (slot:∀b o,b≠X.env.locals->b∈X.fs->b∉ch->s.heap.get? b=some o->H b=none->∃sl,h'.get? b=some {o with slots:=sl}) (free:∀b o,b∉ch->s.heap.get? b=some o->H b=none->H' b=none)
  (there:∀b o,b∉ch->s.heap.get? b=some o->∃o',h'.get? b=some o')
  (tups:∀b xs,H b=some (.tup xs)->H' b=some (.tup xs)) (frzs:∀b o u,H b=some (.frz o u)->H' b=some (.frz o u)) (tbls:∀b ps,H b=some (.tbl ps)->∃more,H' b=some (.tbl (ps++more)))
  (ns:∀m,s.heap.Ns X.env.locals m->h'.Ns X.env.locals m) (hok:HOk X.prog X.w H' h') (hg:AllBare g') :
  Inv X pins σ H' {s with heap:=h',gens:=g',drawn:=d',toks:=t'}:=by
 have neL:∀b o,X.s₀.heap.get? b=some o->b≠X.env.locals:=fun b o e=>YA (YK (Yu e) I.ok.above)
 have neC:∀b o,X.s₀.heap.get? b=some o->b∉X.ex->b∉ch:=fun b o e hx hb=>by
  rcases(hch b hb).1 with z|z
  ·exact hx z
  ·exact absurd (YK (Yu e) z) (Wq _)
 have cellK:∀x c,X.env.cells.lookup x=some c->∀v,s.heap.IsCell c v->h'.IsCell c v:=fun x c e v ⟨o,ho,hd⟩=>by
  have nch:c∉ch:=fun z=>(hch c z).2.2.1 x c e rfl;by_cases hc:c∈X.fs
  ·obtain⟨sl,q⟩:=slot c o (I.cne x c e) hc nch ho (I.freeC x c e);exact⟨_,q,hd⟩
  ·exact⟨o,keep c o (I.cne x c e) hc nch ho (I.freeC x c e),hd⟩
 refine⟨I.ok,I.os,hg,⟨fun b o e n hb hx=>?_,fun b o e n hb hx=>?_,fun b o e n hx=>?_,fun b o e hx=>?_,fun b xs e=>tups b xs (I.base.tups b xs e),fun b o xs e=>frzs b o xs (I.base.frzs b o xs e),fun b ps e=>?_⟩,?_,fun x c e=>?_,?_,fun x c e=>?_,fun p hp=>?_,hok,I.len⟩
 ·exact keep b o (neL b o e) hb (neC b o e hx) (I.base.keep b o e n hb hx) (I.base.free b o e n hx)
 ·obtain⟨sl,e1⟩:=I.base.slot b o e n hb hx;obtain⟨sl',e2⟩:=slot b _ (neL b o e) hb (neC b o e hx) e1 (I.base.free b o e n hx);exact⟨sl',e2⟩
 ·obtain⟨o',e1⟩:=I.base.there b o e hx;exact free b o' (neC b o e hx) e1 (I.base.free b o e n hx)
 ·obtain⟨o',e1⟩:=I.base.there b o e hx;exact there b o' (neC b o e hx) e1
 ·obtain⟨m1,e1⟩:=I.base.tbls b ps e;obtain⟨m2,e2⟩:=tbls b _ e1;exact⟨m1++m2,by rw[e2,Array.append_assoc]⟩
 ·obtain⟨m,hn,hl⟩:=I.loc;refine⟨m,ns m hn,fun i x v e1 e2 e3=>?_⟩;obtain⟨u,r,l⟩:=hl i x v e1 e2 e3;refine⟨u,r,?_⟩;rcases l with l|⟨k,c,e,z⟩
  ·exact .inl l
  ·exact .inr ⟨k,c,e,cellK x c e _ z⟩
 ·obtain⟨v,z⟩:=I.cell x c e;exact⟨v,cellK x c e v z⟩
 ·obtain⟨m,⟨o,_,_,ho,_⟩,_⟩:=I.loc;exact free _ o (fun z=>(hch _ z).2.1 rfl) ho I.free
 ·obtain⟨v,o,ho,hd⟩:=I.cell x c e;exact free c o (fun z=>(hch c z).2.2.1 x c e rfl) ho (I.freeC x c e)
 ·obtain⟨e,n,ne,nf,d⟩:=I.pin p hp;have nch:p.1∉ch:=fun z=>(hch p.1 z).2.2.2 p hp rfl;exact⟨keep p.1 p.2 ne nf nch e n,free p.1 p.2 nch e n,ne,nf,d⟩
def Inv.un {t':Nat} (I:Inv X pins σ H s) (u:Un X.fs [] H H' s.heap h') (hok:HOk X.prog X.w H' h'):Inv X pins σ H' {s with heap:=h',toks:=t'}:=by
 obtain⟨m,⟨o,es,ep,ho,r⟩,_⟩:=id I.loc;obtain⟨sl,hL⟩:=u.any ho I.free (by simp)
 exact I.step (g':=s.gens) (d':=s.drawn) (ch:=[]) (fun _ z=>nomatch z) (fun b o _ hb _ e n=>u.keep b o e n hb (by simp)) (fun b o _ hb _ e n=>u.slot b o e n hb (by simp)) (fun b o _ e n=>u.free b o e n (by simp)) (fun b o _ e=>u.there b o e (by simp)) u.tups u.frzs u.tbls (fun m' hm=>by
  obtain⟨o',es',ep',ho',r'⟩:=hm;rw[ho]at ho';cases ho';exact⟨_,es',ep',hL,r'⟩) hok I.bare
def Inv.call {g':Array GenState}{t':Nat}{d':Drawn}{ch:List Addr} (I:Inv X pins σ H s) (u:Un (frs X.stack) ch H H' s.heap h') (hok:HOk X.prog X.w H' h') (hg:AllBare g')
  (hch:∀b∈ch,(b∈X.ex\/X.s₀.heap.objs.size<=b)/\b≠X.env.locals/\(∀x c,X.env.cells.lookup x=some c->c≠b)/\∀p∈X.pn++pins,p.1≠b) :
  Inv X pins σ H' {s with heap:=h',gens:=g',drawn:=d',toks:=t'}:=by
 obtain⟨m,⟨o,es,ep,ho,r⟩,_⟩:=id I.loc;obtain⟨sl,hL⟩:=u.any ho I.free fun z=>(hch _ z).2.1 rfl
 exact I.step (ch:=ch) hch (fun b o hL hb hc e n=>u.keep b o e n (fun z=>(Yx.mp (I.stkSub b z)).elim hL hb) hc) (fun b o _ _ hc e n=>u.any e n hc) (fun b o hc e n=>u.free b o e n hc) (fun b o hc e=>u.there b o e hc) u.tups u.frzs u.tbls (fun m' hm=>by
  obtain⟨o',es',ep',ho',r'⟩:=hm;rw[ho]at ho';cases ho';exact⟨_,es',ep',hL,r'⟩) hok hg
def Inv.turned {t':Nat}{it:Addr} (I:Inv X pins σ H s) (k:∀b o,b≠it->s.heap.get? b=some o->h'.get? b=some o) (hn:H it=none) (hL:it≠X.env.locals)
  (h1:it∈X.ex\/X.s₀.heap.objs.size<=it) (h2:∀x c,X.env.cells.lookup x=some c->c≠it) (h3:∀p∈X.pn++pins,p.1≠it):Inv X pins σ H {s with heap:=h',toks:=t'}:=by
 have nit:∀b u,H b=some u->b≠it:=fun b u e z=>by rw[z,hn]at e;cases e
 refine I.step (g':=s.gens) (d':=s.drawn) (ch:=[it]) (fun b hb=>?_) (fun b o _ _ hc e _=>k b o (fun z=>hc (by simp[z])) e) (fun b o _ _ hc e _=>⟨o.slots,k b o (fun z=>hc (by simp[z])) e⟩) (fun _ _ _ _ n=>n)
  (fun b o hc e=>⟨o,k b o (fun z=>hc (by simp[z])) e⟩) (fun _ _ e=>e) (fun _ _ _ e=>e) (fun b ps e=>⟨#[],by rw[e];simp⟩) (fun m hm=>?_) (fun b u e=>?_) I.bare
 ·have e:b=it:=by simpa using hb
  subst e;exact⟨h1,hL,h2,h3⟩
 ·obtain⟨o,es,ep,ho,r⟩:=hm;exact⟨o,es,ep,k _ o (Ne.symm hL) ho,r⟩
 ·refine(I.hok b u e).stay (fun c v hc q=>k c v ?_ q) (fun _ q=>q) fun _ _ q=>q;rcases hc with z|z
  ·rw[z];exact nit b u e
  ·exact nit c _ z
def Inv.tok (I:Inv X pins σ H s) (t:Nat):Inv X pins σ H {s with toks:=t}:=I.un (h':=s.heap) (t':=t) Un.refl I.hok
def Inv.kept {t':Nat} (I:Inv X pins σ H s) (k:∀b u,s.heap.get? b=some u->h'.get? b=some u):Inv X pins σ H {s with heap:=h',toks:=t'}:=I.un (Un.kept k) (I.hok.kept k)
def Inv.laid {a:Addr}{o:HO}{t':Nat} (I:Inv X pins σ H s) (k:∀b u,s.heap.get? b=some u->h'.get? b=some u) (hp:s.heap.objs.size<=a) (new:ObjOk X.prog X.w (upd H a o) h' a o) :
  Inv X pins σ (upd H a o) {s with heap:=h',toks:=t'}:=I.un (Un.laid k hp (I.hok.fresh hp)) (I.hok.laid k hp new)
def Inv.write {x e:Addr}{o:HO}{t':Nat} (I:Inv X pins σ H s) (mu:Mut (H x)) (he:e=x\/H e=some (.own x)) (k:∀b u,b≠e->s.heap.get? b=some u->h'.get? b=some u) (heo:∃u,h'.get? e=some u)
  (new:ObjOk X.prog X.w (upd H x o) h' x o):Inv X pins σ (upd H x o) {s with heap:=h',toks:=t'}:=I.un (Un.write mu he k heo) (I.hok.write mu he k heo new)
def Inv.weak {σ':List (Option V)} (I:Inv X pins σ H s) (hl:σ'.length=σ.length) (w:∀(i:Nat) v,σ'[i]?=some (some v)->σ[i]?=some (some v)):Inv X pins σ' H s:=
 ⟨I.ok,I.os,I.bare,I.base,let ⟨m,hn,hl'⟩:=I.loc;⟨m,hn,fun i x v e1 e2 e3=>hl' i x v e1 (w i v e2) e3⟩,I.cell,I.free,I.freeC,I.pin,I.hok,hl.trans I.len⟩
def Inv.pins_of {pins':List (Addr×Obj)} (I:Inv X pins σ H s) (h:∀p∈pins',s.heap.get? p.1=some p.2/\H p.1=none/\p.1≠X.env.locals/\p.1∉X.fs/\∀v,p.2.data≠.cell v):Inv X pins' σ H s:=
 ⟨I.ok,I.os,I.bare,I.base,I.loc,I.cell,I.free,I.freeC,fun p hp=>(Y4.mp hp).elim (fun z=>I.pin p (Wo _ z)) (h p),I.hok,I.len⟩
def SA{N:List Str}(hN:N.Nodup){i j:Nat}{x:Str}(a:N[i]?=some x)(b:N[j]?=some x):i=j:=by
 obtain⟨h1,e1⟩:=Y2.mp a;obtain⟨h2,e2⟩:=Y2.mp b;exact(List.getElem_inj hN).mp (e1.trans e2.symm)
def Rm{M:Model}{A:Around}{E:Value->Shared->Prop}{i:Nat}{x:Str}{v:V}{u:Value}{Q:Unit->Shared->Prop}(I:Inv X pins σ H s)(hN:X.N.Nodup)(hi:X.N[i]?=some x)(hx:Loc X.env.scope x)(r:RelV v u)(h:∀s',Inv X pins (σ.set i (some v)) H s'->(∃a,Heap.SameBut a s.heap s'.heap/\(a=X.env.locals\/X.env.cells.lookup x=some a))->Q () s')(hf:X.fn x=true\/X.env.scope.names.lookup x=some .local:=by first|exact .inl rfl|exact .inr rfl|assumption):wpAny M A (storeName X.env x u) Q E s:=by
 obtain⟨m,hn,hl⟩:=id I.loc;have hcls:(X.env.scope.kind == .class || (X.env.scope.kind == .module&&X.env.locals != X.env.globals))=false:=by rw[I.ok.kind];rfl
 have hiσ:i<σ.length:=by rw[I.len];exact(Y2.mp hi).1
 have cne:=I.cne
 have tracked:∀{a:Addr} {h':Heap},(∃o,s.heap.get? a=some o/\H a=none)->Heap.SameBut a s.heap h'->HOk X.prog X.w H h':=fun {a h'} ha hs b ob e=>by
  obtain⟨_,_,hfree⟩:=ha;refine(I.hok b ob e).stay (fun c w' hc q=>(hs.2 c ?_).trans q) (fun _ q=>q) fun _ _ q=>q;rintro rfl;rcases hc with rfl|hc
  ·rw[hfree]at e;cases e
  ·rw[hfree]at hc;cases hc
 rcases hx with hk|hk
 ·refine wpAny_storeName_local hk hn (fun h' hn' hs=>?_) hcls;obtain⟨oL,_,_,hoL,_⟩:=id hn;refine h _ ⟨I.ok,I.os,I.bare,⟨fun b o e n hb hx=>?_,fun b o e n hb hx=>?_,I.base.free,fun b o e hx=>?_,I.base.tups,I.base.frzs,I.base.tbls⟩,⟨_,hn',fun j y v' e1 e2 e3=>?_⟩,fun y c e=>?_,I.free,I.freeC,fun p hp=>?_,tracked ⟨oL,hoL,I.free⟩ hs,by simpa using I.len⟩ ⟨_,hs,.inl rfl⟩
  ·exact(hs.2 b (YA (YK (Yu e) I.ok.above))).trans (I.base.keep b o e n hb hx)
  ·obtain⟨sl,e1⟩:=I.base.slot b o e n hb hx;exact⟨sl,(hs.2 b (YA (YK (Yu e) I.ok.above))).trans e1⟩
  ·obtain⟨o',e1⟩:=I.base.there b o e hx;exact⟨o',(hs.2 b (YA (YK (Yu e) I.ok.above))).trans e1⟩
  ·by_cases hj:j=i
   ·subst hj;rw[hi]at e1;cases e1;rw[Qj hiσ]at e2;cases e2
    exact⟨u,r,.inl ⟨hk,by simp⟩⟩
   ·rw[Qt (Ne.symm hj)]at e2;obtain⟨u',r',q⟩:=hl j y v' e1 e2 e3;refine⟨u',r',?_⟩;rcases q with⟨k,e⟩|⟨k,c,e,z⟩
    ·refine .inl ⟨k,?_⟩
     have:y≠x:=fun e=>hj (SA hN e1 (e▸hi))
     simp[this,e]
    ·exact .inr ⟨k,c,e,z.sameBut hs (cne y c e)⟩
  ·obtain⟨w',z⟩:=I.cell y c e;exact⟨w',z.sameBut hs (cne y c e)⟩
  ·obtain⟨e,n,ne,nf,d⟩:=I.pin p hp;exact⟨(hs.2 p.1 ne).trans e,n,ne,nf,d⟩
 ·have hfn:X.fn x=true:=by
   rcases hf with z|z
   ·exact z
   ·rw[z]at hk;cases hk
  obtain⟨c,hc⟩:=I.ok.has x (.inl hk);obtain⟨w',z⟩:=I.cell x c hc;refine wpAny_storeName_cell I.ok.kind hk hc z (fun h' hc' hs=>?_);obtain⟨oc,hoc,hocd⟩:=id z;refine h {s with heap:=h'} ⟨I.ok,I.os,I.bare,⟨fun b o e n hb hx=>?_,fun b o e n hb hx=>?_,I.base.free,fun b o e hx=>?_,I.base.tups,I.base.frzs,I.base.tbls⟩,⟨m,hn.sameBut hs (Ne.symm (cne x c hc)),fun j y v' e1 e2 e3=>?_⟩,fun y c' e=>?_,I.free,I.freeC,fun p hp=>?_,tracked ⟨oc,hoc,I.freeC x c hc⟩ hs,by simpa using I.len⟩ ⟨c,hs,.inr hc⟩
  ·exact(hs.2 b (YA (YK (Yu e) (I.ok.cab x c hfn hc)))).trans (I.base.keep b o e n hb hx)
  ·obtain⟨sl,e1⟩:=I.base.slot b o e n hb hx;exact⟨sl,(hs.2 b (YA (YK (Yu e) (I.ok.cab x c hfn hc)))).trans e1⟩
  ·obtain⟨o',e1⟩:=I.base.there b o e hx;exact⟨o',(hs.2 b (YA (YK (Yu e) (I.ok.cab x c hfn hc)))).trans e1⟩
  ·by_cases hj:j=i
   ·subst hj;rw[hi]at e1;cases e1;rw[Qj hiσ]at e2;cases e2
    exact⟨u,r,.inr ⟨.inl hk,c,hc,hc'⟩⟩
   ·rw[Qt (Ne.symm hj)]at e2;obtain⟨u',r',q⟩:=hl j y v' e1 e2 e3;refine⟨u',r',?_⟩;rcases q with q|⟨k,c',e,z'⟩
    ·exact .inl q
    ·refine .inr ⟨k,c',e,z'.sameBut hs ?_⟩;rintro rfl;exact hj (SA hN e1 (I.ok.inj _ _ _ e hc▸hi))
  ·by_cases hcc:c'=c
   ·subst hcc;exact⟨_,hc'⟩
   ·obtain⟨w2,z2⟩:=I.cell y c' e;exact⟨w2,z2.sameBut hs hcc⟩
  ·obtain⟨e,n,ne,nf,d⟩:=I.pin p hp;refine⟨(hs.2 p.1 ?_).trans e,n,ne,nf,d⟩;intro q;rw[q,hoc]at e;have q':oc=p.2:=Yv e;exact d w' (by rw[←q'];exact hocd)
def Nh{M:Model}{A:Around}{E:Value->Shared->Prop}{i:Nat}{x:Str}{v:V}{u:Value}{Q:Unit->Shared->Prop}(I:Inv X pins σ H s)(hN:X.N.Nodup)(hi:X.N[i]?=some x)(hx:Loc X.env.scope x)(r:RelV v u)(h:∀s',Inv X pins (σ.set i (some v)) H s'->Q () s')(hf:X.fn x=true\/X.env.scope.names.lookup x=some .local:=by first|exact .inl rfl|exact .inr rfl|assumption):wpAny M A (storeName X.env x u) Q E s:=
 Rm I hN hi hx r (fun s' I' _=>h s' I') hf
def Inv.call' {s':Shared}{ch:List Addr} (I:Inv X pins σ H s) (ho:s'.os=s.os) (u:Un (frs X.stack) ch H H' s.heap s'.heap) (hok:HOk X.prog X.w H' s'.heap) (hg:AllBare s'.gens)
  (hch:∀b∈ch,(b∈X.ex\/X.s₀.heap.objs.size<=b)/\b≠X.env.locals/\(∀x c,X.env.cells.lookup x=some c->c≠b)/\∀p∈X.pn++pins,p.1≠b):Inv X pins σ H' s':=by
 obtain⟨h',g',d',t',o'⟩:=s';have e:o'=s.os:=ho;subst e;exact I.call (g':=g') (t':=t') (d':=d') u hok hg hch
end
abbrev XK:=Value->Option Addr->Hp->Prop
abbrev St:=List (Option V)
abbrev VK:=V->Hp->Prop
abbrev TE:=St->Hp->VK->Prop
abbrev TT:=St->Hp->(Bool->Hp->Prop)->Prop
abbrev TA:=St->Hp->(List V->Hp->Prop)->Prop
structure Ends where
 nx:St->Hp->Prop
 rt:VK
 bk:St->Hp->Prop:=fun _ _=>False
 ct:St->Hp->Prop:=fun _ _=>False
abbrev TS:=Ends->St->Hp->Prop
def EP(X:Cx)(pins:List (Addr×Obj))(σ:St)(Q:VK)(u:Value)(s':Shared):Prop:=∃v H',Inv X pins σ H' s'/\RelV v u/\Q v H'
def TP(X:Cx)(pins:List (Addr×Obj))(σ:St)(Q:Bool->Hp->Prop)(b:Bool)(s':Shared):Prop:=∃H',Inv X pins σ H' s'/\Q b H'
def AP(X:Cx)(pins:List (Addr×Obj))(σ:St)(Q:List V->Hp->Prop)(us:List Value)(s':Shared):Prop:=∃vs H',Inv X pins σ H' s'/\Vals vs us/\Q vs H'
def SP(X:Cx)(pins:List (Addr×Obj))(D:Ends)(f:Flow)(s':Shared):Prop:=
 match f with
 | .next=>∃σ' H',Inv X pins σ' H' s'/\D.nx σ' H'
 | .brk=>∃σ' H',Inv X pins σ' H' s'/\D.bk σ' H'
 | .cont=>∃σ' H',Inv X pins σ' H' s'/\D.ct σ' H'
 | .ret u=>∃v σ' H',Inv X pins σ' H' s'/\RelV v u/\D.rt v H'
def PE(X:Cx)(e:Expr)(t:TE):Prop:=
 ∀(pins:List (Addr×Obj)) (s:Shared) (σ:St) (H:Hp) (Q:VK),Inv X pins σ H s->t σ H Q->wpAny (model X.prog X.w) X.A (eval e X.env) (EP X pins σ Q) X.xe s
def PT(X:Cx)(e:Expr)(t:TT):Prop:=
 ∀(pins:List (Addr×Obj)) (s:Shared) (σ:St) (H:Hp) (Q:Bool->Hp->Prop),Inv X pins σ H s->t σ H Q->wpAny (model X.prog X.w) X.A (isTrue e X.env (eval e X.env)) (TP X pins σ Q) X.xe s
def PW(X:Cx)(e:Expr)(t:TT):Prop:=
 ∀(whole:Sem Value) (pins:List (Addr×Obj)) (s:Shared) (σ:St) (H:Hp) (Q:Bool->Hp->Prop),Inv X pins σ H s->t σ H Q->wpAny (model X.prog X.w) X.A (isTrue e X.env whole) (TP X pins σ Q) X.xe s
def PW.pt {X:Cx}{e:Expr}{t:TT} (h:PW X e t):PT X e t:=h _
def PA(X:Cx)(es:List Expr)(t:TA):Prop:=
 ∀(pos:Pos) (pins:List (Addr×Obj)) (s:Shared) (σ:St) (H:Hp) (Q:List V->Hp->Prop),Inv X pins σ H s->t σ H Q->wpAny (model X.prog X.w) X.A (spliced (backTo pos (starEach es X.env))) (AP X pins σ Q) X.xe s
def PS(X:Cx)(st:Stmt)(t:TS):Prop:=
 ∀(pins:List (Addr×Obj)) (s:Shared) (σ:St) (H:Hp) (D:Ends),Inv X pins σ H s->t D σ H->wpAny (model X.prog X.w) X.A (exec st X.env) (SP X pins D) X.xe s
def PSs(X:Cx)(st:List Stmt)(t:TS):Prop:=
 ∀(pins:List (Addr×Obj)) (s:Shared) (σ:St) (H:Hp) (D:Ends),Inv X pins σ H s->t D σ H->wpAny (model X.prog X.w) X.A (execs st X.env) (SP X pins D) X.xe s
def thn{α:Type}{t:Sem α}{Q Q':α->Shared->Prop}{M:Model}{A:Around}{E:Value->Shared->Prop}{s:Shared}(h:wpAny M A t Q E s)(hQ:∀a s,Q a s->Q' a s):wpAny M A t Q' E s:=YS h hQ fun _ _ x=>x
section
variable {X:Cx}
def bin{a b:Expr}{ta tb:TE}(ha:PE X a ta)(hb:PE X b tb){pins:List (Addr×Obj)}{s:Shared}{σ:St}{H:Hp}{R:V->V->Hp->Prop}(I:Inv X pins σ H s)(h:ta σ H fun x H1=>tb σ H1 fun y H2=>R x y H2){α:Type}{Q:α->Shared->Prop}{f:Value->Value->Sem α}(hf:∀v u s2 x y H2,Inv X pins σ H2 s2->RelV x v->RelV y u->R x y H2->wpAny (model X.prog X.w) X.A (f v u) Q X.xe s2) :
  wpAny (model X.prog X.w) X.A (eval a X.env) (fun v s₁=>wpAny (model X.prog X.w) X.A (eval b X.env) (fun u s₂=>wpAny (model X.prog X.w) X.A (f v u) Q X.xe s₂) X.xe s₁) X.xe s:=by
 refine thn (ha pins s σ H _ I h) fun v s1 ⟨x,H1,I1,r1,q1⟩=>?_;refine thn (hb pins s1 σ H1 _ I1 q1) fun u s2 ⟨y,H2,I2,r2,q2⟩=>?_;exact hf v u s2 x y H2 I2 r1 r2 q2
def tVar(i:Nat):TE:=fun σ H Q=>∃v,σ[i]?=some (some v)/\Q v H
def tC(v:V):TE:=fun _ H Q=>Q v H
def Rx{i:Nat}{x:Str}{pos:Pos}(hN:X.N[i]?=some x)(hv:Vis X.env.scope x)(hd:(x==("__debug__" : Str))=false:=by decide)(hcd:(x==("__classdict__" : Str))=false:=by decide):PE X (.Name x pos) (tVar i):=by
 intro pins s σ H Q I h;obtain⟨v,e,h⟩:=h;obtain⟨m,hn,hl⟩:=I.loc;obtain⟨u,r,l⟩:=hl i x v hN e hv;have fin:EP X pins σ Q u s:=⟨v,H,I,r,h⟩;rcases l with⟨hk,hm⟩|⟨hk,c,hc,hcell⟩
 ·exact wpAny_Name (wpAny_loadName_local I.ok.kind hk hn hm fin) hd
 ·rcases hk with hk|hk
  ·exact wpAny_Name (wpAny_loadName_cell I.ok.kind hk hc hcell fin) hd
  ·exact wpAny_Name (wpAny_loadName_free I.ok.kind hk hc hcell fin hcd) hd
def J6{i j pos}:PE X (.Constant (.int i) j pos) (tC (.int i)):=fun _ _ _ H _ I h=>wpAny_Constant_int ⟨.int i,H,I.tok _,⟨_,rfl⟩,h⟩
def Xd{b j pos}:PE X (.Constant (.bool b) j pos) (tC (.bl b)):=fun _ _ _ H _ I h=>Constant_bool ⟨.bl b,H,I,rfl,h⟩
def Um{x j pos}:PE X (.Constant (.str x) j pos) (tC (.str x)):=fun _ _ _ H _ I h=>Calls.Constant_str ⟨.str x,H,I.tok _,⟨_,rfl⟩,h⟩
def Gl(X:Cx)(x:Str):Prop:=X.env.kindOf x=some .globalImplicit
def PD{E:Value->Shared->Prop}{pins:List (Addr×Obj)}{s:Shared}{σ:St}{H:Hp}{x:Str}{u:Value}{pos:Pos}{Q:Value->Shared->Prop}(I:Inv X pins σ H s)(hg:Gl X x)(hm:X.mg x=some u)(h:Q u s)(hd:(x==("__debug__" : Str))=false:=by decide):wpAny (model X.prog X.w) X.A (eval (.Name x pos) X.env) Q E s:=
 Calls.Name_function_global I.ok.kind hg (Calls.loadGlobal_global (by rw[I.ok.glob];exact I.mod.glob.keeps I.bk) hm h) hd
def PK{E:Value->Shared->Prop}{pins:List (Addr×Obj)}{s:Shared}{σ:St}{H:Hp}{x:Str}{u:Value}{pos:Pos}{Q:Value->Shared->Prop}(I:Inv X pins σ H s)(hg:Gl X x)(hm:X.mg x=none)(hv:bootBuiltins x=some u)(h:Q u s)(hn:x≠"__name__":=by decide)(hd:(x==("__debug__" : Str))=false:=by decide):wpAny (model X.prog X.w) X.A (eval (.Name x pos) X.env) Q E s:=by
 obtain⟨mb,h1,h2⟩:=I.mod.blt;exact Calls.Name_function_global I.ok.kind hg (Calls.loadGlobal_builtin (by rw[I.ok.glob];exact I.mod.glob.keeps I.bk) hm (by rw[I.ok.blt];exact h1.keeps I.bk) ((h2 x hn).trans hv) h) hd
def R4{x:Str}{v:V}{u:Value}{pos:Pos}(hg:Gl X x)(hm:X.mg x=some u)(r:RelV v u)(hd:(x==("__debug__" : Str))=false:=by decide):PE X (.Name x pos) (tC v):=
 fun _ _ _ H _ I h=>PD I hg hm ⟨v,H,I,r,h⟩ hd
def Ta{x:Str}{v:V}{u:Value}{pos:Pos}(hg:Gl X x)(hm:X.mg x=none)(hv:bootBuiltins x=some u)(r:RelV v u)(hn:x≠"__name__":=by decide)(hd:(x==("__debug__" : Str))=false:=by decide):PE X (.Name x pos) (tC v):=
 fun _ _ _ H _ I h=>PK I hg hm hv ⟨v,H,I,r,h⟩ hn hd
variable {a b:Expr}{ta tb:TE}{pos:Pos}
def PC(X:Cx)(op:CmpOp)(a b:Expr)(t:TE):Prop:=
 ∀(pins:List (Addr×Obj)) (s:Shared) (σ:St) (H:Hp) (Q:VK),Inv X pins σ H s->t σ H Q->
  wpAny (model X.prog X.w) X.A (eval a X.env) (fun v s₁=>wpAny (model X.prog X.w) X.A (eval b X.env) (fun u s₂=>wpAny (model X.prog X.w) X.A (compareOp op v u) (EP X pins σ Q) X.xe s₂) X.xe s₁) X.xe s
def Lr(b:Expr){op:CmpOp}(h:op≠.In)(h2:op≠.NotIn):behindInMarks op b=false:=by
 have e1:(op==CmpOp.In)=false:=by cases op<;>first|rfl|exact absurd rfl h
 have e2:(op==CmpOp.NotIn)=false:=by cases op<;>first|rfl|exact absurd rfl h2
 cases b<;>simp[behindInMarks,e1,e2]
def tB(t:TE):TT:=fun σ H Q=>t σ H fun x H1=>∃c,x=.bl c/\Q c H1
def BC{op:CmpOp}{t:TE}(h:PC X op a b t)(h1:behindInMarks op b=false:=by first|exact Lr _ (by decide) (by decide)|rfl):PT X (.Compare a [op] [b] pos) (tB t):=by
 intro pins s σ H Q I hw;refine wpAny_isTrue_Compare1 (thn (h pins s σ H _ I hw) fun v s1 h1=>thn h1 fun u s2 h2=>thn h2 fun c s3 ⟨x,H1,I1,r1,q1⟩=>?_) h1;obtain⟨d,rfl,q⟩:=q1;cases r1
 exact WR ⟨H1,I1,q⟩
variable {tA tB':TT}{rest:List Expr}
def tAnd(t u:TT):TT:=fun σ H Q=>t σ H fun c H1=>if c=true then u σ H1 Q else Q false H1
def tOr(t u:TT):TT:=fun σ H Q=>t σ H fun c H1=>if c=true then Q true H1 else u σ H1 Q
def tNot(t:TT):TT:=fun σ H Q=>t σ H fun c H1=>Q (!c) H1
def KI(ha:PT X a tA):PW X (.BoolOp .And [a] pos) tA:=by
 intro wh pins s σ H Q I h;refine isTrue_and (thn (ha pins s σ H Q I h) fun c s1 e=>?_);cases c with
 |true=>exact isTrue_and_nil e
 |false=>exact e
def UP(ha:PT X a tA):PW X (.BoolOp .Or [a] pos) tA:=by
 intro wh pins s σ H Q I h;refine isTrue_or (thn (ha pins s σ H Q I h) fun c s1 e=>?_);cases c with
 |false=>exact isTrue_or_nil e
 |true=>exact e
def Km(ha:PT X a tA)(hb:PW X (.BoolOp .And (b::rest) pos) tB'):PW X (.BoolOp .And (a::b::rest) pos) (tAnd tA tB'):=by
 intro wh pins s σ H Q I h;refine isTrue_and (thn (ha pins s σ H _ I h) fun c s1 ⟨H1,I1,q1⟩=>?_);cases c with
 |true=>exact hb wh pins s1 σ H1 Q I1 q1
 |false=>exact⟨H1,I1,q1⟩
def UF(ha:PT X a tA)(hb:PW X (.BoolOp .Or (b::rest) pos) tB'):PW X (.BoolOp .Or (a::b::rest) pos) (tOr tA tB'):=by
 intro wh pins s σ H Q I h;refine isTrue_or (thn (ha pins s σ H _ I h) fun c s1 ⟨H1,I1,q1⟩=>?_);cases c with
 |true=>exact⟨H1,I1,q1⟩
 |false=>exact hb wh pins s1 σ H1 Q I1 q1
def Xk(ha:PT X a tA):PT X (.UnaryOp .Not a pos) (tNot tA):=by
 intro pins s σ H Q I h;exact isTrue_not (ha pins s σ H (fun c H1=>Q (!c) H1) I h)
def GN(ta tb:TE):TE:=fun σ H Q=>ta σ H fun x H1=>∃c,x=.bl c/\if c=true then tb σ H1 Q else Q (.bl false) H1
def Cn(ta:TE):TE:=fun σ H Q=>ta σ H fun x H1=>∃c,x=.bl c/\Q (.bl (!c)) H1
def Nm{op}{t:TE}(h:PE X a t):PE X (.BoolOp op [a] pos) t:=fun pins s σ H Q I hw=>BoolOp_one (h pins s σ H Q I hw)
def Nb(ha:PE X a ta)(hb:PE X (.BoolOp .And (b::rest) pos) tb):PE X (.BoolOp .And (a::b::rest) pos) (GN ta tb):=by
 intro pins s σ H Q I h;refine BoolOp_and (thn (ha pins s σ H _ I h) fun v s1 ⟨x,H1,I1,r1,q1⟩=>?_);obtain⟨c,rfl,q1⟩:=q1;cases r1
 refine WR ?_;cases c with
 |true=>exact hb pins s1 σ H1 Q I1 q1
 |false=>exact⟨.bl false,H1,I1,rfl,q1⟩
def Bk(ha:PE X a ta):PE X (.UnaryOp .Not a pos) (Cn ta):=by
 intro pins s σ H Q I h;refine UnaryOp_ (thn (ha pins s σ H _ I h) fun v s1 ⟨x,H1,I1,r1,q1⟩=>?_);obtain⟨c,rfl,q1⟩:=q1;cases r1
 exact not_of (WR ⟨.bl (!c),H1,I1,rfl,q1⟩)
end
def SqL(K:Za)(H:Hp)(a:Addr)(xs:List V):Prop:=
 Rd H a (.lst xs)\/
  ∃(o:Obj) (its:Array Value) (n:Nat),K.lookup a=some o/\o.cls=.type "list"/\o.dict=none/\o.data=.seq its n/\its.size<=sizeLine/\Vals xs its.toList
def SqT(K:Za)(H:Hp)(a:Addr)(xs:List V):Prop:=
 Rd H a (.tup xs)\/
  ∃(o:Obj) (its:Array Value) (n:Nat),K.lookup a=some o/\o.cls=.type "tuple"/\o.data=.seq its n/\its.size<=sizeLine/\Vals xs its.toList
def absV:Value->Option V
 | .none=>some .non
 | .bool b=>some (.bl b)
 | .int i _=>some (.int i)
 | .str x _=>some (.str x)
 | .bytes b _=>some (.byt b)
 | .float b _=>some (.flt b)
 | .ref a=>some (.ref a)
 | .type n=>some (.ty n)
 |_=>none
def RelV.abs {x:V}{u:Value} (r:RelV x u):absV u=some x:=by
 cases x with
 |non=>cases r;rfl
 |bl _=>cases r;rfl
 |int _=>obtain⟨t,rfl⟩:=r;rfl
 |str _=>obtain⟨t,rfl⟩:=r;rfl
 |byt _=>obtain⟨t,rfl⟩:=r;rfl
 |flt _=>obtain⟨t,rfl⟩:=r;rfl
 |ref _=>cases r;rfl
 |ty _=>cases r;rfl
def RelV.inj {x y:V}{u:Value} (r:RelV x u) (q:RelV y u):x=y:=Yv (r.abs.symm.trans q.abs)
def Vals.inj:∀{xs ys:List V}{us:List Value},Vals xs us->Vals ys us->xs=ys
 |_,_,_,.nil,.nil=>rfl
 |_,_,_,.cons r t,.cons r' t'=>by rw[r.inj r',Vals.inj t t']
section
variable {X:Cx}{pins:List (Addr×Obj)}{σ:St}{H:Hp}{s:Shared}{a:Addr}{xs ys:List V}
def SqL.of {K:Za} (h:H a=some (.lst xs)):SqL K H a xs:=.inl (.inl h)
def SqT.of {K:Za} (h:H a=some (.tup xs)):SqT K H a xs:=.inl (.inl h)
def Inv.list (I:Inv X pins σ H s) (h:SqL X.K H a xs):∃its:List Value,Vals xs its/\PlainL s.heap a its.toArray/\xs.length<=sizeLine:=by
 rcases h with h|⟨o,its,n,hk,hc,hd,hs,hz,r⟩
 ·obtain⟨z,its,n,r,e⟩:=h.ok I.hok;exact⟨its,r,⟨_,n,e,rfl,rfl,rfl⟩,z⟩
 ·refine⟨its.toList,r,⟨o,n,I.kIn a o hk,hc,hd,by simpa using hs⟩,?_⟩;have e:=r.length;simp only[YY]at e;omega
def Inv.tuple (I:Inv X pins σ H s) (h:SqT X.K H a xs):∃its:List Value,Vals xs its/\IsTup s.heap a its.toArray/\xs.length<=sizeLine:=by
 rcases h with h|⟨o,its,n,hk,hc,hs,hz,r⟩
 ·obtain⟨z,its,r,p⟩:=h.ok I.hok;exact⟨its,r,p,z⟩
 ·refine⟨its.toList,r,⟨o,I.kIn a o hk,hc,n,by simpa using hs⟩,?_⟩;have e:=r.length;simp only[YY]at e;omega
def Inv.list_inj (I:Inv X pins σ H s) (h:SqL X.K H a xs) (h':SqL X.K H a ys):xs=ys:=by
 obtain⟨its,r,⟨o,n,e,_,_,d⟩,_⟩:=I.list h;obtain⟨its',r',⟨o',n',e',_,_,d'⟩,_⟩:=I.list h';rw[e]at e';cases e';rw[d]at d';injection d' with d1 _
 have:its=its':=by simpa using YQ Array.toList d1
 subst this;exact r.inj r'
def Inv.tuple_inj (I:Inv X pins σ H s) (h:SqT X.K H a xs) (h':SqT X.K H a ys):xs=ys:=by
 obtain⟨its,r,⟨o,e,_,n,d⟩,_⟩:=I.tuple h;obtain⟨its',r',⟨o',e',_,n',d'⟩,_⟩:=I.tuple h';rw[e]at e';cases e';rw[d]at d';injection d' with d1 _
 have:its=its':=by simpa using YQ Array.toList d1
 subst this;exact r.inj r'
end
abbrev Cx.wish (X:Cx) (E:Value->Shared->Prop):Cx:={X with xe:=E}
abbrev Cx.nox (X:Cx):Cx:=X.wish fun _ _=>False
def Cx.Ok.wish {X:Cx} (ok:X.Ok) (E:Value->Shared->Prop):(X.wish E).Ok:=
 ⟨ok.mod,ok.kind,ok.glob,ok.blt,ok.above,ok.inj,ok.has,ok.cab,ok.hd,ok.frames,ok.stk,ok.exf,ok.bs,ok.bsz,ok.noex,ok.exfs,ok.funs,ok.frf⟩
def Cx.Ok.unwish {X:Cx}{E:Value->Shared->Prop} (ok:(X.wish E).Ok):X.Ok:=
 ⟨ok.mod,ok.kind,ok.glob,ok.blt,ok.above,ok.inj,ok.has,ok.cab,ok.hd,ok.frames,ok.stk,ok.exf,ok.bs,ok.bsz,ok.noex,ok.exfs,ok.funs,ok.frf⟩
section
variable {X:Cx}{pins:List (Addr×Obj)}{σ:St}{H:Hp}{s:Shared}{E:Value->Shared->Prop}
def Inv.wish (I:Inv X pins σ H s) (E:Value->Shared->Prop):Inv (X.wish E) pins σ H s:=⟨I.ok.wish E,I.os,I.bare,I.base,I.loc,I.cell,I.free,I.freeC,I.pin,I.hok,I.len⟩
def Inv.unwish (I:Inv (X.wish E) pins σ H s):Inv X pins σ H s:=⟨I.ok.unwish,I.os,I.bare,I.base,I.loc,I.cell,I.free,I.freeC,I.pin,I.hok,I.len⟩
def SP.unwish {D:Ends}{f:Flow}{s':Shared} (h:SP (X.wish E) pins D f s'):SP X pins D f s':=by
 cases f with
 |next=>obtain⟨σ',H',I,q⟩:=h;exact⟨σ',H',I.unwish,q⟩
 |brk=>obtain⟨σ',H',I,q⟩:=h;exact⟨σ',H',I.unwish,q⟩
 |cont=>obtain⟨σ',H',I,q⟩:=h;exact⟨σ',H',I.unwish,q⟩
 |ret u=>obtain⟨v,σ',H',I,r,q⟩:=h;exact⟨v,σ',H',I.unwish,r,q⟩
def PSs.nox {st:List Stmt}{t:TS} (h:PSs X.nox st t):PSs X st t:=fun pins s σ H D I hw=>
 YS (h pins s σ H D (I.wish _) hw) (fun _ _ q=>q.unwish) fun _ _ z=>False.elim z
end
section
variable {X:Cx}{st:Stmt}{rest:List Stmt}{t u:TS}{e:Expr}{te:TE}{pos:Pos}
def Es:TS:=fun D σ H=>D.nx σ H
def tSeq(t u:TS):TS:=fun D σ H=>t {D with nx:=u D} σ H
def JO:PSs X [] Es:=fun _ _ σ H _ I h=>QO ⟨σ,H,I,h⟩
def J7(h1:PS X st t)(h2:PSs X rest u):PSs X (st::rest) (tSeq t u):=by
 intro pins s σ H D I h;refine wpAny_execs_cons (thn (h1 pins s σ H {D with nx:=u D} I h) fun f s1 q=>?_)
 cases f with
 |next=>
  obtain⟨σ',H',I',q⟩:=q;exact h2 pins s1 σ' H' D I' q
 |ret v=>exact q
 |brk=>exact q
 |cont=>exact q
def J9(h1:PS X st t):PSs X [st] t:=by
 intro pins s σ H D I h;refine wpAny_execs_cons (thn (h1 pins s σ H D I h) fun f s1 q=>?_);cases f with
 |next=>exact QO q
 |ret v=>exact q
 |brk=>exact q
 |cont=>exact q
def Inv.quiet {pins:List (Addr×Obj)}{σ:St}{H:Hp}{s:Shared} (I:Inv X pins σ H s):interactive X.env=false:=by simp[interactive,I.ok.kind]
def NM(te:TE):TS:=fun D σ H=>te σ H fun _ H1=>D.nx σ H1
def Uv(he:PE X e te)(hs:swapsWith e none pos.line X.env=pure false:=by rfl):PS X (.Expr e pos) (NM te):=by
 intro pins s σ H D I h;exact wpAny_Expr_any (thn (he pins s σ H _ I h) fun v s1 ⟨x,H1,I1,r1,q1⟩=>⟨σ,H1,I1,q1⟩) I.quiet hs
def tRet(te:TE):TS:=fun D σ H=>te σ H D.rt
def JF(he:PE X e te):PS X (.Return (some e) pos) (tRet te):=by
 intro pins s σ H D I h;exact wpAny_Return_some (thn (he pins s σ H _ I h) fun v s1 ⟨x,H1,I1,r1,q1⟩=>⟨x,σ,H1,I1,r1,q1⟩)
def tIfS(c:TT)(t u:TS):TS:=fun D σ H=>c σ H fun b H1=>if b=true then t D σ H1 else u D σ H1
def JL{c:Expr}{a b:List Stmt}{tc:TT}(hc:PT X c tc)(ha:PSs X a t)(hb:PSs X b u):PS X (.If c a b pos) (tIfS tc t u):=by
 intro pins s σ H D I h;refine wpAny_If (thn (hc pins s σ H _ I h) fun d s1 ⟨H1,I1,q1⟩=>?_);cases d with
 |true=>exact ha pins s1 σ H1 D I1 q1
 |false=>exact hb pins s1 σ H1 D I1 q1
end
abbrev TG:=V->St->Hp->(St->Hp->Prop)->Prop
abbrev TGs:=List V->St->Hp->(St->Hp->Prop)->Prop
def PG(X:Cx)(target:Expr)(t:TG):Prop:=
 ∀(pins:List (Addr×Obj)) (s:Shared) (σ:St) (H:Hp) (v:V) (u:Value) (Q:St->Hp->Prop),Inv X pins σ H s->RelV v u->t v σ H Q->
  wpAny (model X.prog X.w) X.A (assign target X.env u) (fun _ s'=>∃σ' H',Inv X pins σ' H' s'/\Q σ' H') X.xe s
def PGs(X:Cx)(ts:List Expr)(t:TGs):Prop:=
 ∀(pins:List (Addr×Obj)) (s:Shared) (σ:St) (H:Hp) (vs:List V) (us:List Value) (Q:St->Hp->Prop),Inv X pins σ H s->Vals vs us->t vs σ H Q->
  wpAny (model X.prog X.w) X.A (assignInOrder ((assignEach ts X.env).map (·.2)) us) (fun _ s'=>∃σ' H',Inv X pins σ' H' s'/\Q σ' H') X.xe s
abbrev TSet:=V->V->V->Hp->(Hp->Prop)->Prop
def PSet(X:Cx)(t:TSet):Prop:=
 ∀(pins:List (Addr×Obj)) (s:Shared) (σ:St) (H:Hp) (o i v:V) (ov iv u:Value) (Q:Hp->Prop),Inv X pins σ H s->RelV o ov->RelV i iv->RelV v u->t o i v H Q->
  wpAny (model X.prog X.w) X.A (setItem ov iv u) (fun _ s'=>∃H',Inv X pins σ H' s'/\Q H') X.xe s
abbrev TIp:=V->V->Hp->VK->Prop
def PIp(X:Cx)(op:Operator)(t:TIp):Prop:=
 ∀(pins:List (Addr×Obj)) (s:Shared) (σ:St) (H:Hp) (x y:V) (v u:Value) (Q:VK),Inv X pins σ H s->RelV x v->RelV y u->t x y H Q->
  wpAny (model X.prog X.w) X.A (inplaceOp op v u) (EP X pins σ Q) X.xe s
section
variable {X:Cx}{pos:Pos}
def P8(i:Nat):TG:=fun v σ H Q=>Q (σ.set i (some v)) H
def B0{i:Nat}{x:Str}(hN:X.N.Nodup)(hi:X.N[i]?=some x)(hx:Loc X.env.scope x)(hf:X.fn x=true\/X.env.scope.names.lookup x=some .local:=by first|exact .inl rfl|exact .inr rfl|assumption):PG X (.Name x pos) (P8 i):=by
 intro pins s σ H v u Q I r h;exact wpAny_assign_Name (Nh I hN hi hx r (fun s' I'=>⟨_,H,I',h⟩) hf)
def gNil:TGs:=fun vs σ H Q=>vs=[]/\Q σ H
def DY(t:TG)(u:TGs):TGs:=fun vs σ H Q=>∃v r,vs=v::r/\t v σ H fun σ' H'=>u r σ' H' Q
def Kn:PGs X [] gNil:=by
 intro pins s σ H vs us Q I r h;obtain⟨e,h⟩:=h;subst e;cases r
 exact assignInOrder_nil ⟨σ,H,I,h⟩
def UQ{e:Expr}{es:List Expr}{t:TG}{u:TGs}(h1:PG X e t)(h2:PGs X es u)(hs:(assignEach (e::es) X.env).map (·.2)=assign e X.env::(assignEach es X.env).map (·.2):=by rfl):PGs X (e::es) (DY t u):=by
 intro pins s σ H vs us Q I r h;obtain⟨v,vr,e1,h⟩:=h;subst e1;cases r with
 |cons r rr=>
  rw[hs];refine assignInOrder_cons (thn (h1 pins s σ H _ _ _ I r h) fun _ s1 ⟨σ1,H1,I1,q1⟩=>?_);exact h2 pins s1 σ1 H1 _ _ Q I1 rr q1
def gTup(K:Za)(n:Nat)(t:TGs):TG:=fun v σ H Q=>∃a xs,v=.ref a/\SqT K H a xs/\xs.length=n/\t xs σ H Q
def Zct{es:List Expr}{k:Nat}{t:TGs}{n:Nat}(hc:X.calm=true)(h:PGs X es t)(hn:(assignEach es X.env).length=n:=by rfl)(hst:(assignEach es X.env).findIdx? (·.1)=none:=by rfl):PG X (.Tuple es k pos) (gTup X.K n t):=by
 intro pins s σ H v u Q I r hw;obtain⟨a,xs,e1,hq,hl,hw⟩:=hw;subst e1;cases r
 obtain⟨its,rv,ht,hz⟩:=I.tuple hq;refine assign_Tuple_tuple (I.ok.hd hc) ht (by simp[hn,←hl,rv.length]) hst fun h' hx=>?_;have I1:Inv X pins σ H {s with heap:=h'}:=I.kept (t':=s.toks) fun b o e=>hx b o (YA (Yu e)) e
 exact h pins _ σ H xs _ Q I1 (by simpa using rv) hw
def gSub(to ti:TE)(t:TSet):TG:=fun v σ H Q=>to σ H fun o H1=>ti σ H1 fun i H2=>t o i v H2 fun H3=>Q σ H3
def Hm{o i:Expr}{to ti:TE}{t:TSet}(ho:PE X o to)(hi:PE X i ti)(hs:PSet X t)
  (ha:∀v,assign (.Subscript o i pos) X.env v=(do
   let ov ←holding [v] (eval o X.env)
   let iv ←holding [v,ov] (eval i X.env)
   standAt pos
   holding [v,ov,iv] (setItem ov iv v)
   release [v,ov,iv] []):=by intro _;rfl):PG X (.Subscript o i pos) (gSub to ti t):=by
 intro pins s σ H v u Q I r h;rw[ha];refine Yk (Wx (thn (ho pins s σ H _ I h) fun ov s1 ⟨x,H1,I1,r1,q1⟩=>?_));refine Yk (Wx (thn (hi pins s1 σ H1 _ I1 q1) fun iv s2 ⟨y,H2,I2,r2,q2⟩=>?_));refine Yk (Qw (Yk (Wx (thn (hs pins s2 σ H2 x y v ov iv u _ I2 r1 r2 r q2) fun _ s3 ⟨H3,I3,q3⟩=>?_))));exact wpAny_release ⟨σ,H3,I3,q3⟩
def tAsg(te:TE)(g:TG):TS:=fun D σ H=>te σ H fun x H1=>g x σ H1 D.nx
def Rt{tg e:Expr}{te:TE}{g:TG}(he:PE X e te)(hg:PG X tg g)(hs:swapsWithSole [tg] e pos.line X.env=pure false:=by rfl)(hw:swappedStores [tg] e X.env=pure none:=by rfl)(h1:(assignEach [tg] X.env).map (·.2)=[assign tg X.env]:=by rfl):PS X (.Assign [tg] e pos) (tAsg te g):=by
 intro pins s σ H D I h;refine wpAny_Assign_stores (thn (he pins s σ H _ I h) fun v s1 ⟨x,H1,I1,r1,q1⟩=>?_) hs hw;rw[h1];exact thn (hg pins s1 σ H1 x v _ I1 r1 q1) fun _ s2 q=>q
def Zey{i:Nat}{x:Str}{e:Expr}{te:TE}{pos':Pos}(hN:X.N.Nodup)(hi:X.N[i]?=some x)(hx:Loc X.env.scope x)(he:PE X e te)(hs:swapsWith e (some (.Name x pos')) pos.line X.env=pure false:=by rfl)(hf:X.fn x=true\/X.env.scope.names.lookup x=some .local:=by first|exact .inl rfl|exact .inr rfl|assumption) :
  PS X (.Assign [.Name x pos'] e pos) (tAsg te (P8 i)):=by
 intro pins s σ H D I h;refine wpAny_Assign_Name (thn (he pins s σ H _ I h) fun v s1 ⟨y,H1,I1,r1,q1⟩=>?_) hs;exact Nh I1 hN hi hx r1 (fun s2 I2=>⟨_,H1,I2,q1⟩) hf
def tAug(i:Nat)(te:TE)(ti:TIp):TS:=fun D σ H=>∃x,σ[i]?=some (some x)/\te σ H fun y H1=>ti x y H1 fun z H2=>D.nx (σ.set i (some z)) H2
def EM{i:Nat}{x:Str}{e:Expr}{te:TE}{op:Operator}{ti:TIp}{pos':Pos}(hN:X.N.Nodup)(hi:X.N[i]?=some x)(hx:Loc X.env.scope x)(he:PE X e te)(ho:PIp X op ti)(hf:X.fn x=true\/X.env.scope.names.lookup x=some .local:=by first|exact .inl rfl|exact .inr rfl|assumption) :
  PS X (.AugAssign (.Name x pos') op e pos) (tAug i te ti):=by
 intro pins s σ H D I h;obtain⟨v,e1,h⟩:=h;obtain⟨m,hn,hl⟩:=I.loc;have vis:Vis X.env.scope x:=by rcases hx with k|k;exact .inl k;exact .inr (.inl k)
 obtain⟨u,r,l⟩:=hl i x v hi e1 vis;refine wpAny_AugAssign_Name ?_
 have go:wpAny (model X.prog X.w) X.A (eval e X.env) (fun w s₂=>wpAny (model X.prog X.w) X.A (inplaceOp op u w) (fun r s₃=>wpAny (model X.prog X.w) X.A (storeName X.env x r) (fun _=>SP X pins D .next) X.xe s₃) X.xe s₂) X.xe s:=by
  refine thn (he pins s σ H _ I h) fun w s1 ⟨y,H1,I1,r1,q1⟩=>?_;refine thn (ho pins s1 σ H1 v y u w _ I1 r r1 q1) fun z s2 ⟨zv,H2,I2,r2,q2⟩=>?_;exact Nh I2 hN hi hx r2 (fun s3 I3=>⟨_,H2,I3,q2⟩) hf
 rcases l with⟨hk,hm⟩|⟨hk,c,hc,hcell⟩
 ·exact wpAny_loadName_local I.ok.kind hk hn hm go
 ·rcases hk with hk|hk
  ·exact wpAny_loadName_cell I.ok.kind hk hc hcell go
  ·rcases hx with k|k
   ·have:X.env.scope.names.lookup x=some .free:=hk
    rw[k]at this;cases this
   ·have:X.env.scope.names.lookup x=some .free:=hk
    rw[k]at this;cases this
def ipI(f:Int->Int->Int):TIp:=fun x y H Q=>∃i j,x=.int i/\y=.int j/\Q (.int (f i j)) H
def GC:PIp X .Add (ipI fun i j=>i+j):=by
 intro pins s σ H x y v u Q I r1 r2 h;obtain⟨i,j,e1,e2,q⟩:=h;subst e1;subst e2;obtain⟨t,rfl⟩:=r1;obtain⟨t',rfl⟩:=r2;exact iadd_int ⟨.int _,H,I.tok _,⟨_,rfl⟩,q⟩
end
section
variable {X:Cx}{pos:Pos}
def D4(c:TT)(tb:TS):TS:=fun D σ H=>∃W:Nat->St->Hp->Prop,(∃m,W m σ H)/\∀m σ H,W m σ H->
 c σ H fun b H1=>if b=true then ∃N:St->Hp->Prop,(∀σ' H',N σ' H'->∃m',m'<m/\W m' σ' H')/\tb {D with nx:=N,ct:=N,bk:=D.nx} σ H1 else D.nx σ H1
def DK{c:Expr}{body:List Stmt}{tc:TT}{tb:TS}(hp:PassesOwn (model X.prog X.w) X.A X.env X.xe)(hc:PT X c tc)(hb:PSs X body tb):PS X (.While c body [] pos) (D4 tc tb):=by
 intro pins s σ H D I h;obtain⟨W,⟨m0,w0⟩,turn⟩:=h;refine wpAny_While (codeAny_whileLoop (fun n s'=>∃σ' H',Inv X pins σ' H' s'/\W n σ' H') ?_ m0 ⟨σ,H,I,w0⟩);rintro n s1 ⟨σ1,H1,I1,w1⟩;refine WM hp (thn (hc pins s1 σ1 H1 _ I1 (turn n σ1 H1 w1)) fun b s2 ⟨H2,I2,q2⟩=>?_);cases b with
 |true=>
  obtain⟨N,hN,q2⟩:=q2;rw[Yn rfl];refine WM hp (thn (hb pins s2 σ1 H2 _ I2 q2) fun f s3 q3=>?_);cases f with
  |next=>
   obtain⟨σ3,H3,I3,n3⟩:=q3;obtain⟨m',hm,w3⟩:=hN σ3 H3 n3;exact⟨m',hm,σ3,H3,I3,w3⟩
  |cont=>
   obtain⟨σ3,H3,I3,n3⟩:=q3;obtain⟨m',hm,w3⟩:=hN σ3 H3 n3;exact⟨m',hm,σ3,H3,I3,w3⟩
  |brk=>exact q3
  |ret v=>exact q3
 |false=>
  rw[Yo Y7];exact QO ⟨σ1,H2,I2,q2⟩
end
structure It where
 go:Nat->Hp->Prop
 yld:Nat->Hp->V->Hp->Prop
 stop:Nat->Hp->Prop
def FpOk(X:Cx)(pins:List (Addr×Obj))(H:Hp)(b:Addr):Prop:=
 H b=none/\b≠X.env.locals/\b∉X.fs/\(b∈X.ex\/X.s₀.heap.objs.size<=b)/\(∀x c,X.env.cells.lookup x=some c->c≠b)/\∀p∈X.pn++pins,p.1≠b
def Inv.fpOk {X:Cx}{pins:List (Addr×Obj)}{σ:St}{H H':Hp}{s:Shared}{b:Addr} (I:Inv X pins σ H s) (hb:s.heap.objs.size<=b) (hn:H' b=none):FpOk X pins H' b:=by
 refine⟨hn,QP (YK I.lt hb),I.nofs hb,.inr (Yy I.sz hb),fun x c e z=>?_,fun p hp z=>?_⟩
 ·obtain⟨v,q⟩:=I.cell x c e;exact absurd (YK q.lt (by rw[z];exact hb)) (Wq _)
 ·exact absurd (YK (Yu (I.pin p hp).1) (by rw[z];exact hb)) (Wq _)
structure Turn (P:Program) (w:World) (K:Za) (tg:Expr) (J:It) (fp:List Addr) (it:Addr) (tn:Nat->Heap->Prop):Prop where
 mem:it∈fp
 obj:∀i h,tn i h->∀b∈fp,∃o,h.get? b=some o/\∀v,o.data≠.cell v
 keep:∀i h h',tn i h->(∀b∈fp,∀o,h.get? b=some o->h'.get? b=some o)->tn i h'
 item:∀(X:Cx),X.prog=P->X.w=w->X.K=K->X.calm=true->∀(i:Nat) (pins:List (Addr×Obj)) (s:Shared) (σ:St) (H:Hp) (E:Value->Shared->Prop),Inv X pins σ H s->(∀b∈fp,FpOk X pins H b)->tn i s.heap->J.go i H->
  wpAny (model P w) X.A (pyNext (.ref it)) (fun r s1=>∃u,r=some u/\
   wpAny (model P w) X.A (letOwnedTupleGo tg (.ref it) u) (fun _ s2=>∃x H',Inv X pins σ H' s2/\RelV x u/\J.yld i H x H'/\tn (i+1) s2.heap/\∀b∈fp,H' b=none) E s1) E s
 done:∀(X:Cx),X.prog=P->X.w=w->X.K=K->X.calm=true->∀(i:Nat) (pins:List (Addr×Obj)) (s:Shared) (σ:St) (H:Hp) (E:Value->Shared->Prop),Inv X pins σ H s->(∀b∈fp,FpOk X pins H b)->tn i s.heap->J.stop i H->
  wpAny (model P w) X.A (pyNext (.ref it)) (fun r s1=>r=none/\Inv X pins σ H s1) E s
 self:∀(A:Around) (i:Nat) (s:Shared) (Q:Value->Shared->Prop) (E:Value->Shared->Prop),tn i s.heap->Q (.ref it) s->wpAny (model P w) A (pyIter (.ref it)) Q E s
abbrev TI:=St->Hp->(It->Hp->Prop)->Prop
def PIE(X:Cx)(pins:List (Addr×Obj))(σ:St)(tg:Expr)(R:It->Hp->Prop)(itv:Value)(s2:Shared):Prop:=
 ∃(it:Addr) (fp:List Addr) (tn:Nat->Heap->Prop) (J:It) (H':Hp),itv=.ref it/\Inv X pins σ H' s2/\Turn X.prog X.w X.K tg J fp it tn/\tn 0 s2.heap/\(∀b∈fp,FpOk X pins H' b)/\R J H'
def PI(X:Cx)(tg iter:Expr)(wi:TI):Prop:=
 ∀(pins:List (Addr×Obj)) (s:Shared) (σ:St) (H:Hp) (R:It->Hp->Prop),Inv X pins σ H s->wi σ H R->
  wpAny (model X.prog X.w) X.A (eval iter X.env) (fun v s1=>wpAny (model X.prog X.w) X.A (pyIter v) (PIE X pins σ tg R) X.xe s1) X.xe s
def FP {M : Model} {A : Around} {E : Value → Shared → Prop} {s : Shared} {tg : Expr} {it : Addr} {u : Value} {o : Obj} {n : String} {vs : Array Value} {Q : Unit → Shared → Prop} (ho : s.heap.get? it = some o) (hc : o.cls = .type n) (hd : o.data = .fields vs)
    (hn : ["enumerate", "zip", "dict_itemiterator", "dict_reverseitemiterator", "odict_iterator", "itertools.zip_longest", "itertools.pairwise"].contains n = false) (hQ : Q () s) : wpAny M A (letOwnedTupleGo tg (.ref it) u) Q E s := by
  unfold letOwnedTupleGo
  cases tg <;> first
    | exact Ys hQ
    | (cases u <;> first
        | exact Ys hQ
        | (refine Yk (wpAny_load ho ?_)
           rw [hc, hd]
           show wpAny M A (if (["enumerate", "zip", "dict_itemiterator", "dict_reverseitemiterator", "odict_iterator", "itertools.zip_longest", "itertools.pairwise"].contains n && vs[0]? == some (rawInt _)) = true then _ else _) Q E s
           rw [Yo (by intro h; rw [hn, WY] at h; cases h)]
           exact Ys hQ))
def Itl(K:Za)(a:Addr):It:=
 ⟨fun i H=>∃xs x,SqL K H a xs/\xs[i]?=some x,fun i H x H'=>H'=H/\∀xs,SqL K H a xs->xs[i]?=some x,fun i H=>∃xs,SqL K H a xs/\xs.length<=i⟩
def Itt(K:Za)(a:Addr):It:=
 ⟨fun i H=>∃xs x,SqT K H a xs/\xs[i]?=some x,fun i H x H'=>H'=H/\∀xs,SqT K H a xs->xs[i]?=some x,fun i H=>∃xs,SqT K H a xs/\xs.length<=i⟩
def Itr(lo:Int)(n:Nat):It:=⟨fun i _=>i<n,fun i H x H'=>H'=H/\x=.int (lo+i),fun i _=>n<=i⟩
def Rr{P:Program}{w:World}{K:Za}{tg:Expr}(a it:Addr):Turn P w K tg (Itl K a) [it] it (fun i h=>h.IsListIter it a i) where
 mem:=by simp
 obj:=fun i h st b hb=>by
  have e:b=it:=by simpa using hb
  subst e;obtain⟨o,e,c,d⟩:=st;exact⟨o,e,fun v z=>by rw[d]at z;cases z⟩
 keep:=fun i h h' st k=>st.at fun o e=>k it (by simp) o e
 item:=by
  intro X hP hw hK hc i pins s σ H E I hf st hg;subst hP hw hK;obtain⟨xs,x,hq,hx⟩:=hg;obtain⟨its,rv,p,hz⟩:=I.list hq;obtain⟨u,hu,ru⟩:=rv.get hx;obtain⟨f0,f1,f2,f3,f4,f5⟩:=hf it (by simp);refine wpAny_pyNext_list_item st p.isList (x:=u) (by simpa using hu) fun h' st' sb=>?_;have I1:Inv X pins σ H {s with heap:=h'}:=I.turned (t':=s.toks) (fun b o hb e=>(sb.2 b hb).trans e) f0 f1 f3 f4 f5
  obtain⟨o,e,c,d⟩:=id st';exact⟨u,rfl,FP (s:={s with heap:=h'}) e c d (by decide) ⟨x,H,I1,ru,⟨rfl,fun ys hy=>by rw[I.list_inj hy hq];exact hx⟩,st',fun b hb=>(hf b hb).1⟩⟩
 done:=by
  intro X hP hw hK hc i pins s σ H E I hf st hg;subst hP hw hK;obtain⟨xs,hq,hx⟩:=hg;obtain⟨its,rv,p,hz⟩:=I.list hq;obtain⟨f0,f1,f2,f3,f4,f5⟩:=hf it (by simp);have hl:=rv.length;exact wpAny_pyNext_list_end (I.ok.hd hc) st p.isList (by simp;omega) fun h' eb=>⟨rfl,I.turned (t':=s.toks) (fun b o hb e=>eb b o hb e) f0 f1 f3 f4 f5⟩
 self:=fun _ _ _ _ _ st h=>wpAny_pyIter_listiter st h
def Zbb{P:Program}{w:World}{K:Za}{tg:Expr}(a it:Addr):Turn P w K tg (Itt K a) [it] it (fun i h=>h.IsTupleIter it a i) where
 mem:=by simp
 obj:=fun i h st b hb=>by
  have e:b=it:=by simpa using hb
  subst e;obtain⟨o,e,c,d⟩:=st;exact⟨o,e,fun v z=>by rw[d]at z;cases z⟩
 keep:=fun i h h' st k=>st.at fun o e=>k it (by simp) o e
 item:=by
  intro X hP hw hK hc i pins s σ H E I hf st hg;subst hP hw hK;obtain⟨xs,x,hq,hx⟩:=hg;obtain⟨its,rv,p,hz⟩:=I.tuple hq;obtain⟨u,hu,ru⟩:=rv.get hx;obtain⟨f0,f1,f2,f3,f4,f5⟩:=hf it (by simp);refine wpAny_pyNext_tuple_item st (show s.heap.IsTuple a its.toArray from p) (x:=u) (by simpa using hu) fun h' st' sb=>?_
  have I1:Inv X pins σ H {s with heap:=h'}:=I.turned (t':=s.toks) (fun b o hb e=>(sb.2 b hb).trans e) f0 f1 f3 f4 f5
  obtain⟨o,e,c,d⟩:=id st';exact⟨u,rfl,FP (s:={s with heap:=h'}) e c d (by decide) ⟨x,H,I1,ru,⟨rfl,fun ys hy=>by rw[I.tuple_inj hy hq];exact hx⟩,st',fun b hb=>(hf b hb).1⟩⟩
 done:=by
  intro X hP hw hK hc i pins s σ H E I hf st hg;subst hP hw hK;obtain⟨xs,hq,hx⟩:=hg;obtain⟨its,rv,p,hz⟩:=I.tuple hq;obtain⟨f0,f1,f2,f3,f4,f5⟩:=hf it (by simp);have hl:=rv.length;exact wpAny_pyNext_tuple_end (I.ok.hd hc) st (show s.heap.IsTuple a its.toArray from p) (by simp;omega) fun h' eb=>⟨rfl,I.turned (t':=s.toks) (fun b o hb e=>eb b o hb e) f0 f1 f3 f4 f5⟩
 self:=fun _ _ _ _ _ st h=>wpAny_pyIter_tupleiter st h
def Zcp{P:Program}{w:World}{K:Za}{tg:Expr}(it:Addr)(lo:Int)(n:Nat):Turn P w K tg (Itr lo n) [it] it (fun i h=>IsRangeIter h it (lo+(i:Nat)*1) ((n:Int)-(i:Nat)) 1) where
 mem:=by simp
 obj:=fun i h st b hb=>by
  have e:b=it:=by simpa using hb
  subst e
  exact⟨_,st,fun v z=>by
   have z':Data.fields _=Data.cell v:=z;cases z'⟩
 keep:=fun i h h' st k=>k it (by simp) _ st
 item:=by
  intro X hP hw hK hc i pins s σ H E I hf st hg;subst hP hw hK;obtain⟨f0,f1,f2,f3,f4,f5⟩:=hf it (by simp);have W:=Walks.range (prog:=X.prog) (w:=X.w) (I.ok.hd hc) it lo 1 n;refine W.item i s _ _ hg st fun v h' tk hv st' kk=>?_;obtain⟨t,rfl⟩:=hv;have I1:Inv X pins σ H {s with heap:=h',toks:=tk}:=I.turned (fun b o hb e=>kk b o (by simpa using hb) e) f0 f1 f3 f4 f5
  refine⟨_,rfl,FP (s:={s with heap:=h',toks:=tk}) (n:="range_iterator") st' rfl rfl (by decide) ⟨.int (lo+i),H,I1,⟨t,?_⟩,⟨rfl,rfl⟩,st',fun b hb=>(hf b hb).1⟩⟩
  rw[Int.mul_one]
 done:=by
  intro X hP hw hK hc i pins s σ H E I hf st hg;subst hP hw hK;obtain⟨f0,f1,f2,f3,f4,f5⟩:=hf it (by simp);exact wpAny_pyNext_range_end (I.ok.hd hc) st (by have:n<=i:=hg;omega) fun h' eb=>⟨rfl,I.turned (t':=s.toks) (fun b o hb e=>eb b o hb e) f0 f1 f3 f4 f5⟩
 self:=fun _ _ _ _ _ st h=>wpAny_pyIter_rangeiter st h
section
variable {X:Cx}{tg:Expr}
def N7(K:Za)(tl:TE):TI:=fun σ H R=>tl σ H fun x H1=>∃a,x=.ref a/\(∃xs,SqL K H1 a xs)/\R (Itl K a) H1
def iTup(K:Za)(tl:TE):TI:=fun σ H R=>tl σ H fun x H1=>∃a,x=.ref a/\(∃xs,SqT K H1 a xs)/\R (Itt K a) H1
def A2{l:Expr}{tl:TE}(hl:PE X l tl):PI X tg l (N7 X.K tl):=by
 intro pins s σ H R I h;refine thn (hl pins s σ H _ I h) fun v s1 ⟨x,H1,I1,r1,q1⟩=>?_;obtain⟨a,e,⟨xs,hq⟩,q⟩:=q1;subst e;cases r1
 obtain⟨its,rv,p,hz⟩:=I1.list hq;refine wpAny_pyIter_list p.isList ?_;refine⟨s1.heap.objs.size,[s1.heap.objs.size],_,_,H1,rfl,I1.kept (t':=s1.toks) fun b o e=>Yq _ e,Rr a _,⟨_,Y3 _ rfl,rfl,rfl⟩,fun b hb=>?_,q⟩;have e:b=s1.heap.objs.size:=by simpa using hb
 subst e;exact I1.fpOk (Yr _) (I1.hok.fresh (Yr _))
def Zbq{l:Expr}{tl:TE}(hl:PE X l tl):PI X tg l (iTup X.K tl):=by
 intro pins s σ H R I h;refine thn (hl pins s σ H _ I h) fun v s1 ⟨x,H1,I1,r1,q1⟩=>?_;obtain⟨a,e,⟨xs,hq⟩,q⟩:=q1;subst e;cases r1
 obtain⟨its,rv,p,hz⟩:=I1.tuple hq;refine wpAny_pyIter_tuple (show s1.heap.IsTuple a its.toArray from p) ?_
 refine⟨s1.heap.objs.size,[s1.heap.objs.size],_,_,H1,rfl,I1.kept (t':=s1.toks) fun b o e=>Yq _ e,Zbb a _,⟨_,Y3 _ rfl,rfl,rfl⟩,fun b hb=>?_,q⟩;have e:b=s1.heap.objs.size:=by simpa using hb
 subst e;exact I1.fpOk (Yr _) (I1.hok.fresh (Yr _))
def GH{pins:List (Addr×Obj)}{σ:St}{H:Hp}{s:Shared}{R:It->Hp->Prop}{E:Value->Shared->Prop}{lo hi:Int}{t u v:Tok}{tk:Nat}(I:Inv X pins σ H s)(h1:-(2 ^ 62)<=lo)(h2:lo<2 ^ 62)(h3:-(2 ^ 62)<=hi)(h4:hi<2 ^ 62)(q:R (Itr lo (hi-lo).toNat) H):wpAny (model X.prog X.w) X.A (pyIter (.ref s.heap.objs.size)) (PIE X pins σ tg R) E {s with heap:=s.heap.push {cls:=.type "range",data:=.fields #[.int lo t,.int hi u,.int 1 v]},toks:=tk}:=by
 refine wpAny_pyIter_range (IsRange.new ..) (small_one h1 h2 h3 h4) ?_;have I1:Inv X pins σ H {s with heap:=s.heap.push {cls:=.type "range",data:=.fields #[.int lo t,.int hi u,.int 1 v]},toks:=tk}:=I.kept fun b o e=>Yq _ e
 refine⟨(s.heap.push {cls:=.type "range",data:=.fields #[.int lo t,.int hi u,.int 1 v]}).objs.size,[(s.heap.push {cls:=.type "range",data:=.fields #[.int lo t,.int hi u,.int 1 v]}).objs.size],_,_,H,rfl,
  I1.kept (t':=tk) fun b o e=>Yq _ e,Zcp _ lo (hi-lo).toNat,?_,fun b hb=>?_,q⟩
 ·have e1:lo+((0:Nat):Int)*1=lo:=by simp
  have e2:(((hi-lo).toNat:Nat):Int)-((0:Nat):Int)=Builtin.Range.rangeSize lo hi 1:=by rw[rangeSize_one];split<;>omega
  show IsRangeIter _ _ (lo+((0:Nat):Int)*1) ((((hi-lo).toNat:Nat):Int)-((0:Nat):Int)) 1;rw[e1,e2];exact Y3 _ rfl
 ·have e:b=(s.heap.push {cls:=.type "range",data:=.fields #[.int lo t,.int hi u,.int 1 v]}).objs.size:=by simpa using hb
  subst e;exact I1.fpOk (Yr _) (I1.hok.fresh (Yr _))
def GA(ta:TA):TI:=fun σ H R=>ta σ H fun vs H1=>∃j:Int,vs=[.int j]/\-(2 ^ 62)<=j/\j<2 ^ 62/\R (Itr 0 j.toNat) H1
def D3(ta:TA):TI:=fun σ H R=>ta σ H fun vs H1=>∃i j:Int,vs=[.int i,.int j]/\(-(2 ^ 62)<=i/\i<2 ^ 62/\-(2 ^ 62)<=j/\j<2 ^ 62)/\R (Itr i (j-i).toNat) H1
def TK{a:Expr}{ta:TA}{p pos:Pos}(hg:Gl X "range")(hm:X.mg "range"=none)(ha:PA X [a] ta)(hs:starEach [a] X.env=[(false,eval a X.env)]:=by rfl):PI X tg (.Call (.Name "range" p) [a] [] pos) (GA ta):=by
 intro pins s σ H R I h;refine Call_ (PK I hg hm boot_range (WI (thn (ha pos pins s σ H _ I h) fun us s1 ⟨vs,H1,I1,r1,q1⟩=>?_) hs rfl));obtain⟨j,e,q1,q2,q⟩:=q1;subst e;cases r1 with
 |cons r rr=>
  cases rr
  obtain⟨t,rfl⟩:=r;exact call_range_1 (GH I1 (by omega) (by omega) q1 q2 (by simpa using q))
def Hv{a b:Expr}{ta:TA}{p pos:Pos}(hg:Gl X "range")(hm:X.mg "range"=none)(ha:PA X [a,b] ta)(hs:starEach [a,b] X.env=[(false,eval a X.env),(false,eval b X.env)]:=by rfl)(hs2:starEach [b] X.env=[(false,eval b X.env)]:=by rfl) :
  PI X tg (.Call (.Name "range" p) [a,b] [] pos) (D3 ta):=by
 intro pins s σ H R I h;refine Call_ (PK I hg hm boot_range (WI (thn (ha pos pins s σ H _ I h) fun us s1 ⟨vs,H1,I1,r1,q1⟩=>?_) (by rw[hs,hs2]) (by rw[hs2];rfl)));obtain⟨i,j,e,⟨q1,q2,q3,q4⟩,q⟩:=q1;subst e;cases r1 with
 |cons r rr=>
  cases rr with
  |cons r' rr=>
   cases rr
   obtain⟨t,rfl⟩:=r;obtain⟨t',rfl⟩:=r';exact call_range_2 (GH I1 q1 q2 q3 q4 q)
def tFor(wi:TI)(g:TG)(tb:TS):TS:=fun D σ H=>wi σ H fun J H1=>∃W:Nat->Nat->St->Hp->Prop,(∃m,W 0 m σ H1)/\∀i m σ H,W i m σ H->
 (J.stop i H/\D.nx σ H)\/(J.go i H/\∃N:St->Hp->Prop,(∀σ' H',N σ' H'->∃m',m'<m/\W (i+1) m' σ' H')/\∀x H',J.yld i H x H'->g x σ H' fun σ2 H2=>tb {D with nx:=N,ct:=N,bk:=D.nx} σ2 H2)
def TM(fp:List Addr)(h:Heap):List (Addr×Obj):=fp.filterMap fun b=>(h.get? b).map fun o=>(b,o)
def NF{fp:List Addr}{h:Heap}{b:Addr}{o:Obj}(hb:b∈fp)(e:h.get? b=some o):(b,o)∈TM fp h:=Vf.mpr ⟨b,hb,by rw[e];rfl⟩
def Zej{fp:List Addr}{h:Heap}{p:Addr×Obj}(hp:p∈TM fp h):p.1∈fp/\h.get? p.1=some p.2:=by
 obtain⟨b,hb,e⟩:=Vf.mp hp;cases q:h.get? b with
 |none=>rw[q]at e;cases e
 |some o=>
  rw[q]at e;have e':(b,o)=p:=Yv e;subst e';exact⟨hb,q⟩
def Inv.pinned {pins:List (Addr×Obj)}{σ:St}{H:Hp}{s:Shared}{fp:List Addr} (I:Inv X pins σ H s) (hf:∀b∈fp,FpOk X pins H b) (ho:∀b∈fp,∃o,s.heap.get? b=some o/\∀v,o.data≠.cell v):Inv X (pins++TM fp s.heap) σ H s:=
 I.pins_of fun p hp=>(Y4.mp hp).elim (fun z=>I.pin p (YF _ z)) fun z=>by
  obtain⟨hb,e⟩:=Zej z;obtain⟨f0,f1,f2,_⟩:=hf p.1 hb;obtain⟨o,e',d⟩:=ho p.1 hb;rw[e]at e';cases e';exact⟨e,f0,f1,f2,d⟩
def Inv.unpinned {pins pl:List (Addr×Obj)}{σ:St}{H:Hp}{s:Shared} (I:Inv X (pins++pl) σ H s):Inv X pins σ H s:=I.pins_of fun p hp=>I.pin p (YF _ (Wo _ hp))
def UT{iter:Expr}{body:List Stmt}{wi:TI}{g:TG}{tb:TS}{pos:Pos}(hp:PassesOwn (model X.prog X.w) X.A X.env X.xe)(hc:X.calm=true)(hi:PI X tg iter wi)(hg:PG X tg g)(hb:PSs X body tb)(hs:∀x,foldedSetIterable iter X.env x=pure x:=by intro _;rfl):PS X (.For tg iter body [] pos) (tFor wi g tb):=by
 intro pins s σ H D I h;refine wpAny_For (thn (hi pins s σ H _ I h) fun v s1 h1=>thn h1 fun itv s2 h2=>?_) hs;obtain⟨it,fp,tn,J,H2,e,I2,T,st2,f2,W,⟨m0,w0⟩,turn⟩:=h2;subst e;have stat:∀{H':Hp},(∀b∈fp,H' b=none)->∀b∈fp,FpOk X pins H' b:=fun hn b hb=>⟨hn b hb,(f2 b hb).2⟩;refine codeAny_forLoop_any (fun n s'=>∃i σ' H',Inv X pins σ' H' s'/\tn i s'.heap/\(∀b∈fp,H' b=none)/\W i n σ' H') ?_ m0 ⟨0,σ,H2,I2,st2,fun b hb=>(f2 b hb).1,w0⟩;rintro n s3 ⟨i,σ3,H3,I3,st3,fr3,w3⟩;rcases turn i n σ3 H3 w3 with⟨stop,qn⟩|⟨go,N,hN,step⟩
 ·refine WM hp (thn (T.done X rfl rfl rfl hc i pins s3 σ3 H3 X.xe I3 (stat fr3) st3 stop) fun r s4 ⟨hr,I4⟩=>?_);subst hr;exact QO ⟨σ3,H3,I4,qn⟩
 ·refine WM hp (thn (T.item X rfl rfl rfl hc i pins s3 σ3 H3 X.xe I3 (stat fr3) st3 go) fun r s4 ⟨u,hr,h4⟩=>?_);subst hr;refine WM hp (thn h4 fun _ s5 ⟨x,H5,I5,r5,y5,st5,fr5⟩=>?_);have I5':=I5.pinned (stat fr5) (T.obj _ _ st5);refine WM hp (thn (hg _ s5 σ3 H5 x u _ I5' r5 (step x H5 y5)) fun _ s6 ⟨σ6,H6,I6,q6⟩=>?_);refine WM hp (thn (hb _ s6 σ6 H6 _ I6 q6) fun f s7 q7=>?_)
  have again:∀{σ7:St} {H7:Hp},Inv X (pins++TM fp s5.heap) σ7 H7 s7->N σ7 H7->∃m,m<n/\∃i σ' H',Inv X pins σ' H' s7/\tn i s7.heap/\(∀b∈fp,H' b=none)/\W i m σ' H':=fun {σ7 H7} I7 n7=>by
   obtain⟨m',hm,w7⟩:=hN σ7 H7 n7;refine⟨m',hm,i+1,σ7,H7,I7.unpinned,T.keep _ _ _ st5 fun b hb o e=>(I7.pin (b,o) (YF _ (YF _ (NF hb e)))).1,fun b hb=>?_,w7⟩;obtain⟨o,e,d⟩:=T.obj _ _ st5 b hb;exact(I7.pin (b,o) (YF _ (YF _ (NF hb e)))).2.1
  cases f with
  |next=>obtain⟨σ7,H7,I7,n7⟩:=q7;exact again I7 n7
  |cont=>obtain⟨σ7,H7,I7,n7⟩:=q7;exact again I7 n7
  |brk=>obtain⟨σ7,H7,I7,q7⟩:=q7;exact⟨σ7,H7,I7.unpinned,q7⟩
  |ret v=>obtain⟨x7,σ7,H7,I7,r7,q7⟩:=q7;exact⟨x7,σ7,H7,I7.unpinned,r7,q7⟩
end
abbrev R2:=V->V->Hp->VK->Prop
def OpR(X:Cx)(f:Value->Value->Sem Value)(r:R2):Prop:=
 ∀(pins:List (Addr×Obj)) (s:Shared) (σ:St) (H:Hp) (x y:V) (v u:Value) (Q:VK),Inv X pins σ H s->RelV x v->RelV y u->r x y H Q->
  wpAny (model X.prog X.w) X.A (f v u) (EP X pins σ Q) X.xe s
def UnR(X:Cx)(f:Value->Sem Value)(r:V->Hp->VK->Prop):Prop:=
 ∀(pins:List (Addr×Obj)) (s:Shared) (σ:St) (H:Hp) (x:V) (v:Value) (Q:VK),Inv X pins σ H s->RelV x v->r x H Q->
  wpAny (model X.prog X.w) X.A (f v) (EP X pins σ Q) X.xe s
def UJ(X:Cx)(f:Value)(r:List V->Hp->VK->Prop):Prop:=
 ∀(pins:List (Addr×Obj)) (s:Shared) (σ:St) (H:Hp) (xs:List V) (us:List Value) (Q:VK),Inv X pins σ H s->Vals xs us->r xs H Q->
  wpAny (model X.prog X.w) X.A (call f us) (EP X pins σ Q) X.xe s
def TruR(X:Cx)(r:V->Hp->(Bool->Hp->Prop)->Prop):Prop:=
 ∀(pins:List (Addr×Obj)) (s:Shared) (σ:St) (H:Hp) (x:V) (v:Value) (Q:Bool->Hp->Prop),Inv X pins σ H s->RelV x v->r x H Q->
  wpAny (model X.prog X.w) X.A (truthy v) (TP X pins σ Q) X.xe s
def tOp(r:R2)(ta tb:TE):TE:=fun σ H Q=>ta σ H fun x H1=>tb σ H1 fun y H2=>r x y H2 Q
def tUn(r:V->Hp->VK->Prop)(ta:TE):TE:=fun σ H Q=>ta σ H fun x H1=>r x H1 Q
def rI(C:Int->Int->Prop)(g:Int->Int->V):R2:=fun x y H Q=>∃i j,x=.int i/\y=.int j/\C i j/\Q (g i j) H
def rI0(g:Int->Int->V):R2:=fun x y H Q=>∃i j,x=.int i/\y=.int j/\Q (g i j) H
def rU(g:Int->V):V->Hp->VK->Prop:=fun x H Q=>∃i,x=.int i/\Q (g i) H
section
variable {X:Cx}{a b c:Expr}{ta tb tc:TE}{pos:Pos}
def binT(ha:PE X a ta)(hb:PE X b tb){pins:List (Addr×Obj)}{s:Shared}{σ:St}{H:Hp}{R:V->V->Hp->Prop}(I:Inv X pins σ H s)(h:ta σ H fun x H1=>tb σ H1 fun y H2=>R x y H2){Q:Value->Shared->Prop}{f:Value->Value->Sem Value}(hf:∀v u s2 x y H2,Inv X pins σ H2 s2->RelV x v->RelV y u->R x y H2->wpAny (model X.prog X.w) X.A (f v u) Q X.xe s2) :
  wpAny (model X.prog X.w) X.A (eval a X.env) (fun v s₁=>wpAny (model X.prog X.w) X.A (eval b X.env) (fun u s₂=>wpAny (model X.prog X.w) X.A (f v u) Q X.xe s₂) X.xe s₁) X.xe s:=by
 refine thn (ha pins s σ H _ I h) fun v s1 ⟨x,H1,I1,r1,q1⟩=>?_;refine thn (hb pins s1 σ H1 _ I1 q1) fun u s2 ⟨y,H2,I2,r2,q2⟩=>?_;exact hf v u s2 x y H2 I2 r1 r2 q2
def JB{op:Operator}{r:R2}(ho:OpR X (binaryOp op) r)(ha:PE X a ta)(hb:PE X b tb):PE X (.BinOp a op b pos) (tOp r ta tb):=by
 intro pins s σ H Q I h;exact wpAny_BinOp (binT ha hb I h fun v u s2 x y H2 I2 rx ry q=>ho pins s2 σ H2 x y v u Q I2 rx ry q)
def UX{op:UnaryOp}{r:V->Hp->VK->Prop}(ho:UnR X (unaryOp op) r)(ha:PE X a ta):PE X (.UnaryOp op a pos) (tUn r ta):=by
 intro pins s σ H Q I h;exact UnaryOp_ (thn (ha pins s σ H _ I h) fun v s1 ⟨x,H1,I1,r1,q1⟩=>ho pins s1 σ H1 x v Q I1 r1 q1)
def opI{f:Value->Value->Sem Value}{C:Int->Int->Prop}{g:Int->Int->Int}(rule:∀(i j:Int) (t u:Tok) (s:Shared) (Q:Value->Shared->Prop) (E:Value->Shared->Prop),C i j->Q (.int (g i j) s.toks) {s with toks:=s.toks+1}->wpAny (model X.prog X.w) X.A (f (.int i t) (.int j u)) Q E s) :
  OpR X f (rI C fun i j=>.int (g i j)):=by
 intro pins s σ H x y v u Q I rx ry h;obtain⟨i,j,rfl,rfl,hc,q⟩:=h;obtain⟨t,rfl⟩:=rx;obtain⟨t',rfl⟩:=ry;exact rule i j t t' s _ _ hc ⟨.int (g i j),H,I.tok _,⟨_,rfl⟩,q⟩
def opI0{f:Value->Value->Sem Value}{g:Int->Int->Int}(rule:∀(i j:Int) (t u:Tok) (s:Shared) (Q:Value->Shared->Prop) (E:Value->Shared->Prop),Q (.int (g i j) s.toks) {s with toks:=s.toks+1}->wpAny (model X.prog X.w) X.A (f (.int i t) (.int j u)) Q E s) :
  OpR X f (rI0 fun i j=>.int (g i j)):=by
 intro pins s σ H x y v u Q I rx ry h;obtain⟨i,j,rfl,rfl,q⟩:=h;obtain⟨t,rfl⟩:=rx;obtain⟨t',rfl⟩:=ry;exact rule i j t t' s _ _ ⟨.int (g i j),H,I.tok _,⟨_,rfl⟩,q⟩
def opB0{f:Value->Value->Sem Value}{g:Int->Int->Bool}(rule:∀(i j:Int) (t u:Tok) (s:Shared) (Q:Value->Shared->Prop) (E:Value->Shared->Prop),Q (.bool (g i j)) s->wpAny (model X.prog X.w) X.A (f (.int i t) (.int j u)) Q E s) :
  OpR X f (rI0 fun i j=>.bl (g i j)):=by
 intro pins s σ H x y v u Q I rx ry h;obtain⟨i,j,rfl,rfl,q⟩:=h;obtain⟨t,rfl⟩:=rx;obtain⟨t',rfl⟩:=ry;exact rule i j t t' s _ _ ⟨.bl (g i j),H,I,rfl,q⟩
def CDiv(i j:Int):Prop:=0<j/\j<1073741824
def CPow(i j:Int):Prop:=0<=j/\j<=1000000/\i.natAbs<2 ^ 64
def CMul(i j:Int):Prop:=(-(2 ^ 64)<i/\i<2 ^ 64)\/(-(2 ^ 64)<j/\j<2 ^ 64)
def CMul.ok {i j:Int} (h:CMul i j):IntMulOk i j:=by
 rcases h with⟨h1,h2⟩|⟨h1,h2⟩
 ·exact .of_left (intBits_le_64 h1 h2)
 ·exact .of_right (intBits_le_64 h1 h2)
def Ui:OpR X (binaryOp .Add) (rI0 fun i j=>.int (i+j)):=opI0 fun _ _ _ _ _ _ _ q=>add_int q
def US:OpR X (binaryOp .Sub) (rI0 fun i j=>.int (i-j)):=opI0 fun _ _ _ _ _ _ _ q=>sub_int q
def PH:OpR X (binaryOp .Mult) (rI CMul fun i j=>.int (i*j)):=opI fun _ _ _ _ _ _ _ hc q=>mul_int q hc.ok
def Uy:OpR X (binaryOp .FloorDiv) (rI CDiv fun i j=>.int (i / j)):=opI fun i j _ _ _ _ _ hc q=>by
 have h1:(0:Int)<j:=hc.1;have h2:j<1073741824:=hc.2;exact floordiv_int (by omega) (by rw[Int.fdiv_eq_ediv_of_nonneg i (by omega)];exact q) (.inl (PyProof.noPylong_small (by omega)))
def Ud:OpR X (binaryOp .Mod) (rI (fun _ j=>0<j) fun i j=>.int (i % j)):=opI fun i j _ _ _ _ _ hc q=>by
 have h1:(0:Int)<j:=hc;exact mod_int' (by omega) (by rw[Int.fmod_eq_emod_of_nonneg i (by omega)];exact q)
def Bl:OpR X (binaryOp .Pow) (rI CPow fun i j=>.int (i ^ j.toNat)):=opI fun _ _ _ _ _ _ _ hc q=>pow_int_small hc.1 hc.2.1 hc.2.2 q
def unI{f:Value->Sem Value}{g:Int->Int}(rule:∀(i:Int) (t:Tok) (s:Shared) (Q:Value->Shared->Prop) (E:Value->Shared->Prop),Q (.int (g i) s.toks) {s with toks:=s.toks+1}->wpAny (model X.prog X.w) X.A (f (.int i t)) Q E s) :
  UnR X f (rU fun i=>.int (g i)):=by
 intro pins s σ H x v Q I rx h;obtain⟨i,rfl,q⟩:=h;obtain⟨t,rfl⟩:=rx;exact rule i t s _ _ ⟨.int (g i),H,I.tok _,⟨_,rfl⟩,q⟩
def Xi:UnR X (unaryOp .USub) (rU fun i=>.int (-i)):=unI fun _ _ _ _ _ q=>neg_int q
end
def scal:V->V->Bool
 | .non,.non=>true | .non,.int _=>true | .int _,.non=>true | .non,.bl _=>true | .bl _,.non=>true | .non,.str _=>true | .str _,.non=>true
 | .int _,.int _=>true | .bl _,.bl _=>true | .str _,.str _=>true | .byt _,.byt _=>true
 | .int _,.str _=>true | .str _,.int _=>true | .bl _,.str _=>true | .str _,.bl _=>true
 |_,_=>false
def rEq:R2:=fun x y H Q=>scal x y=true/\Q (.bl (decide (x=y))) H
def rNe:R2:=fun x y H Q=>scal x y=true/\Q (.bl (!decide (x=y))) H
def Cr{i j:Int}:decide (V.int i=V.int j)=(i==j):=by
 rw[QR];simp
def DF{i j:Bool}:decide (V.bl i=V.bl j)=(i==j):=by
 rw[QR];simp
def E5{i j:Str}:decide (V.str i=V.str j)=(i==j):=by
 rw[QR];simp
def Gp{i j:Array UInt8}:decide (V.byt i=V.byt j)=(i.toList==j.toList):=by
 rw[QR];cases i
 cases j
 simp
section
variable {X:Cx}{a b c:Expr}{ta tb tc:TE}{pos:Pos}
def Ut{pins:List (Addr×Obj)}{σ:St}{H:Hp}{s:Shared}{Q:VK}{k k':Bool}(I:Inv X pins σ H s)(q:Q (.bl k) H)(e:k=k'):EP X pins σ Q (.bool k') s:=by
 subst e;exact⟨.bl k,H,I,rfl,q⟩
def op_eq:OpR X (compareOp .Eq) rEq:=by
 intro pins s σ H x y v u Q I rx ry h;obtain⟨hs,q⟩:=h;cases x with
 |non=>
  cases rx
  cases y with
  |non=>cases ry;exact PySem.EqNone.eq_none_none (Ut I q (by simp))
  |bl j=>cases ry;exact PySem.EqNone.eq_none_bool (Ut I q (by simp))
  |int j=>obtain⟨t',rfl⟩:=ry;exact PySem.EqNone.eq_none_int (Ut I q (by simp))
  |str j=>obtain⟨t',rfl⟩:=ry;exact PySem.EqNone.eq_none_str (Ut I q (by simp))
  |_=>exact absurd (show false=true from hs) Y7
 |bl i=>
  cases rx
  cases y with
  |non=>cases ry;exact PySem.EqNone.eq_bool_none (Ut I q (by simp))
  |bl j=>cases ry;exact eq_bool (Ut I q DF)
  |str j=>obtain⟨t',rfl⟩:=ry;exact PySem.EqMixed.eq_bool_str (Ut I q (by simp))
  |_=>exact absurd (show false=true from hs) Y7
 |int i=>
  obtain⟨t,rfl⟩:=rx;cases y with
  |non=>cases ry;exact PySem.EqNone.eq_int_none (Ut I q (by simp))
  |int j=>obtain⟨t',rfl⟩:=ry;exact eq_int (Ut I q Cr)
  |str j=>obtain⟨t',rfl⟩:=ry;exact PySem.EqMixed.eq_int_str (Ut I q (by simp))
  |_=>exact absurd (show false=true from hs) Y7
 |str i=>
  obtain⟨t,rfl⟩:=rx;cases y with
  |non=>cases ry;exact PySem.EqNone.eq_str_none (Ut I q (by simp))
  |bl j=>cases ry;exact PySem.EqMixed.eq_str_bool (Ut I q (by simp))
  |int j=>obtain⟨t',rfl⟩:=ry;exact PySem.EqMixed.eq_str_int (Ut I q (by simp))
  |str j=>obtain⟨t',rfl⟩:=ry;exact eq_str (Ut I q E5)
  |_=>exact absurd (show false=true from hs) Y7
 |byt i=>
  obtain⟨t,rfl⟩:=rx;cases y with
  |byt j=>obtain⟨t',rfl⟩:=ry;exact PySem.W.eq_bytes (Ut I q Gp)
  |_=>exact absurd (show false=true from hs) Y7
 |_=>cases y<;>exact absurd (show false=true from hs) Y7
def op_ne:OpR X (compareOp .NotEq) rNe:=by
 intro pins s σ H x y v u Q I rx ry h;obtain⟨hs,q⟩:=h;cases x with
 |non=>
  cases rx
  cases y with
  |non=>cases ry;exact PySem.EqNone.ne_none_none (Ut I q (by simp))
  |bl j=>cases ry;exact PySem.EqNone.ne_none_bool (Ut I q (by simp))
  |int j=>obtain⟨t',rfl⟩:=ry;exact PySem.EqNone.ne_none_int (Ut I q (by simp))
  |str j=>obtain⟨t',rfl⟩:=ry;exact PySem.EqNone.ne_none_str (Ut I q (by simp))
  |_=>exact absurd (show false=true from hs) Y7
 |bl i=>
  cases rx
  cases y with
  |non=>cases ry;exact PySem.EqNone.ne_bool_none (Ut I q (by simp))
  |bl j=>cases ry;exact ne_bool (Ut I q (YQ not DF))
  |str j=>obtain⟨t',rfl⟩:=ry;exact PySem.EqMixed.ne_bool_str (Ut I q (by simp))
  |_=>exact absurd (show false=true from hs) Y7
 |int i=>
  obtain⟨t,rfl⟩:=rx;cases y with
  |non=>cases ry;exact PySem.EqNone.ne_int_none (Ut I q (by simp))
  |int j=>obtain⟨t',rfl⟩:=ry;exact ne_int (Ut I q (YQ not Cr))
  |str j=>obtain⟨t',rfl⟩:=ry;exact PySem.EqMixed.ne_int_str (Ut I q (by simp))
  |_=>exact absurd (show false=true from hs) Y7
 |str i=>
  obtain⟨t,rfl⟩:=rx;cases y with
  |non=>cases ry;exact PySem.EqNone.ne_str_none (Ut I q (by simp))
  |bl j=>cases ry;exact PySem.EqMixed.ne_str_bool (Ut I q (by simp))
  |int j=>obtain⟨t',rfl⟩:=ry;exact PySem.EqMixed.ne_str_int (Ut I q (by simp))
  |str j=>obtain⟨t',rfl⟩:=ry;exact ne_str (Ut I q (YQ not E5))
  |_=>exact absurd (show false=true from hs) Y7
 |byt i=>
  obtain⟨t,rfl⟩:=rx;cases y with
  |byt j=>obtain⟨t',rfl⟩:=ry;exact PySem.W.ne_bytes (Ut I q (YQ not Gp))
  |_=>exact absurd (show false=true from hs) Y7
 |_=>cases y<;>exact absurd (show false=true from hs) Y7
def Xa:OpR X (compareOp .Lt) (rI0 fun i j=>.bl (decide (i<j))):=opB0 fun _ _ _ _ _ _ _ q=>lt_int q
def Xf:OpR X (compareOp .Gt) (rI0 fun i j=>.bl (decide (j<i))):=opB0 fun _ _ _ _ _ _ _ q=>gt_int q
def P6:OpR X (compareOp .GtE) (rI0 fun i j=>.bl (decide (j<=i))):=opB0 fun _ _ _ _ _ _ _ q=>ge_int q
def OpR.or {f:Value->Value->Sem Value}{r r':R2} (h:OpR X f r) (h':OpR X f r'):OpR X f (fun x y H Q=>r x y H Q\/r' x y H Q):=by
 intro pins s σ H x y v u Q I rx ry q;rcases q with q|q
 ·exact h pins s σ H x y v u Q I rx ry q
 ·exact h' pins s σ H x y v u Q I rx ry q
def Ua(b:Expr){op:CmpOp}(h:op≠.In:=by decide)(h2:op≠.NotIn:=by decide):behindInMarks op b=false:=by
 have e1:(op==CmpOp.In)=false:=by cases op<;>first|rfl|exact absurd rfl h
 have e2:(op==CmpOp.NotIn)=false:=by cases op<;>first|rfl|exact absurd rfl h2
 cases b<;>simp[behindInMarks,e1,e2]
def KB{op:CmpOp}{r:R2}(ho:OpR X (compareOp op) r)(ha:PE X a ta)(hb:PE X b tb)(hm:behindInMarks op b=false):PE X (.Compare a [op] [b] pos) (tOp r ta tb):=by
 intro pins s σ H Q I h;exact wpAny_Compare1 (binT ha hb I h fun v u s2 x y H2 I2 rx ry q=>ho pins s2 σ H2 x y v u Q I2 rx ry q) hm
def Sg(t:TE):TT:=fun σ H Q=>t σ H fun x H'=>∃k,x=.bl k/\Q k H'
def JT{op:CmpOp}{r:R2}(ho:OpR X (compareOp op) r)(ha:PE X a ta)(hb:PE X b tb)(hm:behindInMarks op b=false):PT X (.Compare a [op] [b] pos) (Sg (tOp r ta tb)):=by
 intro pins s σ H Q I h
 refine wpAny_isTrue_Compare1 (thn (ha pins s σ H _ I h) fun v s1 ⟨x,H1,I1,r1,q1⟩=>thn (hb pins s1 σ H1 _ I1 q1) fun u s2 ⟨y,H2,I2,r2,q2⟩=>
  thn (ho pins s2 σ H2 x y v u _ I2 r1 r2 q2) fun c s3 ⟨z,H3,I3,r3,k,e,q3⟩=>?_) hm
 subst e;cases r3
 exact WR ⟨H3,I3,q3⟩
def TruV(K:Za)(x:V)(H:Hp)(k:Bool):Prop:=
 match x with
 | .non=>k=false
 | .bl b=>k=b
 | .int i=>k=(i != 0)
 | .str y=>y.length<=sizeLine/\k=((y.length:Int) != 0)
 | .byt y=>y.size<=sizeLine/\k=((y.size:Int) != 0)
 | .ref p=>(∃xs,SqL K H p xs/\k=!xs.isEmpty)\/(∃xs,SqT K H p xs/\k=!xs.isEmpty)\/∃kvs,H p=some (.dK kvs)/\k=!kvs.isEmpty
 |_=>False
def Zcy{κ:Type}{kvs:List (κ×V)}{vs:List (κ×Value)}(r:KV kvs vs):(!vs.isEmpty)=!kvs.isEmpty:=by
 cases r<;>rfl
def Do{xs:List V}{its:List Value}(r:Vals xs its):(!its.toArray.isEmpty)=!xs.isEmpty:=by
 cases r<;>simp
def Nf:(sizeLine:Nat)<2 ^ 63:=by rw[QH];decide
def Zco:TruR X (fun x H Q=>∃k,TruV X.K x H k/\Q k H):=by
 intro pins s σ H x v Q I rx h;obtain⟨k,e,q⟩:=h;have hl:=Nf;have hs:sizeLine=16777216:=QH;cases x with
 |non=>
  cases rx
  have e':k=false:=e;subst e';exact truthy_none ⟨H,I,q⟩
 |bl b=>
  cases rx
  have e':k=b:=e;subst e';exact WR ⟨H,I,q⟩
 |int i=>
  obtain⟨t,rfl⟩:=rx;have e':k=(i != 0):=e;subst e';exact PySem.P.truthy_int ⟨H,I,q⟩
 |str y=>
  obtain⟨t,rfl⟩:=rx;obtain⟨hy,e'⟩:y.length<=sizeLine/\k=((y.length:Int) != 0):=e;subst e';exact PySem.P.truthy_str (by omega) ⟨H,I.tok _,q⟩
 |byt y=>
  obtain⟨t,rfl⟩:=rx;obtain⟨hy,e'⟩:y.size<=sizeLine/\k=((y.size:Int) != 0):=e;subst e';exact PySem.W.truthy_bytes (by omega) ⟨H,I.tok _,q⟩
 |ref p=>
  cases rx
  have e':(∃xs,SqL X.K H p xs/\k=!xs.isEmpty)\/(∃xs,SqT X.K H p xs/\k=!xs.isEmpty)\/∃kvs,H p=some (.dK kvs)/\k=!kvs.isEmpty:=e;rcases e' with⟨xs,hx,e'⟩|⟨xs,hx,e'⟩|⟨kvs,hx,e'⟩
  ·subst e';obtain⟨its,r,pl,hz⟩:=I.list hx;have hlen:=r.length;exact wpAny_truthy_list pl.isList (by simp only[Yz];omega) ⟨H,I.tok _,by rw[Do r];exact q⟩
  ·subst e';obtain⟨its,r,pl,hz⟩:=I.tuple hx;have hlen:=r.length;exact truthy_tuple pl (by simp only[Yz];omega) ⟨H,I.tok _,by rw[Do r];exact q⟩
  ·subst e';obtain⟨hz,hS,vs,r,m⟩:kvs.length<=sizeLine/\(p==sysModules)=false/\∃vs,KV kvs vs/\s.heap.DictOf (X5 X.prog X.w) p vs:=I.hok p _ hx;have hlen:kvs.length=vs.length:=Paired.length r;exact wpAny_truthy_dict hS m (by omega) ⟨H,I.tok _,by rw[Zcy r];exact q⟩
 |_=>exact(show False from e).elim
def LL(ha:PE X a ta)(he:∀whole,isTrue a X.env whole=(do let v ←whole;standAt a.pos;holding [v] (truthy v))) :
  PT X a (fun σ H Q=>ta σ H fun x H'=>∃k,TruV X.K x H' k/\Q k H'):=by
 intro pins s σ H Q I h;exact isTrue_plain (thn (ha pins s σ H _ I h) fun v s1 ⟨x,H1,I1,r1,q1⟩=>Zco pins s1 σ H1 x v Q I1 r1 q1) (he _)
def vals1{x:V}{us:List Value}(r:Vals [x] us):∃u,us=[u]/\RelV x u:=by
 cases r with
 |cons r1 r2=>cases r2;exact⟨_,rfl,r1⟩
def vals2{x y:V}{us:List Value}(r:Vals [x,y] us):∃u w',us=[u,w']/\RelV x u/\RelV y w':=by
 cases r with
 |cons r1 r2=>
  cases r2 with
  |cons r3 r4=>cases r4;exact⟨_,_,rfl,r1,r3⟩
def Gk(hc:X.calm=true):UJ X (.builtin "max") (fun xs H Q=>∃i j,xs=[.int i,.int j]/\Q (.int (if j>i then j else i)) H):=by
 intro pins s σ H xs us Q I r h;obtain⟨i,j,rfl,q⟩:=h;obtain⟨u,w',rfl,⟨t,rfl⟩,⟨t',rfl⟩⟩:=vals2 r;refine max_two_ints (I.ok.hd hc) fun h' tk k=>⟨_,H,I.kept k,?_,q⟩;by_cases hj:j>i
 ·rw[Yn hj,Yn hj];exact⟨_,rfl⟩
 ·rw[Yo hj,Yo hj];exact⟨_,rfl⟩
def IP:UJ X (.type "int") (fun xs H Q=>(∃i,xs=[.int i]/\Q (.int i) H)\/∃k,xs=[.bl k]/\Q (.int (if k then 1 else 0)) H):=by
 intro pins s σ H xs us Q I r h;rcases h with⟨i,rfl,q⟩|⟨k,rfl,q⟩
 ·obtain⟨u,rfl,t,rfl⟩:=vals1 r;exact call_int_int ⟨.int i,H,I,⟨_,rfl⟩,q⟩
 ·obtain⟨u,rfl,r1⟩:=vals1 r;cases r1
  exact call_int_bool ⟨.int (if k then 1 else 0),H,I.tok _,⟨_,rfl⟩,q⟩
def LenV(K:Za)(x:V)(H:Hp)(n:Nat):Prop:=
 match x with
 | .str y=>y.length<=sizeLine/\n=y.length
 | .byt y=>y.size<=sizeLine/\n=y.size
 | .ref p=>(∃xs,SqL K H p xs/\n=xs.length)\/∃xs,SqT K H p xs/\n=xs.length
 |_=>False
def Zbw:UJ X (.builtin "len") (fun xs H Q=>∃x n,xs=[x]/\LenV X.K x H n/\Q (.int n) H):=by
 intro pins s σ H xs us Q I r h;obtain⟨x,n,rfl,e,q⟩:=h;obtain⟨u,rfl,rx⟩:=vals1 r;have hl:=Nf;have hs:sizeLine=16777216:=QH;cases x with
 |str y=>
  obtain⟨t,rfl⟩:=rx;obtain⟨hy,e'⟩:y.length<=sizeLine/\n=y.length:=e;subst e';exact len_str (by omega) ⟨.int _,H,I.tok _,⟨_,rfl⟩,q⟩
 |byt y=>
  obtain⟨t,rfl⟩:=rx;obtain⟨hy,e'⟩:y.size<=sizeLine/\n=y.size:=e;subst e';exact PySem.W.len_bytes (by omega) ⟨.int _,H,I.tok _,⟨_,rfl⟩,q⟩
 |ref p=>
  cases rx
  have e':(∃xs,SqL X.K H p xs/\n=xs.length)\/∃xs,SqT X.K H p xs/\n=xs.length:=e;rcases e' with⟨xs,hx,e'⟩|⟨xs,hx,e'⟩
  ·subst e';obtain⟨its,r',pl,hz⟩:=I.list hx;have hlen:=r'.length;exact Calls.call_len_list pl.isList (by simp only[Yz];omega) ⟨.int xs.length,H,I.tok _,⟨_,by simp only[Yz];rw[hlen]⟩,q⟩
  ·subst e';obtain⟨its,r',pl,hz⟩:=I.tuple hx;have hlen:=r'.length;exact len_tuple pl (by simp only[Yz];omega) ⟨.int xs.length,H,I.tok _,⟨_,by simp only[Yz];rw[hlen]⟩,q⟩
 |_=>exact(show False from e).elim
end
structure ObjM (h:Heap) (x dx C:Addr) (mA:Str->Option Value):Prop where
 obj:h.get? x=some (PySem.W.instObj C dx)
 ns:h.Ns1 dx mA
 ne:dx≠x
def AZ{h:Heap}{dx:Addr}{mA:Str->Option Value}(n:h.Ns1 dx mA):∃od,h.get? dx=some od/\∀name,PySem.W.lookIn name od=some (mA name):=by
 obtain⟨o,es,ep,ho,hd,hk,_,hm⟩:=n;refine⟨o,ho,fun name=>?_⟩;have e:=hm name;unfold nsFind findBy at e;rw[←Array.find?_toList]at e;unfold PySem.W.lookIn;rw[hd]
 dsimp only
 split
 ·rename_i y q;rw[q]at e;exact YQ some e
 ·rename_i q;rw[q]at e
  have a:es.toList.any (·.refKey)=false:=by
   rw[Vn];intro y hy;obtain⟨z,t,hkey⟩:=hk y (Array.mem_toList_iff.mp hy);simp[DictEntry.refKey,hkey]
  have a':¬es.toList.any (·.refKey)=true:=by rw[a];exact Y7
  rw[Yo a'];exact YQ some e
def ObjM.look {h:Heap}{x dx C:Addr}{mA:Str->Option Value} (I:ObjM h x dx C mA):∃od,PySem.W.InstAt h x (PySem.W.instObj C dx) C (some od)/\∀name,PySem.W.lookIn name od=some (mA name):=
 let ⟨od,ho,hl⟩:=AZ I.ns
 ⟨od,⟨I.obj,rfl,rfl,ho⟩,hl⟩
section
variable {prog:Program}{w:World}{A:Around}{E:Value->Shared->Prop}{s:Shared}{K:Za}{x dx C f:Addr}{mA:Str->Option Value}{name:Str}{v:Value}
def Zeq{expr:Bool}{Q:Value->Shared->Prop}(X:K.In s.heap)(I:ObjM s.heap x dx C mA)(hg:PySem.W.plainGet K C name=true)(hh:PySem.W.hasDictIn K C=true)(ha:PySem.W.findIn K (.ref C) name=some none)(hv:mA name=some v)(hv':PySem.W.handedIn v=true)(h:Q v {s with toks:=s.toks+1}) :
  wpAny (model prog w) A (getAttr (.ref x) name expr) Q E s:=by
 obtain⟨od,J,hl⟩:=I.look;exact PySem.W.get_value X J (QZ hg).1 (PySem.W.findObj_own hh ha rfl (by rw[hl,hv])) hv' h
def Zcz{pl:Sem Bool}{Q:Value×List Value->Shared->Prop}(X:K.In s.heap)(I:ObjM s.heap x dx C mA)(hg:PySem.W.plainGet K C name=true)(hf:PySem.W.findIn K (.ref C) name=some (some (.ref f)))(ht:PySem.W.isFn K (.ref f)=true)(hv:mA name=none)(h:Q (.ref f,[.ref x]) s) :
  wpAny (model prog w) A (getMethod (.ref x) name pl) Q E s:=by
 obtain⟨od,J,hl⟩:=I.look;exact PySem.W.method_fn X J (QZ hg).1 (QZ hg).2 hf (beq_iff_eq.mp ht) (by show(PySem.W.lookIn name od).map (·.isSome)=some false;rw[hl,hv];rfl) h
def Od{ns:List Str}{Q:Unit->Shared->Prop}(X:K.In s.heap)(I:ObjM s.heap x dx C mA)(hs:PySem.W.findIn K (.ref C) "__setattr__"=some (some (.builtin "object.__setattr__")))(hp:PySem.W.plainOver K C=true)(ht:PySem.W.takerIn K C name=some none)(hh:PySem.W.hasDictIn K C=true)(hw:PySem.Within mA ns)(hsz:ns.length<=sizeLine)(h:∀h',ObjM h' x dx C (fun y=>if y=name then some v else mA y)->Heap.SameBut dx s.heap h'->Q () {s with heap:=h',toks:=s.toks+2}) :
  wpAny (model prog w) A (setAttr (.ref x) name v) Q E s:=by
 obtain⟨od,J,hl⟩:=I.look;refine PySem.W.set_plain X J hs (PySem.W.osa_open (s:={s with toks:=s.toks+1}) (r:=none) X J hp ht fun b=>?_)
 obtain⟨cd,hc,hd'⟩:=QL hh;have hx:s.heap.get? x=some ⟨.ref C,some dx,.plain,#[]⟩:=I.obj;refine Yk (Ys (Yk (Yk (wpAny_loadPart hx (Yk (Vg (s:={s with toks:=s.toks+1}) (Va X hc) ?_))))))
 rw[hd'];refine Ys (a:=some dx) (Yk (Ys (Yk ?_)));refine wpAny_nsSet1 (s:={s with toks:=s.toks+1}) I.ns fun h' hn2 hs2=>?_
 obtain⟨oD,esD,epD,hoD,hdD,hcD⟩:=hn2.count (PySem.Within.cons name v hw);refine Yk (wpAny_lookBehind hoD (by rw[hdD];exact pastItsLine_dict (Yy hcD (by rw[Y6];omega))) ?_);exact Ys (h _ ⟨(hs2.2 _ (Ne.symm I.ne)).trans I.obj,hn2,I.ne⟩ hs2)
def O7{R:Result->Shared->Prop}{vs:List Value}{kw:List (Str×Value)}(X:K.In s.heap)(hm:PySem.W.makesIn K C=true)(hi:PySem.W.findIn K (.ref C) "__init__"=some (some (.ref f)))(hf:PySem.W.typeIn K (.ref f)=some (.type "function"))
  (h:codeAny (model prog w) (A.under (.builtin "type.__call__" ⟨.ref C::vs,kw⟩)) (.call (.ref f) ⟨.ref (s.heap.objs.size+1)::vs,kw⟩) (PySem.W.InitBack (s.heap.objs.size+1) R)
   {s with heap:=(s.heap.push PySem.W.emptyDict).push (PySem.W.instObj C s.heap.objs.size)}) :
  codeAny (model prog w) A (.call (.ref C) ⟨vs,kw⟩) R s:=by
 obtain⟨hh,g,d,t,os⟩:=s;exact PySem.W.make_core (PySem.W.makes_of X hm) (WV X hi) (fun self=>PySem.W.bind_fn X self hf) (.inl rfl) h
end
def putF(f:Str)(v:V):List (Str×V)->List (Str×V)
 |[]=>[(f,v)]
 |(g,x)::r=>if g=f then(g,v)::r else(g,x)::putF f v r
def Dq(f g:Str)(v:V):∀fs:List (Str×V),(putF f v fs).lookup g=if g=f then some v else fs.lookup g
 |[]=>by
  show List.lookup g [(f,v)]=_;by_cases h:g=f
  ·have hb:(g==f)=true:=beq_iff_eq.mpr h;simp only[List.lookup,hb,Yn h]
  ·have hb:(g==f)=false:=Wt.mpr h;simp only[List.lookup,hb,Yo h]
 |(k,x)::r=>by
  have ih:=Dq f g v r;rw[show putF f v ((k,x)::r)=(if k=f then(k,v)::r else(k,x)::putF f v r)from rfl]
  by_cases hk:k=f
  ·rw[Yn hk];by_cases h:g=k
   ·have hb:(g==k)=true:=beq_iff_eq.mpr h;simp only[List.lookup,hb,Yn (h.trans hk)]
   ·have hb:(g==k)=false:=Wt.mpr h;simp only[List.lookup,hb,Yo (fun e:g=f=>h (e.trans hk.symm))]
  ·rw[Yo hk];by_cases h:g=k
   ·have hb:(g==k)=true:=beq_iff_eq.mpr h;simp only[List.lookup,hb,Yo (fun e:g=f=>hk (h.symm.trans e))]
   ·have hb:(g==k)=false:=Wt.mpr h;simp only[List.lookup,hb];exact ih
def Br(f:Str)(v:V):∀fs:List (Str×V),f∈(putF f v fs).map (·.1)/\∀g,g∈fs.map (·.1)->g∈(putF f v fs).map (·.1)
 |[]=>⟨by simp[putF],fun g h=>by simp at h⟩
 |(k,x)::r=>by
  obtain⟨i1,i2⟩:=Br f v r;rw[show putF f v ((k,x)::r)=(if k=f then(k,v)::r else(k,x)::putF f v r)from rfl]
  by_cases hk:k=f
  ·rw[Yn hk];subst hk;exact⟨by simp,fun g h=>by simpa using h⟩
  ·rw[Yo hk];refine⟨?_,fun g h=>?_⟩
   ·rw[YH];exact YB _ i1
   ·rw[YH]at h ⊢;rcases Yx.mp h with e|e
    ·exact Yx.mpr (.inl e)
    ·exact YB _ (i2 g e)
def GT(f:Str)(v:V):∀fs:List (Str×V),(putF f v fs).length<=fs.length+1
 |[]=>by simp[putF]
 |(k,x)::r=>by
  have ih:=GT f v r;rw[show putF f v ((k,x)::r)=(if k=f then(k,v)::r else(k,x)::putF f v r)from rfl]
  by_cases hk:k=f
  ·rw[Yn hk,Y6,Y6];omega
  ·rw[Yo hk,Y6,Y6];omega
def RelO.some_of {v:V}{o:Option Value} (r:RelO (some v) o):∃u,o=some u/\RelV v u:=by
 cases o with
 |none=>exact(show False from r).elim
 |some u=>exact⟨u,rfl,r⟩
def RelO.none_of {o:Option Value} (r:RelO none o):o=none:=by
 cases o with
 |none=>rfl
 |some u=>exact(show False from r).elim
def Ca{v:V}{u:Value}(r:RelV v u):PySem.W.handedIn u=true:=by
 cases v with
 |non=>cases (show u=Value.none from r);rfl
 |bl b=>cases (show u=Value.bool b from r);rfl
 |int i=>obtain⟨t,e⟩:=(show ∃t,u=Value.int i t from r);cases e;rfl
 |str x=>obtain⟨t,e⟩:=(show ∃t,u=Value.str x t from r);cases e;rfl
 |byt b=>obtain⟨t,e⟩:=(show ∃t,u=Value.bytes b t from r);cases e;rfl
 |flt b=>obtain⟨t,e⟩:=(show ∃t,u=Value.float b t from r);cases e;rfl
 |ref a=>cases (show u=Value.ref a from r);rfl
 |ty n=>cases (show u=Value.type n from r);rfl
section
variable {P:Program}{w:World}{H H':Hp}{h h':Heap}{a C dx:Addr}{fs fs':List (Str×V)}
def Nx(hok:HOk P w H h)(e:H a=some (.ins C dx fs)):∃mA,ObjM h a dx C mA/\(∀f,RelO (fs.lookup f) (mA f))/\PySem.Within mA (fs.map (·.1))/\fs.length<=1000/\H dx=some (.own a):=by
 obtain⟨d,z,ne,ob,mA,n,r,q⟩:=(show ObjOk P w H h a (.ins C dx fs)from hok a _ e)
 exact⟨mA,⟨ob,n,ne⟩,r,q,z,d⟩
end
structure Cls (K:Za) (C:Addr):Prop where
 pg:PySem.W.plainGet K C Str.empty=true
 hd:PySem.W.hasDictIn K C=true
 po:PySem.W.plainOver K C=true
 sa:PySem.W.findIn K (.ref C) "__setattr__"=some (some (.builtin "object.__setattr__"))
def Cls.get {K:Za}{C:Addr} (c:Cls K C) (f:Str):PySem.W.plainGet K C f=true:=c.pg
def NoAttr(K:Za)(C:Addr)(f:Str):Prop:=PySem.W.findIn K (.ref C) f=some none
def NoAttr.taker {K:Za}{C:Addr}{f:Str} (n:NoAttr K C f):PySem.W.takerIn K C f=some none:=by
 unfold PySem.W.takerIn;rw[show PySem.W.findIn K (.ref C) f=some none from n]
 rfl
structure Meth (K:Za) (C:Addr) (m:Str) (f:Addr):Prop where
 at_:PySem.W.findIn K (.ref C) m=some (some (.ref f))
 fn:PySem.W.isFn K (.ref f)=true
 kp:PySem.W.keepIn K (.ref f)=true
section
variable {X:Cx}{pins:List (Addr×Obj)}{σ:St}{H:Hp}{s:Shared}{a C dx:Addr}{fs:List (Str×V)}{f:Str}{v:V}{A:Around}{E:Value->Shared->Prop}
def Zdo{b:Bool}{Q:Value->Shared->Prop}(I:Inv X pins σ H s)(e:H a=some (.ins C dx fs))(c:Cls X.K C)(n:NoAttr X.K C f)(l:fs.lookup f=some v)(h:∀u s',Inv X pins σ H s'->RelV v u->Q u s'):wpAny (model X.prog X.w) A (getAttr (.ref a) f b) Q E s:=by
 obtain⟨mA,O,r,_,_,_⟩:=Nx I.hok e;obtain⟨u,hu,ru⟩:=RelO.some_of (v:=v) (o:=mA f) (by rw[←l];exact r f);exact Zeq I.kIn O (c.get f) c.hd n hu (Ca ru) (h u _ (I.tok _) ru)
def Sf{m:Str}{g:Addr}{pl:Sem Bool}{Q:Value×List Value->Shared->Prop}(I:Inv X pins σ H s)(e:H a=some (.ins C dx fs))(c:Cls X.K C)(k:Meth X.K C m g)(l:fs.lookup m=none)(h:Q (.ref g,[.ref a]) s):wpAny (model X.prog X.w) A (getMethod (.ref a) m pl) Q E s:=by
 obtain⟨mA,O,r,_,_,_⟩:=Nx I.hok e;have hn:mA m=none:=RelO.none_of (by rw[←l];exact r m);exact Zcz I.kIn O (c.get m) k.at_ k.fn hn h
def RD{y:V}{u:Value}{Q:Unit->Shared->Prop}(I:Inv X pins σ H s)(e:H a=some (.ins C dx fs))(c:Cls X.K C)(n:NoAttr X.K C f)(hl:fs.length<1000)(ry:RelV y u)(h:∀s',Inv X pins σ (upd H a (.ins C dx (putF f y fs))) s'->Q () s'):wpAny (model X.prog X.w) A (setAttr (.ref a) f u) Q E s:=by
 obtain⟨mA,O,r,wi,_,ho⟩:=Nx I.hok e;have hz:(fs.map (·.1)).length<=sizeLine:=by rw[Yi,QH];omega
 refine Od I.kIn O c.sa c.po n.taker c.hd wi hz fun h' O' sb=>h _ ?_;have hd:∃o,h'.get? dx=some o:=let ⟨o,_,_,e',_⟩:=O'.ns;⟨o,e'⟩;refine I.write (x:=a) (e:=dx) (by rw[e];exact True.intro) (.inr ho) (fun b q hb z=>(sb.2 b hb).trans z) hd ?_;refine⟨by rw[JI O.ne];exact ho,?_,O.ne,O'.obj,_,O'.ns,fun g=>?_,fun g hg=>?_⟩
 ·have:=GT f y fs;omega
 ·show RelO ((putF f y fs).lookup g) (if g=f then some u else mA g);rw[Dq];by_cases q:g=f
  ·rw[Yn q,Yn q];exact ry
  ·rw[Yo q,Yo q];exact r g
 ·by_cases q:g=f
  ·rw[q];exact(Br f y fs).1
  ·refine(Br f y fs).2 g (wi g fun z=>hg ?_);show(if g=f then some u else mA g)=none;rw[Yo q];exact z
def Inv.made (I:Inv X pins σ H s):Inv X pins σ (upd (upd H s.heap.objs.size (.own (s.heap.objs.size+1))) (s.heap.objs.size+1) (.ins C s.heap.objs.size []))
  {s with heap:=(s.heap.push PySem.W.emptyDict).push (PySem.W.instObj C s.heap.objs.size)}:=by
 have e1:(s.heap.push PySem.W.emptyDict).get? s.heap.objs.size=some PySem.W.emptyDict:=Y3 s.heap rfl
 have e2:((s.heap.push PySem.W.emptyDict).push (PySem.W.instObj C s.heap.objs.size)).get? (s.heap.objs.size+1)=some (PySem.W.instObj C s.heap.objs.size):=by
  have:=Y3 (s.heap.push PySem.W.emptyDict) (o:=PySem.W.instObj C s.heap.objs.size) rfl
  rwa[WE]at this
 have e3:(s.heap.push PySem.W.emptyDict).Ns s.heap.objs.size (fun _=>none):=⟨PySem.W.emptyDict,#[],_,e1,rfl,(fun e he=>absurd he (by simp)),fun _=>rfl⟩;have I1:=I.laid (a:=s.heap.objs.size) (o:=.own (s.heap.objs.size+1)) (h':=s.heap.push PySem.W.emptyDict) (t':=s.toks) (fun b u q=>Yq _ q) (Yr _) ⟨_,e1⟩;refine I1.laid (a:=s.heap.objs.size+1) (o:=.ins C s.heap.objs.size []) (t':=s.toks) (fun b u q=>Yq _ q) (W8 (WE _ _)) ?_;have ne:s.heap.objs.size≠s.heap.objs.size+1:=YA (Qb _);refine⟨by rw[JI ne,Ug],Wr _,ne,e2,fun _=>none,(Heap.Ns1.of_empty e3).at fun o q=>Yq _ q,fun _=>True.intro,fun y hy=>absurd rfl hy⟩
def GQ{prog:Program}{w:World}{env:Env}{e:Expr}{f:Str}{pos:Pos}{s:Shared}{Q:Value->Shared->Prop}(hb:attributeBase e f env (eval e env)=eval e env)(h:wpAny (model prog w) A (eval e env) (fun o s₁=>wpAny (model prog w) A (getAttr o f true) Q E s₁) E s):wpAny (model prog w) A (eval (.Attribute e f pos) env) Q E s:=
 Attribute_any_ h (by rw[arm_eval_Attribute,hb])
end
def tFld(K:Za)(ta:TE)(f:Str):TE:=fun σ H Q=>ta σ H fun x H1=>∃a C dx fs v,x=.ref a/\H1 a=some (.ins C dx fs)/\Cls K C/\NoAttr K C f/\fs.lookup f=some v/\Q v H1
def sFld(K:Za)(ta tv:TE)(f:Str):TS:=fun D σ H=>tv σ H fun y H1=>ta σ H1 fun x H2=>∃a C dx fs,x=.ref a/\H2 a=some (.ins C dx fs)/\Cls K C/\NoAttr K C f/\fs.length<1000/\
 D.nx σ (upd H2 a (.ins C dx (putF f y fs)))
section
variable {X:Cx}{o e value:Expr}{f:Str}{pos pos' tpos:Pos}{ta tv:TE}
def XY(he:PE X e ta)(hb:attributeBase e f X.env (eval e X.env)=eval e X.env):PE X (.Attribute e f pos) (tFld X.K ta f):=by
 intro pins s σ H Q I h;refine GQ hb (thn (he pins s σ H _ I h) fun u s1 ⟨x,H1,I1,rx,a,C,dx,fs,v,ex,ea,c,n,l,q⟩=>?_);subst ex;obtain rfl:u=Value.ref a:=rx;exact Zdo I1 ea c n l fun u' s2 I2 ru=>⟨v,H1,I2,ru,q⟩
def FA(ha:PE X o ta)(hv:PE X value tv)(hs:swapsWith value (some (.Attribute o f pos')) pos.line X.env=pure false):PS X (.Assign [.Attribute o f pos'] value pos) (sFld X.K ta tv f):=by
 intro pins s σ H D I h;refine plainObj_wpAny_Assign_Attribute (thn (hv pins s σ H _ I h) fun u s1 ⟨y,H1,I1,ry,q⟩=>thn (ha pins s1 σ H1 _ I1 q) fun ov s2 ⟨x,H2,I2,rx,a,C,dx,fs,ex,ea,c,n,l,q2⟩=>?_) hs;subst ex;obtain rfl:ov=Value.ref a:=rx;exact RD I2 ea c n l ry fun s3 I3=>⟨σ,_,I3,q2⟩
def Ze1{pl:Sem Bool}{m:Str}{apos:Pos}{args:List Expr}{pins:List (Addr×Obj)}{s:Shared}{σ:St}{H:Hp}{Q:Value->Shared->Prop}{te:TE}(he:PE X e te)(I:Inv X pins σ H s)
  (h:te σ H fun x H1=>∃a C dx fs g,x=.ref a/\H1 a=some (.ins C dx fs)/\Cls X.K C/\Meth X.K C m g/\fs.lookup m=none/\
   ∀s1,Inv X pins σ H1 s1->wpAny (model X.prog X.w) X.A (callWith pos (.ref g) [.ref a] (backTo pos (starEach args X.env)) (backToKw pos (keywordEach [] X.env))) Q X.xe s1)
  (ht:eval (.Call (.Attribute e m apos) args [] pos) X.env=(do
   let ov ←eval e X.env
   standAt apos.atName
   let (f,first) ←holding [ov] (getMethod ov m pl)
   callWith pos f first (backTo pos (starEach args X.env)) (backToKw pos (keywordEach [] X.env)))) :
  wpAny (model X.prog X.w) X.A (eval (.Call (.Attribute e m apos) args [] pos) X.env) Q X.xe s:=by
 refine Qm (pl:=pl) (thn (he pins s σ H _ I h) fun u s1 ⟨x,H1,I1,rx,a,C,dx,fs,g,ex,ea,c,k,l,q⟩=>?_) ht;subst ex;obtain rfl:u=Value.ref a:=rx;exact Sf I1 ea c k l (q s1 I1)
end
section
variable {X:Cx}{pins:List (Addr×Obj)}{σ:St}{H:Hp}{s:Shared}{A:Around}{E:Value->Shared->Prop}{Q:Value->Shared->Prop}{c:Value}{b:Bool}
inductive TyOf (K:Za) (H:Hp):V->Value->Prop where
 |non:TyOf K H .non (.type "NoneType")
 |bl (x:Bool):TyOf K H (.bl x) (.type "bool")
 |int (i:Int):TyOf K H (.int i) (.type "int")
 |str (x:Str):TyOf K H (.str x) (.type "str")
 |flt (x:UInt64):TyOf K H (.flt x) (.type "float")
 |lst {a:Addr} {xs:List V} (e:H a=some (.lst xs)):TyOf K H (.ref a) (.type "list")
 |frz {a:Addr} {o:Obj} {xs:List V} (e:H a=some (.frz o (.lst xs))):TyOf K H (.ref a) (.type "list")
 |tup {a:Addr} {xs:List V} (e:H a=some (.tup xs)):TyOf K H (.ref a) (.type "tuple")
 |dK {a:Addr} {kvs:List (Key×V)} (e:H a=some (.dK kvs)):TyOf K H (.ref a) (.type "dict")
 |dT {a:Addr} {kvs:List (List Key×V)} (e:H a=some (.dT kvs)):TyOf K H (.ref a) (.type "dict")
 |ins {a C dx:Addr} {fs:List (Str×V)} (e:H a=some (.ins C dx fs)) (cl:Cls K C) (ha:PySem.W.findIn K (.ref C) "__class__"=some (some (.builtin "object.__class__")))
   (hn:PySem.W.specialIn K (.builtin "object.__class__") "__get__"=some (some (.builtin "getset_descriptor.__get__"))) (htk:PySem.W.takesIn K (.builtin "object.__class__")=some true)
   (hm:PySem.W.mroIn K C (.type "object")=some true):TyOf K H (.ref a) (.ref C)
def Zdv{x:V}{u t:Value}(I:Inv X pins σ H s)(rx:RelV x u)(ty:TyOf X.K H x t)(e:PySem.W.kitOne X.K t c=some b)(h:∀tk,Q (.bool b) {s with toks:=tk}) :
  wpAny (model X.prog X.w) A (call (.builtin "isinstance") [u,c]) Q E s:=by
 cases ty with
 |non=>cases (show u=Value.none from rx);exact Wn PySem.W.kitx_none I.kIn True.intro e (fun z=>nomatch z) h
 |bl y=>cases (show u=Value.bool y from rx);exact Wn PySem.W.kitx_bool I.kIn True.intro e (fun z=>nomatch z) h
 |int i=>obtain⟨t,q⟩:=(show ∃t,u=Value.int i t from rx);cases q;exact Wn PySem.W.kitx_int I.kIn True.intro e (fun z=>nomatch z) h
 |str y=>obtain⟨t,q⟩:=(show ∃t,u=Value.str y t from rx);cases q;exact Wn PySem.W.kitx_str I.kIn True.intro e (fun z=>nomatch z) h
 |flt y=>obtain⟨t,q⟩:=(show ∃t,u=Value.float y t from rx);cases q;exact Wn PySem.W.kitx_float I.kIn True.intro e (fun z=>nomatch z) h
 | @lst a xs ea=>
  cases (show u=Value.ref a from rx)
  obtain⟨_,_,n,_,h1⟩:=(show ObjOk X.prog X.w H s.heap a (.lst xs)from I.hok a _ ea)
  exact Wn PySem.W.kitx_list I.kIn ⟨_,h1,rfl⟩ e (fun z=>nomatch z) h
 | @frz a ob xs ea=>
  cases (show u=Value.ref a from rx)
  obtain⟨_,_,_,n,_,h1⟩:=(show ObjOk X.prog X.w H s.heap a (.frz ob (.lst xs))from I.hok a _ ea)
  exact Wn PySem.W.kitx_list I.kIn ⟨_,h1,rfl⟩ e (fun z=>nomatch z) h
 | @tup a xs ea=>
  cases (show u=Value.ref a from rx)
  obtain⟨_,_,_,p⟩:=(show ObjOk X.prog X.w H s.heap a (.tup xs)from I.hok a _ ea)
  obtain⟨o,h1,h2,_⟩:=p;exact Wn PySem.W.kitx_tuple I.kIn ⟨o,h1,h2⟩ e (fun z=>nomatch z) h
 | @dK a kvs ea=>
  cases (show u=Value.ref a from rx)
  obtain⟨_,_,vs,_,p⟩:=(show ObjOk X.prog X.w H s.heap a (.dK kvs)from I.hok a _ ea)
  obtain⟨o,es,ep,h1,h2,_⟩:=p;exact Wn PySem.W.kitx_dict I.kIn ⟨o,h1,h2.1⟩ e (fun z=>nomatch z) h
 | @dT a kvs ea=>
  cases (show u=Value.ref a from rx)
  obtain⟨_,_,xs,_,o,es,ep,h1,h2,_⟩:=(show ObjOk X.prog X.w H s.heap a (.dT kvs)from I.hok a _ ea)
  exact Wn PySem.W.kitx_dict I.kIn ⟨o,h1,h2.1⟩ e (fun z=>nomatch z) h
 | @ins a C dx fs ea cl ha hn htk hm=>
  cases (show u=Value.ref a from rx)
  obtain⟨mA,O,_⟩:=Nx I.hok ea;obtain⟨od,J,_⟩:=O.look;exact Wn (PySem.W.kitx_own (cl.get _) cl.hd ha hn htk hm) I.kIn J e (fun z=>nomatch z) h
end
structure Room (k:Nat) (A:Around):Prop where
 hd:A.handled=none
 dp:A.depth+3*k+5<recursionLimit
 un:A.units+16*k+200<cLine
def Room.mono {j k:Nat}{A:Around} (r:Room k A) (h:j<=k):Room j A:=⟨r.hd,by have:=r.dp;omega,by have:=r.un;omega⟩
def Room.deeper {k:Nat}{A:Around} (r:Room (k+1) A) (env:Env):Room k (A.deeper env):=
 ⟨r.hd,by have:=r.dp;show A.depth+1+3*k+5<_;omega,by have:=r.un;show A.units+3+16*k+200<_;omega⟩
def Za2{A:Around}{C:Addr}{us:List Value}{kw:List (Str×Value)}:(A.under (.builtin "type.__call__" ⟨.ref C::us,kw⟩)).depth=A.depth+1:=by
 first|rfl|simp[Around.under,Code.weight,Code.isCreation,Code.isGuard,Code.isCaller,Code.frames,Code.isFrame,guardIds]
def Zeh{A:Around}{C:Addr}{us:List Value}{kw:List (Str×Value)}:(A.under (.builtin "type.__call__" ⟨.ref C::us,kw⟩)).units=A.units+1:=by
 first|rfl|simp[Around.under,Code.cUnits,Code.frames,Code.isFrame]
def Room.make {k:Nat}{A:Around} (r:Room (k+1) A) (C:Addr) (us:List Value) (kw:List (Str×Value)):Room k (A.under (.builtin "type.__call__" ⟨.ref C::us,kw⟩)):=
 ⟨r.hd,by have:=r.dp;rw[Za2];omega,by have:=r.un;rw[Zeh];omega⟩
def Room.depth {k:Nat}{A:Around} (r:Room k A):A.depth<recursionLimit:=by have:=r.dp;omega
def Room.units {k:Nat}{A:Around} (r:Room k A):A.units+64<cLine:=by have:=r.un;omega
def Room.units0 {k:Nat}{A:Around} (r:Room k A):A.units<cLine:=by have:=r.un;omega
def tNil:TA:=fun _ H Q=>Q [] H
def UH(ta:TE)(tr:TA):TA:=fun σ H Q=>ta σ H fun x H1=>tr σ H1 fun xs H2=>Q (x::xs) H2
section
variable {X:Cx}{e:Expr}{es:List Expr}{te:TE}{t:TA}{pos:Pos}
def Uh:PA X [] tNil:=fun _ _ _ _ H Q I h=>Calls.spliced_nil ⟨[],H,I,.nil,h⟩
def JQ(ha:PE X e te)(hr:PA X es t)(hs:starEach (e::es) X.env=(false,eval e X.env)::starEach es X.env:=by rfl):PA X (e::es) (UH te t):=by
 intro pos pins s σ H Q I h;rw[hs];show wpAny _ _ (spliced ((false,eval e X.env)::backTo pos (starEach es X.env))) _ _ s;refine Calls.spliced_cons (thn (ha pins s σ H _ I h) fun u s1 ⟨x,H1,I1,r1,q1⟩=>?_);exact thn (hr pos pins s1 σ H1 _ I1 q1) fun us s2 ⟨xs,H2,I2,r2,q2⟩=>⟨x::xs,H2,I2,.cons r1 r2,q2⟩
def tTup(t:TA):TE:=fun σ H Q=>t σ H fun xs H1=>xs.length<=sizeLine/\∀p,H1 p=none->Q (.ref p) (upd H1 p (.tup xs))
def tLst(t:TA):TE:=fun σ H Q=>t σ H fun xs H1=>xs.length<=sizeLine/\∀p,H1 p=none->Q (.ref p) (upd H1 p (.lst xs))
def Ub{x1}(h:PA X es t):PE X (.Tuple es x1 pos) (tTup t):=by
 intro pins s σ H Q I hq;refine wpAny_Tuple_spliced (thn (h pos pins s σ H _ I hq) fun us s1 ⟨xs,H1,I1,r,z,q⟩=>⟨by rw[←r.length];exact z,?_⟩);have hf:H1 s1.heap.objs.size=none:=I1.hok.fresh (Yr _);refine⟨.ref s1.heap.objs.size,upd H1 s1.heap.objs.size (.tup xs),I1.laid (t':=s1.toks) (fun b u e=>Yq _ e) (Yr _) ?_,rfl,q _ hf⟩;exact⟨z,us,r,⟨_,Y3 _ rfl,rfl,_,rfl⟩⟩
def JS(h:PA X es t):PE X (.List es pos) (tLst t):=by
 intro pins s σ H Q I hq;refine wpAny_List_spliced (thn (h pos pins s σ H _ I hq) fun us s1 ⟨xs,H1,I1,r,z,q⟩=>⟨by rw[←r.length];exact z,?_⟩);have hf:H1 s1.heap.objs.size=none:=I1.hok.fresh (Yr _);refine⟨.ref s1.heap.objs.size,upd H1 s1.heap.objs.size (.lst xs),I1.laid (t':=s1.toks) (fun b u e=>Yq _ e) (Yr _) ?_,rfl,q _ hf⟩;exact⟨z,us,0,r,Y3 _ rfl⟩
end
abbrev Sp:=List V->Hp->VK->XK->Prop
abbrev CXT:=List Env->Hp->Shared->XK->Value->Shared->Prop
structure Env0 (P:Program) (w:World) (K:Za) (mg:Str->Option Value) (base:Heap) (A:Around) (outer:List Env) (s:Shared) (H:Hp):Prop where
 frames:A.frames=some outer
 mod:Mod K mg base
 bs:∀b o,base.get? b=some o->s.heap.get? b=some o/\H b=none
 bsz:base.objs.size<=s.heap.objs.size
 funs:s.heap.FunFrames base outer
 frf:∀b∈frs outer,H b=none
 hok:HOk P w H s.heap
 bare:AllBare s.gens
def CE(outer:List Env)(P:Program)(w:World)(H:Hp)(s:Shared)(Q:VK)(u:Value)(s':Shared):Prop:=
 ∃v H',s'.os=s.os/\AllBare s'.gens/\Un (frs outer) [] H H' s.heap s'.heap/\HOk P w H' s'.heap/\RelV v u/\Q v H'
def CR(CX:CXT)(outer:List Env)(P:Program)(w:World)(H:Hp)(s:Shared)(Q:VK)(E:XK)(r:Result)(s':Shared):Prop:=
 match r with
 | .ok (.ret u)=>CE outer P w H s Q u s'
 | .ok _=>False
 | .error e=>CX outer H s E e s'
structure FnOk (P:Program) (w:World) (K:Za) (mg:Str->Option Value) (base:Heap) (CX:CXT) (k:Nat) (f:Addr) (fd:FuncData) (ps:List Str) (sp:Sp):Prop where
 len:∀vs H Q E,sp vs H Q E->vs.length=ps.length
 run:∀(A:Around) (outer:List Env) (s:Shared) (H:Hp) (args:Args) (us:List Value) (vs:List V) (Q:VK) (E:XK),Room k A->Env0 P w K mg base A outer s H->BindsTo s fd args (ps.zip us)->Vals vs us->sp vs H Q E->
  codeAny (model P w) A (.call (.ref f) args) (CR CX outer P w H s Q E) s
def FnOk.imp {P:Program}{w:World}{K:Za}{mg:Str->Option Value}{base:Heap}{CX:CXT}{k:Nat}{f:Addr}{fd:FuncData}{ps:List Str}{sp sp':Sp} (F:FnOk P w K mg base CX k f fd ps sp)
  (h:∀vs H Q E,sp' vs H Q E->sp vs H Q E):FnOk P w K mg base CX k f fd ps sp':=
 ⟨fun vs H Q E q=>F.len vs H Q E (h _ _ _ _ q),fun A outer s H args us vs Q E hr he hb hv hs=>F.run A outer s H args us vs Q E hr he hb hv (h _ _ _ _ hs)⟩
def Env0.make {P:Program}{w:World}{K:Za}{mg:Str->Option Value}{base:Heap}{A:Around}{outer:List Env}{s:Shared}{H:Hp} (e:Env0 P w K mg base A outer s H) (C:Addr) (us:List Value) (kw:List (Str×Value)) :
  Env0 P w K mg base (A.under (.builtin "type.__call__" ⟨.ref C::us,kw⟩)) outer s H:=⟨by first|exact e.frames|(simpa [Around.under,Code.envs,Code.isFrame,pushEnvs]using e.frames),e.mod,e.bs,e.bsz,e.funs,e.frf,e.hok,e.bare⟩
section
variable {X:Cx}{pins:List (Addr×Obj)}{σ:St}{H:Hp}{s s':Shared}
def Inv.env0 (I:Inv X pins σ H s):Env0 X.prog X.w X.K X.mg X.base X.A X.stack s H:=
 ⟨I.ok.frames,I.ok.mod,I.bs,Yy I.ok.bsz I.sz,I.stack,I.stkFree,I.hok,I.bare⟩
def Inv.after {Q:VK}{u:Value} (I:Inv X pins σ H s) (h:CE X.stack X.prog X.w H s Q u s'):EP X pins σ Q u s':=by
 obtain⟨v,H',os,bare,un,hok,r,q⟩:=h;obtain⟨hh,g,d,t,os'⟩:=s';obtain rfl:os'=s.os:=os;exact⟨v,H',I.call (h':=hh) (g':=g) (d':=d) (t':=t) (ch:=[]) un hok bare (fun b z=>absurd z (by simp)),r,q⟩
end
def KA(sp:Sp)(dvs:List V)(E:XK)(t:TA):TE:=fun σ H Q=>t σ H fun vs H1=>sp (vs++dvs) H1 Q E
def KL(C:Addr)(m:Str)(sp:Sp)(dvs:List V)(E:XK)(ta:TE)(t:TA):TE:=fun σ H Q=>ta σ H fun x H1=>∃a dx fs,x=.ref a/\H1 a=some (.ins C dx fs)/\fs.lookup m=none/\
 t σ H1 fun vs H2=>sp (x::(vs++dvs)) H2 Q E
def FL(C:Addr)(sp:Sp)(dvs:List V)(E:XK)(t:TA):TE:=fun σ H Q=>t σ H fun vs H1=>∀x dx,H1 x=none->H1 dx=none->dx≠x->
 sp (.ref x::(vs++dvs)) (upd (upd H1 dx (.own x)) x (.ins C dx [])) (fun v H2=>v=.non/\Q (.ref x) H2) E
def Binds(K:Za)(fd:FuncData)(ps:List Str)(ds:List Value):Prop:=
 ∀(s:Shared) (us:List Value),K.In s.heap->(us++ds).length=ps.length->BindsTo s fd ⟨us,[]⟩ (ps.zip (us++ds))
def Binds.all {K:Za}{fd:FuncData}{ps:List Str} (h:∀us:List Value,us.length=ps.length->bindArgs fd ⟨us,[]⟩=pure (ps.zip us)):Binds K fd ps []:=fun s us _ hl=>by
 rw[YW]at hl ⊢;exact .of_eq (h us hl)
def X8(CX:CXT)(X:Cx)(E:XK):Prop:=∀(pins:List (Addr×Obj)) (σ:St) (H:Hp) (s:Shared) (e:Value) (s':Shared),Inv X pins σ H s->CX X.stack H s E e s'->X.xe e s'
section
variable {X:Cx}{CX:CXT}{k:Nat}{f C:Addr}{fd:FuncData}{ps:List Str}{sp:Sp}{dvs:List V}{ds:List Value}{E:XK}{x m:Str}{p pos apos:Pos}{e o:Expr}{es:List Expr}{ta:TE}{t:TA}
def F3{pins:List (Addr×Obj)}{σ:St}{H:Hp}{s:Shared}{Q:VK}{us:List Value}{vs:List V}(F:FnOk X.prog X.w X.K X.mg X.base CX k f fd ps sp)(hr:Room k X.A)(hb:Binds X.K fd ps ds)(hd:Vals dvs ds)(hx:X8 CX X E)(I:Inv X pins σ H s)(r:Vals vs us)(h:sp (vs++dvs) H Q E):wpAny (model X.prog X.w) X.A (call (.ref f) us) (EP X pins σ Q) X.xe s:=by
 have r2:Vals (vs++dvs) (us++ds):=r.append hd;have hl:(us++ds).length=ps.length:=by rw[←r2.length];exact F.len _ _ _ _ h
 refine QS (WJ (F.run X.A X.stack s H ⟨us,[]⟩ (us++ds) (vs++dvs) Q E hr I.env0 (hb s us I.kIn hl) r2 h) fun r s' hq=>?_);cases r with
 |error e=>exact hx pins σ H s e s' I hq
 |ok fl=>
  cases fl with
  |ret u=>exact I.after hq
  |next=>exact False.elim hq
  |brk=>exact False.elim hq
  |cont=>exact False.elim hq
def Za7(F:FnOk X.prog X.w X.K X.mg X.base CX k f fd ps sp)(hr:Room k X.A)(hg:Gl X x)(hm:X.mg x=some (.ref f))(hk:PySem.W.keepIn X.K (.ref f)=true)(hb:Binds X.K fd ps ds)(hd:Vals dvs ds)(hx:X8 CX X E)(ha:PA X (e::es) t)(hdb:(x==("__debug__" : Str))=false:=by decide)(he:starEach (e::es) X.env=(false,eval e X.env)::starEach es X.env:=by rfl)(hpl:(backTo pos (starEach es X.env)).any (·.1)=false:=by rfl) :
  PE X (.Call (.Name x p) (e::es) [] pos) (KA sp dvs E t):=by
 intro pins s σ H Q I h;refine Q2 (PD I hg hm ?_ hdb);refine Vh (h₀:=X.base) I.ok.mod.kin hk (thn (ha pos pins s σ H _ I h) fun us s1 ⟨vs,H1,I1,r,q⟩=>⟨I1.kIn,?_⟩) he hpl;exact F3 F hr hb hd hx I1 r q
def L6{pl:Sem Bool}(he:PE X o ta)(c:Cls X.K C)(hm:Meth X.K C m f)(F:FnOk X.prog X.w X.K X.mg X.base CX k f fd ps sp)(hr:Room k X.A)(hb:Binds X.K fd ps ds)(hd:Vals dvs ds)(hx:X8 CX X E)(ha:PA X (e::es) t)(hst:starEach (e::es) X.env=(false,eval e X.env)::starEach es X.env:=by rfl)(hpl:(backTo pos (starEach es X.env)).any (·.1)=false:=by rfl)
  (ht:eval (.Call (.Attribute o m apos) (e::es) [] pos) X.env=(do
   let ov ←eval o X.env
   standAt apos.atName
   let (f,first) ←holding [ov] (getMethod ov m pl)
   callWith pos f first (backTo pos (starEach (e::es) X.env)) (backToKw pos (keywordEach [] X.env))):=by rfl) :
  PE X (.Call (.Attribute o m apos) (e::es) [] pos) (KL C m sp dvs E ta t):=by
 intro pins s σ H Q I h;refine Qm (pl:=pl) (thn (he pins s σ H _ I h) fun u s1 ⟨x,H1,I1,rx,a,dx,fs,ex,ea,l,q⟩=>?_) ht;subst ex;obtain rfl:u=Value.ref a:=rx;refine Sf I1 ea c hm l ?_;refine Vh (first:=[.ref a]) (h₀:=X.base) I.ok.mod.kin hm.kp (thn (ha pos pins s1 σ H1 _ I1 q) fun us s2 ⟨vs,H2,I2,r,q2⟩=>⟨I2.kIn,?_⟩) hst hpl
 exact F3 (us:=.ref a::us) (vs:=.ref a::vs) F hr hb hd hx I2 (.cons rfl r) q2
def II{pl:Sem Bool}(he:PE X o ta)(c:Cls X.K C)(hm:Meth X.K C m f)(F:FnOk X.prog X.w X.K X.mg X.base CX k f fd ps sp)(hr:Room k X.A)(hb:Binds X.K fd ps ds)(hd:Vals dvs ds)(hx:X8 CX X E)
  (ht:eval (.Call (.Attribute o m apos) [] [] pos) X.env=(do
   let ov ←eval o X.env
   standAt apos.atName
   let (f,first) ←holding [ov] (getMethod ov m pl)
   callWith pos f first (backTo pos (starEach [] X.env)) (backToKw pos (keywordEach [] X.env))):=by rfl) :
  PE X (.Call (.Attribute o m apos) [] [] pos) (KL C m sp dvs E ta tNil):=by
 intro pins s σ H Q I h;refine Qm (pl:=pl) (thn (he pins s σ H _ I h) fun u s1 ⟨x,H1,I1,rx,a,dx,fs,ex,ea,l,q⟩=>?_) ht;subst ex;obtain rfl:u=Value.ref a:=rx;refine Sf I1 ea c hm l ?_;exact PySem.W.callWith_K0 (first:=[.ref a]) I1.kIn hm.kp (F3 (us:=[.ref a]) (vs:=[.ref a]) F hr hb hd hx I1 (.cons rfl .nil) q)
structure Mk (K:Za) (C f:Addr):Prop where
 makes:PySem.W.makesIn K C=true
 init:PySem.W.findIn K (.ref C) "__init__"=some (some (.ref f))
 fn:PySem.W.isFn K (.ref f)=true
 kp:PySem.W.keepIn K (.ref C)=true
def IL{pins:List (Addr×Obj)}{σ:St}{H:Hp}{s:Shared}{Q:VK}{us:List Value}{vs:List V}(M:Mk X.K C f)(F:FnOk X.prog X.w X.K X.mg X.base CX k f fd ps sp)(hr:Room (k+1) X.A)(hb:Binds X.K fd ps ds)(hd:Vals dvs ds)(hx:X8 CX X E)(I:Inv X pins σ H s)(r:Vals vs us)(h:∀x dx,H x=none->H dx=none->dx≠x->sp (.ref x::(vs++dvs)) (upd (upd H dx (.own x)) x (.ins C dx [])) (fun v H2=>v=.non/\Q (.ref x) H2) E) :
  wpAny (model X.prog X.w) X.A (call (.ref C) us) (EP X pins σ Q) X.xe s:=by
 have hq:=h (s.heap.objs.size+1) s.heap.objs.size (I.hok.fresh (WH _)) (I.hok.fresh (Yr _)) (YA (Qb _));have I2:=Inv.made (C:=C) I;have r2:Vals (V.ref (s.heap.objs.size+1)::(vs++dvs)) (Value.ref (s.heap.objs.size+1)::(us++ds)):=.cons rfl (r.append hd)
 have hl:(Value.ref (s.heap.objs.size+1)::us++ds).length=ps.length:=by
  have e:=r2.length;rw[F.len _ _ _ _ hq]at e;exact e.symm
 refine QS (O7 (f:=f) I.kIn M.makes M.init (beq_iff_eq.mp M.fn) (WJ (F.run _ X.stack _ _ ⟨Value.ref (s.heap.objs.size+1)::us,[]⟩ (Value.ref (s.heap.objs.size+1)::(us++ds)) _ _ E (hr.make C us [])
  (I2.env0.make C us []) (hb _ (Value.ref (s.heap.objs.size+1)::us) I2.kIn hl) r2 hq) fun r s' hq'=>?_))
 cases r with
 |error e=>exact hx pins σ _ _ e s' I2 hq'
 |ok fl=>
  cases fl with
  |ret u=>
   obtain⟨v,H',I3,rv,ev,q3⟩:=I2.after hq';subst ev;exact⟨rv,⟨V.ref (s.heap.objs.size+1),H',I3,rfl,q3⟩⟩
  |next=>exact False.elim hq'
  |brk=>exact False.elim hq'
  |cont=>exact False.elim hq'
def Zaj(M:Mk X.K C f)(F:FnOk X.prog X.w X.K X.mg X.base CX k f fd ps sp)(hr:Room (k+1) X.A)(hg:Gl X x)(hm:X.mg x=some (.ref C))(hb:Binds X.K fd ps ds)(hd:Vals dvs ds)(hx:X8 CX X E)(ha:PA X (e::es) t)(hdb:(x==("__debug__" : Str))=false:=by decide)(he:starEach (e::es) X.env=(false,eval e X.env)::starEach es X.env:=by rfl)(hpl:(backTo pos (starEach es X.env)).any (·.1)=false:=by rfl) :
  PE X (.Call (.Name x p) (e::es) [] pos) (FL C sp dvs E t):=by
 intro pins s σ H Q I h;refine Q2 (PD I hg hm ?_ hdb);refine Vh (h₀:=X.base) I.ok.mod.kin M.kp (thn (ha pos pins s σ H _ I h) fun us s1 ⟨vs,H1,I1,r,q⟩=>⟨I1.kIn,?_⟩) he hpl;exact IL M F hr hb hd hx I1 r q
end
structure FnScope (N P:List Str) (sc:Scope):Prop where
 kind:sc.kind=.function
 co:sc.isCoroutine=false
 gen:sc.isGenerator=false
 nd:N.Nodup
 pre:N.take P.length=P
 par:∀x∈P,sc.names.lookup x=some .local\/sc.names.lookup x=some .cell
 nofree:∀y∈sc.names,y.2≠.free
def GU{kindOf:Str->Option NameKind}{x:Str}:∀{binds:List (Str×Value)}{m:Str->Option Value},(∀v,(x,v)∉binds)->bindL kindOf binds m x=m x
 |[],_,_=>rfl
 |(n,v)::r,m,h=>by
  unfold bindL;rw[GU fun w hw=>h w (YB _ hw)];split
  ·have:x≠n:=by rintro rfl;exact h v YL
   simp[this]
  ·rfl
def CU{kindOf:Str->Option NameKind}{x:Str}:∀{binds:List (Str×Value)}{m:Str->Option Value},(∀v,(x,v)∉binds)->bindC kindOf binds m x=m x
 |[],_,_=>rfl
 |(n,v)::r,m,h=>by
  unfold bindC;rw[CU fun w hw=>h w (YB _ hw)];split
  ·rfl
  ·have:x≠n:=by rintro rfl;exact h v YL
   simp[this]
def DC{kindOf:Str->Option NameKind}{x:Str}{v:Value}:∀{P:List Str}{vs:List Value}{i:Nat}{m:Str->Option Value},P.Nodup->P[i]?=some x->vs[i]?=some v->kindOf x=some .local->
  bindL kindOf (P.zip vs) m x=some v
 |[],_,_,_,_,h,_,_=>by simp at h
 |_::_,[],_,_,_,_,h,_=>by simp at h
 |p::P,w::vs,0,m,nd,h1,h2,hk=>by
  simp at h1 h2;subst h1;subst h2;show bindL kindOf ((p,w)::P.zip vs) m p=_;unfold bindL;rw[GU fun v hv=>(Wa.mp nd).1 (List.of_mem_zip hv).1,Yn hk];simp
 |p::P,w::vs,i+1,m,nd,h1,h2,hk=>by
  show bindL kindOf ((p,w)::P.zip vs) m x=_;unfold bindL;exact DC (i:=i) (Wa.mp nd).2 (by simpa using h1) (by simpa using h2) hk
def Df{kindOf:Str->Option NameKind}{x:Str}{v:Value}:∀{P:List Str}{vs:List Value}{i:Nat}{m:Str->Option Value},P.Nodup->P[i]?=some x->vs[i]?=some v->kindOf x≠some .local->
  bindC kindOf (P.zip vs) m x=some v
 |[],_,_,_,_,h,_,_=>by simp at h
 |_::_,[],_,_,_,_,h,_=>by simp at h
 |p::P,w::vs,0,m,nd,h1,h2,hk=>by
  simp at h1 h2;subst h1;subst h2;show bindC kindOf ((p,w)::P.zip vs) m p=_;unfold bindC;rw[CU fun v hv=>(Wa.mp nd).1 (List.of_mem_zip hv).1,Yo hk];simp
 |p::P,w::vs,i+1,m,nd,h1,h2,hk=>by
  show bindC kindOf ((p,w)::P.zip vs) m x=_;unfold bindC;exact Df (i:=i) (Wa.mp nd).2 (by simpa using h1) (by simpa using h2) hk
def start(N:List Str)(vs:List V):St:=vs.map some++List.replicate (N.length-vs.length) none
def cxOf(CX:CXT)(P:Program)(w:World)(K:Za)(mg:Str->Option Value)(base:Heap)(N:List Str)(qual:Str)(scope:Scope)(f:Addr)(cd:Value)(A:Around)(outer:List Env)(s:Shared)(H:Hp)(E:XK):Cx where
 prog:=P
 w:=w
 K:=K
 mg:=mg
 base:=base
 A:=A.deeper (envOfC qual scope s.heap.objs.size f cd)
 N:=N
 s₀:=s
 H₀:=H
 env:=envOfC qual scope s.heap.objs.size f cd
 outer:=outer
 stack:=envOfC qual scope s.heap.objs.size f cd::outer
 ex:=[]
 calm:=true
 fn:=fun _=>true
 pn:=[]
 xe:=fun e s'=>wpAny (model P w) (A.deeper (envOfC qual scope s.heap.objs.size f cd)) (leaving (envOfC qual scope s.heap.objs.size f cd) e) (fun _ s''=>CX outer H s E e s'') (fun e' s''=>CX outer H s E e' s'') s'
def Ce{sc:Scope}{n:Nat}{x:Str}(h:sc.names.lookup x=some .cell):∃c,(cellsFrom n sc.names []).lookup x=some c:=by
 have q:=PySem.W.cellsFrom_some sc.names n [] (.inl h);exact Option.isSome_iff_exists.mp q
def RY{CX:CXT}{P:Program}{w:World}{K:Za}{mg:Str->Option Value}{base:Heap}{N ps:List Str}{qual:Str}{scope:Scope}{f:Addr}{cd:Value}{A:Around}{outer:List Env}{s s1:Shared}{H:Hp}{E:XK}{us:List Value}{vs:List V}(S:FnScope N ps scope)(hd:A.handled=none)(e0:Env0 P w K mg base A outer s H)(hl:vs.length=ps.length)(r:Vals vs us)(x:InCallC s s.heap.objs.size (bindL (envOfC qual scope s.heap.objs.size f cd).kindOf (ps.zip us) fun _=>none) (cellsFrom (s.heap.objs.size+1) scope.names []) (bindC (envOfC qual scope s.heap.objs.size f cd).kindOf (ps.zip us) fun _=>none) s1) :
  Inv (cxOf CX P w K mg base N qual scope f cd A outer s H E) [] (start N vs) H s1:=by
 have hpl:ps.length<=N.length:=by have:=YQ List.length S.pre;rw[YJ]at this;omega
 obtain⟨h1,tk,rfl,hk⟩:=x.done;have noA:∀b:Addr,b∉(cxOf CX P w K mg base N qual scope f cd A outer s H E).ex:=fun b z=>absurd (show b∈([]:List Addr)from z) (by simp)
 refine⟨⟨e0.mod,S.kind,rfl,rfl,Yr _,fun y z c h1 h2=>?_,fun y hy=>?_,fun y c _ h=>?_,fun _=>hd,Around.frames_deeper e0.frames,.inr ⟨rfl,rfl⟩,fun b z=>absurd z (noA b),e0.bs,e0.bsz,fun b _ _=>noA b,fun b z=>absurd z (noA b),e0.funs,e0.frf⟩,
  rfl,e0.bare,Un.kept hk,⟨_,x.toInCall.ns,fun i y v h1 h2 h3=>?_⟩,fun y c h=>⟨_,x.cell y c h⟩,e0.hok.fresh (Yr _),fun y c h=>?_,fun p hp=>absurd (show p∈([]:List (Addr×Obj))from hp) (by simp),e0.hok.kept hk,?_⟩
 ·exact name_of_addr x.apart (WD h1) (WD h2)
 ·have hy:scope.names.lookup y=some .cell\/scope.names.lookup y=some .free:=hy;rcases hy with hy|hy
  ·exact Ce hy
  ·exact absurd rfl (S.nofree _ (WD hy))
 ·exact Q1 (x.above y c (WD h))
 ·have hi:i<vs.length:=by
   unfold start at h2;by_cases hi:i<vs.length
   ·exact hi
   ·rw[YO (by simpa using hi)]at h2;rw[WB]at h2;split at h2<;>cases h2
  have ha:vs[i]?=some v:=by
   unfold start at h2;rw[YM (by simpa using hi),Yw]at h2;cases e:vs[i]? with
   |none=>rw[e]at h2;cases h2
   |some a=>rw[e]at h2;cases h2;rfl
  obtain⟨u,hu,rv⟩:=r.get ha
  have hp:ps[i]?=some y:=by
   rw[←S.pre,Wv (by omega)];exact h1
  have ndP:ps.Nodup:=by rw[←S.pre];exact S.nd.sublist (QE _ _)
  refine⟨u,rv,?_⟩;rcases S.par y (Y8 hp)with k|k
  ·exact .inl ⟨k,DC ndP hp hu k⟩
  ·obtain⟨c,e⟩:=Ce (n:=s.heap.objs.size+1) k;refine .inr ⟨.inl k,c,e,?_⟩;have q:=x.cell y c e;rw[Df ndP hp hu (by show scope.names.lookup y≠_;rw[k];decide)]at q;exact q
 ·exact e0.hok.fresh (Q1 (x.above y c (WD h)))
 ·unfold start;show _=N.length;rw[Yt,Yi,List.length_replicate];omega
def Fs{CX:CXT}{P:Program}{w:World}{K:Za}{mg:Str->Option Value}{base:Heap}{k:Nat}{f:Addr}{name qual:Str}{params:Arguments}{body:List Stmt}{scope:Scope}{dV kV doc pm cdv ct oc:Value}{an od:Option Addr}{osl:Array (Option Value)}{N ps:List Str}{sp:Sp}(lk:K.lookup f=some ⟨oc,od,.func (PySem.W.fnOf name qual params body scope dV kV doc pm an cdv ct),osl⟩)(hcd:PySem.W.codeIn K cdv qual=true)(S:FnScope N ps scope)(len:∀vs H Q E,sp vs H Q E->vs.length=ps.length)
  (hbody:∀(A:Around) (outer:List Env) (s:Shared) (H:Hp) (vs:List V) (Q:VK) (E:XK),Room k (A.deeper (envOfC qual scope s.heap.objs.size f cdv))->sp vs H Q E->
   ∃t,PSs (cxOf CX P w K mg base N qual scope f cdv A outer s H E) body t/\t {nx:=fun _ H'=>Q .non H',rt:=Q} (start N vs) H) :
  FnOk P w K mg base CX (k+1) f (PySem.W.fnOf name qual params body scope dV kV doc pm an cdv ct) ps sp:=by
 refine⟨len,fun A outer s H args us vs Q E hr e0 hb r hsp=>?_⟩;have hl:=len _ _ _ _ hsp;have KX:K.In s.heap:=e0.mod.kin.keeps fun b o e=>(e0.bs b o e).1;have lim:s.heap.NoLimit:=e0.mod.nolimit.keeps fun b o e=>(e0.bs b o e).1
 have hkind:∀y∈ps.zip us,scope.names.lookup y.1=some .local\/(scope.names.lookup y.1=some .cell/\((cellsFrom (s.heap.objs.size+1) scope.names []).lookup y.1).isSome=true):=fun⟨n,v⟩ hy=>by
  rcases S.par n (List.of_mem_zip hy).1 with q|q
  ·exact .inl q
  ·exact .inr ⟨q,PySem.W.cellsFrom_some _ _ _ (.inl q)⟩
 refine codeAny_call_function hr.depth (KX _ _ lk) rfl S.co S.gen rfl (PySem.W.codeRec_of KX hcd) (hb _ _ _ _ ?_);refine wpAny_newFunctionEnv_cells S.kind hkind fun env he s1 x=>?_;subst he;refine⟨lim.keeps x.toInCall.keep,codeAny_func ?_⟩;obtain⟨t,ht,hq⟩:=hbody A outer s H vs Q E (hr.deeper _) hsp;have I:Inv (cxOf CX P w K mg base N qual scope f cdv A outer s H E) [] (start N vs) H s1:=RY S hr.hd e0 hl r x;refine YS (ht [] s1 (start N vs) H _ I hq) (fun fl s' hs=>?_) fun e s' hs=>hs
 have fin:∀{σ':St} {H':Hp} {v:V} {u:Value},Inv (cxOf CX P w K mg base N qual scope f cdv A outer s H E) [] σ' H' s'->RelV v u->Q v H'->CE outer P w H s Q u s':=
  fun {σ' H' v u} J rv q=>⟨v,H',J.os,J.bare,J.base,J.hok,rv,q⟩
 cases fl with
 |ret u=>
  obtain⟨v,σ',H',J,rv,q⟩:=hs;exact fin J rv q
 |next=>
  obtain⟨σ',H',J,q⟩:=hs;exact fin (v:=V.non) (u:=Value.none) J rfl q
 |brk=>
  obtain⟨_,_,_,q⟩:=hs;exact False.elim q
 |cont=>
  obtain⟨_,_,_,q⟩:=hs;exact False.elim q
section
variable {X:Cx}{x:Str}{p pos:Pos}{e:Expr}{es:List Expr}{t:TA}{id T:String}{r:List V->Hp->VK->Prop}
def tCB(r:List V->Hp->VK->Prop)(t:TA):TE:=fun σ H Q=>t σ H fun vs H1=>r vs H1 Q
def UI(hc:UJ X (.builtin id) r)(hg:Gl X x)(hm:X.mg x=none)(hv:bootBuiltins x=some (.builtin id))(ha:PA X (e::es) t)(hn:x≠"__name__":=by decide)(hdb:(x==("__debug__" : Str))=false:=by decide)(he:starEach (e::es) X.env=(false,eval e X.env)::starEach es X.env:=by rfl)(hpl:(backTo pos (starEach es X.env)).any (·.1)=false:=by rfl):PE X (.Call (.Name x p) (e::es) [] pos) (tCB r t):=by
 intro pins s σ H Q I h;refine Q2 (PK I hg hm hv ?_ hn hdb);exact PyProof.Rows.callWith_builtin1 (thn (ha pos pins s σ H _ I h) fun us s1 ⟨vs,H1,I1,r1,q1⟩=>hc pins s1 σ H1 vs us Q I1 r1 q1) he hpl
def XS(hc:UJ X (.type T) r)(hg:Gl X x)(hm:X.mg x=none)(hv:bootBuiltins x=some (.type T))(ha:PA X (e::es) t)(hn:x≠"__name__":=by decide)(hdb:(x==("__debug__" : Str))=false:=by decide)(he:starEach (e::es) X.env=(false,eval e X.env)::starEach es X.env:=by rfl)(hpl:(backTo pos (starEach es X.env)).any (·.1)=false:=by rfl):PE X (.Call (.Name x p) (e::es) [] pos) (tCB r t):=by
 intro pins s σ H Q I h;refine Q2 (PK I hg hm hv ?_ hn hdb);exact WI (thn (ha pos pins s σ H _ I h) fun us s1 ⟨vs,H1,I1,r1,q1⟩=>hc pins s1 σ H1 vs us Q I1 r1 q1) he hpl
end
end L2
namespace HT
open PySem PyProof.Rows
section
variable {prog:Program}{w:World}{A:Around}{E:Value->Shared->Prop}{s:Shared}
def Mr{t b:Addr}{vs ws:List Value}{Q:Value->Shared->Prop}(ht:IsTup s.heap t vs.toArray)(hb:IsTup s.heap b ws.toArray)(hv:vs≠[])(h1:ws=[]->Q (.ref t) s)(h2:ws≠[]->Q (.ref s.heap.objs.size) {s with heap:=s.heap.push {cls:=.type "tuple",data:=.seq (vs++ws).toArray}})(hsz:vs.length+ws.length<=sizeLine):wpAny (model prog w) A (binaryOp .Add (.ref t) (.ref b)) Q E s:=by
 obtain⟨⟨cls,dd,data,sl⟩,ho,hc,n,hd⟩:=id ht;obtain⟨⟨cls2,dd2,data2,sl2⟩,ho2,hc2,n2,hd2⟩:=id hb;simp only at hc hd hc2 hd2;subst hc hd hc2 hd2;have e:vs.toArray++ws.toArray=(vs++ws).toArray:=by simp
 by_cases hw:ws=[]
 ·exact concat_meets ⟨_,ho,rfl⟩ ⟨_,ho2,rfl⟩ noFill_tuple_add seq_tuple_add QI QC (Q3 _ _)
   (tuple_addW1 t b vs.toArray ws.toArray n n2 dd dd2 sl sl2 (by simpa using hv) (by simp[hw])) ⟨ho,ho2,h1 hw⟩
 ·refine concat_meets ⟨_,ho,rfl⟩ ⟨_,ho2,rfl⟩ noFill_tuple_add seq_tuple_add QI QC (Q3 _ _)
   (tuple_addW2 t b vs.toArray ws.toArray n n2 dd dd2 sl sl2 (by simpa using hv) (by simpa using hw) (by rw[Yz,Yz];exact hsz)) ⟨ho,ho2,?_⟩
  rw[e];exact h2 hw
def sIx(n d:Nat):Option Int->Nat
 |none=>d
 |some v=>if v<0 then(v+(n:Int)).toNat else min v.toNat n
def AH(n d:Nat):sIx n d none=d:=rfl
def NY(n d k:Nat):sIx n d (some (k:Int))=min k n:=by
 show(if (k:Int)<0 then((k:Int)+(n:Int)).toNat else min (k:Int).toNat n)=min k n;rw[Yo (by omega),YX]
end
end HT
namespace L2
open PySem PySem.Spec PyProof.Rows
abbrev TO:=St->Hp->(Option Int->Hp->Prop)->Prop
def PO(X:Cx)(e:Option Expr)(t:TO):Prop:=
 ∀(pins:List (Addr×Obj)) (s:Shared) (σ:St) (H:Hp) (Q:Option Int->Hp->Prop),Inv X pins σ H s->t σ H Q->
  wpAny (model X.prog X.w) X.A (evalPart e X.env) (fun u s'=>∃o H',Inv X pins σ H' s'/\IsPart u o/\Q o H') X.xe s
def AJ:TO:=fun _ H Q=>Q none H
def Cf(t:TE):TO:=fun σ H Q=>t σ H fun x H1=>∃i,x=.int i/\Q (some i) H1
def N4{ns:List Int}:∀{us:List Value},Vals (ns.map V.int) us->IntsAre us ns:=by
 induction ns with
 |nil=>intro us r;rw[Vr]at r;cases r;exact .nil
 |cons n ns ih=>
  intro us r;rw[YH]at r;cases r with
  |cons r1 r2=>
   obtain⟨t,e⟩:=r1;subst e;exact .cons n t (ih r2)
section
variable {X:Cx}{e:Expr}{te:TE}{lo hi:Option Expr}{tl th:TO}{pos p2:Pos}
def X6:PO X none AJ:=by
 intro pins s σ H Q I h;rw[evalPart_none];exact Ys ⟨none,H,I,.none,h⟩
def Xj(h:PE X e te):PO X (some e) (Cf te):=by
 intro pins s σ H Q I hw;rw[evalPart_some];refine thn (h pins s σ H _ I hw) fun u s1 ⟨x,H1,I1,r1,q1⟩=>?_;obtain⟨i,rfl,q⟩:=q1;obtain⟨t,rfl⟩:=r1;exact⟨some i,H1,I1,.int i t,q⟩
def SlR(X:Cx)(r:V->Option Int->Option Int->Hp->VK->Prop):Prop:=
 ∀(pins:List (Addr×Obj)) (s:Shared) (σ:St) (H:Hp) (x:V) (v vl vu:Value) (lo hi:Option Int) (sl:Addr) (Q:VK),Inv X pins σ H s->RelV x v->s.heap.IsSliceOf sl vl vu .none->IsPart vl lo->IsPart vu hi->r x lo hi H Q->
  ∃T id,typeLookup (.type T) "__getitem__"=pure (some (.builtin id))/\s.TypeIs v T/\wpAny (model X.prog X.w) X.A (getItem v (.ref sl)) (EP X pins σ Q) X.xe s
def tSl(r:V->Option Int->Option Int->Hp->VK->Prop)(te:TE)(tl th:TO):TE:=fun σ H Q=>te σ H fun x H1=>tl σ H1 fun l H2=>th σ H2 fun u H3=>r x l u H3 Q
def Xv{r:V->Option Int->Option Int->Hp->VK->Prop}(hr:SlR X r)(he:PE X e te)(hl:PO X lo tl)(hu:PO X hi th):PE X (.Subscript e (.Slice lo hi none p2) pos) (tSl r te tl th):=by
 intro pins s σ H Q I h;refine Subscript_ (thn (he pins s σ H _ I h) fun v s1 ⟨x,H1,I1,r1,q1⟩=>?_);refine wpAny_Slice (thn (hl pins s1 σ H1 _ I1 q1) fun vl s2 ⟨l,H2,I2,pl,q2⟩=>thn (hu pins s2 σ H2 _ I2 q2) fun vu s3 ⟨u,H3,I3,pu,q3⟩=>?_);rw[evalPart_none];refine Ys ?_;have I4:Inv X pins σ H3 {s3 with heap:=s3.heap.push {cls:=.type "slice",data:=.fields #[vl,vu,.none]}}:=I3.kept (t':=s3.toks) fun b ob q=>Yq _ q
 obtain⟨T,id,hT,ht,hg⟩:=hr pins {s3 with heap:=s3.heap.push {cls:=.type "slice",data:=.fields #[vl,vu,.none]}} σ H3 x v vl vu l u s3.heap.objs.size Q I4 r1 (Heap.IsSliceOf.new ..) pl pu q3
 show wpAny (model X.prog X.w) X.A (subscriptTail e (.Slice lo hi none p2) v (.ref s3.heap.objs.size)) (EP X pins σ Q) X.xe {s3 with heap:=s3.heap.push {cls:=.type "slice",data:=.fields #[vl,vu,.none]}}
 exact tail_any (ops:=[.ref s3.heap.objs.size,v]) ht hT hg (by with_unfolding_all rfl)
def cutV(xs:List V)(lo hi:Option Int):List V:=(xs.drop (HT.sIx xs.length 0 lo)).take (HT.sIx xs.length xs.length hi-HT.sIx xs.length 0 lo)
def Zar(xs:List V)(lo hi:Option Int):(cutV xs lo hi).length<=xs.length:=by
 unfold cutV;rw[YJ,Qc];omega
def R0(K:Za):R2:=fun x y H Q=>∃a b xs ys,x=.ref a/\y=.ref b/\SqT K H a xs/\SqT K H b ys/\xs≠[]/\xs.length+ys.length<=sizeLine/\
 (ys=[]->Q (.ref a) H)/\(ys≠[]->∀p,H p=none->Q (.ref p) (upd H p (.tup (xs++ys))))
def Vals.nil_iff {xs:List V}{us:List Value} (r:Vals xs us):us=[]↔xs=[]:=by
 cases r with
 |nil=>simp
 |cons _ _=>simp
def MB:OpR X (binaryOp .Add) (R0 X.K):=by
 intro pins s σ H x y v u Q I rx ry h;obtain⟨a,b,xs,ys,rfl,rfl,ha,hb,hx,hz,q1,q2⟩:=h;cases rx
 cases ry
 obtain⟨its,r1,p1,_⟩:=I.tuple ha;obtain⟨its2,r2,p2,_⟩:=I.tuple hb;refine HT.Mr p1 p2 (fun z=>hx (r1.nil_iff.mp z)) (fun z=>⟨.ref a,H,I,rfl,q1 (r2.nil_iff.mp z)⟩) (fun z=>?_) (by rw[←r1.length,←r2.length];exact hz);refine⟨.ref s.heap.objs.size,_,I.laid (t':=s.toks) (o:=.tup (xs++ys)) (fun b ob q=>Yq _ q) (Yr _) ?_,rfl,q2 (fun w=>z (r2.nil_iff.mpr w)) _ (I.hok.fresh (Yr _))⟩;exact⟨by rw[Yt];exact hz,_,r1.append r2,IsTup.new _ _⟩
end
def ixN(n:Nat)(i:Int):Option Nat:=if 0<=i then(if i<n then some i.toNat else none)else if -(n:Int)<=i then some (i+n).toNat else none
def atI{α:Type}(xs:List α)(i:Int):Option α:=(ixN xs.length i).bind fun j=>xs[j]?
def G5{n:Nat}{i:Int}{j:Nat}(h:ixN n i=some j):seqIndex? i n=some j/\j<n/\-(n:Int)<=i/\i<n:=by
 unfold ixN at h;by_cases h0:0<=i
 ·rw[Yn h0]at h;by_cases h1:i<n
  ·rw[Yn h1]at h;have e:i.toNat=j:=Yv h;exact⟨by rw[seqIndex_of h0 h1,e],by omega,by omega,h1⟩
  ·rw[Yo h1]at h;cases h
 ·rw[Yo h0]at h;by_cases h1:-(n:Int)<=i
  ·rw[Yn h1]at h;have e:(i+n).toNat=j:=Yv h;exact⟨by rw[seqIndex_neg (by omega) h1,e],by omega,h1,by omega⟩
  ·rw[Yo h1]at h;cases h
def Cv{α:Type}{xs:List α}{i:Int}{v:α}(h:atI xs i=some v):∃j,seqIndex? i xs.length=some j/\xs[j]?=some v/\j<xs.length/\-(xs.length:Int)<=i/\i<xs.length:=by
 unfold atI at h;cases e:ixN xs.length i with
 |none=>rw[e]at h;cases h
 |some j=>
  rw[e]at h;obtain⟨h1,h2,h3,h4⟩:=G5 e;exact⟨j,h1,h,h2,h3,h4⟩
def SE{α:Type}{xs:List α}{j:Nat}{v:α}(h:xs[j]?=some v):atI xs (j:Int)=some v:=by
 have hj:j<xs.length:=(Y2.mp h).1
 have e:ixN xs.length (j:Int)=some j:=by
  unfold ixN;rw[Yn (by omega),Yn (by omega)];simp
 unfold atI;rw[e];exact h
def AF(b:Expr):Prop:=∀o i,subscripted b false o i=operate [o,i] (getItem o i)
def IxR(X:Cx)(r:R2):Prop:=
 ∀(value slice:Expr) (pins:List (Addr×Obj)) (s:Shared) (σ:St) (H:Hp) (x y:V) (v u:Value) (Q:VK),Inv X pins σ H s->RelV x v->RelV y u->r x y H Q->
  subscripted slice false v u=operate [v,u] (getItem v u)->wpAny (model X.prog X.w) X.A (subscriptTail value slice v u) (EP X pins σ Q) X.xe s
def MtR(X:Cx)(id:String)(r:V->List V->Hp->VK->Prop):Prop:=
 ∀(pins:List (Addr×Obj)) (s:Shared) (σ:St) (H:Hp) (x:V) (xs:List V) (v:Value) (us:List Value) (Q:VK),Inv X pins σ H s->RelV x v->Vals xs us->r x xs H Q->
  wpAny (model X.prog X.w) X.A (call (.builtin id) (v::us)) (EP X pins σ Q) X.xe s
section
variable {X:Cx}{a b:Expr}{ta tb:TE}{pos:Pos}
def IxR.or {r r':R2} (h:IxR X r) (h':IxR X r'):IxR X (fun x y H Q=>r x y H Q\/r' x y H Q):=by
 intro value slice pins s σ H x y v u Q I rx ry q hs;rcases q with q|q
 ·exact h value slice pins s σ H x y v u Q I rx ry q hs
 ·exact h' value slice pins s σ H x y v u Q I rx ry q hs
def Gb{r:R2}(hr:IxR X r)(ha:PE X a ta)(hb:PE X b tb)(hs:AF b):PE X (.Subscript a b pos) (tOp r ta tb):=by
 intro pins s σ H Q I h;exact Subscript_ (binT ha hb I h fun v u s2 x y H2 I2 rx ry q=>hr a b pins s2 σ H2 x y v u Q I2 rx ry q (hs _ _))
def rIxL(K:Za):R2:=fun x y H Q=>∃p xs i v,x=.ref p/\y=.int i/\SqL K H p xs/\atI xs i=some v/\Q v H
def rIxT(K:Za):R2:=fun x y H Q=>∃p xs i v,x=.ref p/\y=.int i/\SqT K H p xs/\atI xs i=some v/\Q v H
def ix_list:IxR X (rIxL X.K):=by
 intro value slice pins s σ H x y v u Q I rx ry h hs;obtain⟨p,xs,i,z,rfl,rfl,hq,he,q⟩:=h;cases rx
 obtain⟨t,rfl⟩:=ry;obtain⟨its,r,pl,hz⟩:=I.list hq;obtain⟨j,h1,h2,h3,h4,h5⟩:=Cv he;obtain⟨w,ew,rw'⟩:=r.get h2;have hl:=r.length;have hn:=Nf;have fin:EP X pins σ Q w s:=⟨z,H,I,rw',q⟩;by_cases h0:0<=i
 ·have hj:i.toNat=j:=by
   rw[seqIndex_of h0 h5]at h1;exact Yv h1
  exact item_listR pl.isList h0 (by omega) (by rw[hj];simpa using ew) fin hs
 ·have hj:(i+(its.toArray.size:Int)).toNat=j:=by
   rw[seqIndex_neg (by omega) h4]at h1;rw[Yz,←hl];exact Yv h1
  exact subscriptTail_builtinR (x:=w) pl.isList.typeIs slot_list_getitem.lookup
   (wpAny_getItem_list_neg (Q:=fun r s'=>r=w/\EP X pins σ Q r s') pl.isList (by omega) (by rw[Yz]<;>omega) (by omega) (by rw[hj];simpa using ew) ⟨rfl,fin⟩) hs
def Zbp:IxR X (rIxT X.K):=by
 intro value slice pins s σ H x y v u Q I rx ry h hs;obtain⟨p,xs,i,z,rfl,rfl,hq,he,q⟩:=h;cases rx
 obtain⟨t,rfl⟩:=ry;obtain⟨its,r,pl,hz⟩:=I.tuple hq;obtain⟨j,h1,h2,h3,h4,h5⟩:=Cv he;obtain⟨w,ew,rw'⟩:=r.get h2;have hl:=r.length;have hn:=Nf;have fin:EP X pins σ Q w s:=⟨z,H,I,rw',q⟩
 exact subscriptTail_builtinR (x:=w) pl.typeIs slot_tuple_getitem.lookup
  (getItem_tuple (j:=j) (Q:=fun r s'=>r=w/\EP X pins σ Q r s') pl (by omega) (by omega) (by rw[Yz,←hl];exact h1) (by simpa using ew) ⟨rfl,fin⟩) hs
def Zez(its:List Value)(n j:Nat)(u:Value):Obj.mapSeq (·.setIfInBounds j u) {cls:=.type "list",data:=.seq its.toArray n}={cls:=.type "list",data:=.seq (its.set j u).toArray n}:=by
 simp[Obj.mapSeq]
def Inv.lst {pins:List (Addr×Obj)}{σ:St}{H:Hp}{s:Shared}{p:Addr}{xs:List V} (I:Inv X pins σ H s) (h:H p=some (.lst xs)) :
  ∃(its:List Value) (n:Nat),Vals xs its/\s.heap.get? p=some {cls:=.type "list",data:=.seq its.toArray n}/\xs.length<=sizeLine:=by
 obtain⟨z,its,n,r,e⟩:=I.hok p _ h;exact⟨its,n,r,e,z⟩
def Inv.lstUpd {pins:List (Addr×Obj)}{σ:St}{H:Hp}{s:Shared}{p:Addr}{xs ys:List V}{its its':List Value}{n n':Nat}{f:Obj->Obj} (I:Inv X pins σ H s) (h:H p=some (.lst xs))
  (ho:s.heap.get? p=some {cls:=.type "list",data:=.seq its.toArray n}) (hf:f {cls:=.type "list",data:=.seq its.toArray n}={cls:=.type "list",data:=.seq its'.toArray n'}) (r:Vals ys its') (hz:ys.length<=sizeLine) (t:Nat) :
  Inv X pins σ (upd H p (.lst ys)) {s with heap:=s.heap.update p f,toks:=t}:=by
 have e:(s.heap.update p f).get? p=some {cls:=.type "list",data:=.seq its'.toArray n'}:=by
  rw[Wb f ho (by rw[hf]<;>rfl),hf]
 refine I.write (x:=p) (e:=p) (by rw[h];trivial) (.inl rfl) (fun b u hb q=>(We _ _ (Ne.symm hb)).trans q) ⟨_,e⟩ ?_;exact⟨hz,its',n',r,e⟩
def DP:V->V->V->Hp->(Hp->Prop)->Prop:=fun o i v H Q=>∃p xs k j,o=.ref p/\i=.int k/\H p=some (.lst xs)/\ixN xs.length k=some j/\Q (upd H p (.lst (xs.set j v)))
def Zdy:PSet X DP:=by
 intro pins s σ H o i v ov iv u Q I ro ri rv h;obtain⟨p,xs,k,j,rfl,rfl,hp,hj,q⟩:=h;cases ro
 obtain⟨t,rfl⟩:=ri;obtain⟨its,n,r,ho,hz⟩:=I.lst hp;obtain⟨h1,h2,h3,h4⟩:=G5 hj;have hl:=r.length;have hn:=Nf
 have I':Inv X pins σ (upd H p (.lst (xs.set j v))) {s with heap:=s.heap.update p (Obj.mapSeq (·.setIfInBounds j u))}:=
  I.lstUpd hp ho (Zez its n j u) (r.set rv j) (by rw[Wj];exact hz) s.toks
 by_cases h0:0<=k
 ·have hk:k.toNat=j:=by
   rw[seqIndex_of h0 h4]at h1;exact Yv h1
  exact PySem.W.ki_setAt ho h0 (by omega) (by rw[Yz,←hl];exact h4) (by rw[hk];exact⟨_,I',q⟩)
 ·have hk:(k+(its.toArray.size:Int)).toNat=j:=by
   rw[seqIndex_neg (by omega) h3]at h1;rw[Yz,←hl];exact Yv h1
  exact PySem.W.ki_setBack ho (by omega) (by rw[Yz,←hl];exact h3) (by omega) (by rw[hk];exact⟨_,I',q⟩)
def RC(lo hi:Option Int)(n:Nat):(sliceBounds lo hi none n).1=((HT.sIx n 0 lo:Nat):Int)/\(sliceBounds lo hi none n).2.1=((HT.sIx n n hi:Nat):Int)/\(sliceBounds lo hi none n).2.2=1:=by
 refine⟨?_,?_,rfl⟩
 ·cases lo with
  |none=>simp[sliceBounds,HT.sIx]
  |some i=>
   simp only[sliceBounds,HT.sIx,Option.getD_none,show(1:Int)>0 by decide,if_true];by_cases h:i<0
   ·simp only[h,if_true]<;>omega
   ·simp only[h,if_false]<;>omega
 ·cases hi with
  |none=>simp[sliceBounds,HT.sIx]
  |some i=>
   simp only[sliceBounds,HT.sIx,Option.getD_none,show(1:Int)>0 by decide,if_true];by_cases h:i<0
   ·simp only[h,if_true]<;>omega
   ·simp only[h,if_false]<;>omega
def HJ(its:List Value)(lo hi:Option Int):slicePick its.toArray lo hi none=((its.drop (HT.sIx its.length 0 lo)).take (HT.sIx its.length its.length hi-HT.sIx its.length 0 lo)).toArray:=by
 obtain⟨h1,h2,h3⟩:=RC lo hi its.toArray.size;unfold slicePick;rw[h1,h2,h3];simp only[sliceRange_one,pick_run,Yz]<;>rfl
def rSlL(K:Za):V->Option Int->Option Int->Hp->VK->Prop:=fun x lo hi H Q=>∃a xs,x=.ref a/\SqL K H a xs/\∀p,H p=none->Q (.ref p) (upd H p (.lst (cutV xs lo hi)))
def Lw:SlR X (rSlL X.K):=by
 intro pins s σ H x v vl vu lo hi sl Q I rx hs pl pu h;obtain⟨a,xs,rfl,hx,q⟩:=h;cases rx
 obtain⟨its,r,ht,hz⟩:=I.list hx;have hlen:=r.length;refine⟨"list",_,slot_list_getitem.lookup,ht.isList.typeIs,?_⟩;refine wpAny_getItem_list_slice ht.isList hs pl pu .none (by simp) ?_ (by rw[Yz]<;>omega);rw[HJ,←hlen];refine⟨.ref s.heap.objs.size,_,I.laid (t':=s.toks) (o:=.lst (cutV xs lo hi)) (fun b ob q=>Yq _ q) (Yr _) ?_,rfl,q _ (I.hok.fresh (Yr _))⟩;exact⟨Yy (Zar xs lo hi) hz,_,0,(r.drop (HT.sIx xs.length 0 lo)).take (HT.sIx xs.length xs.length hi-HT.sIx xs.length 0 lo),Y3 _ rfl⟩
def Xu:V->Bool
 | .non=>true
 | .bl _=>true
 | .int _=>true
 | .str _=>true
 |_=>false
def eqV:V->V->Bool
 | .non,.non=>true
 | .bl a,.bl b=>a==b
 | .bl a,.int b=>(if a then 1 else 0)==b
 | .int a,.bl b=>a==(if b then 1 else 0)
 | .int a,.int b=>a==b
 | .str a,.str b=>a==b
 |_,_=>false
def Cm{A:Around}{s:Shared}{y x:V}{u v:Value}(ry:RelV y u)(rx:RelV x v)(fy:Xu y=true)(fx:Xu x=true):SeqAt.EqAt A s u v (eqV y x):=by
 cases y with
 |non=>
  cases ry
  cases x with
  |non=>cases rx;exact SeqAt.EqAt.same _
  |bl b=>cases rx;exact SeqAt.EqAt.none_bool b
  |int b=>obtain⟨t,rfl⟩:=rx;exact SeqAt.EqAt.none_int b t
  |str b=>obtain⟨t,rfl⟩:=rx;exact SeqAt.EqAt.none_str b t
  |_=>exact absurd (show false=true from fx) Y7
 |bl a=>
  cases ry
  cases x with
  |non=>cases rx;exact SeqAt.EqAt.bool_none a
  |bl b=>cases rx;exact SeqAt.EqAt.bool_bool a b
  |int b=>obtain⟨t,rfl⟩:=rx;exact SeqAt.EqAt.bool_int a b t
  |str b=>obtain⟨t,rfl⟩:=rx;exact SeqAt.EqAt.bool_str a b t
  |_=>exact absurd (show false=true from fx) Y7
 |int a=>
  obtain⟨t',rfl⟩:=ry;cases x with
  |non=>cases rx;exact SeqAt.EqAt.int_none a t'
  |bl b=>cases rx;exact SeqAt.EqAt.int_bool a t' b
  |int b=>obtain⟨t,rfl⟩:=rx;exact SeqAt.EqAt.int_int a t' b t
  |str b=>obtain⟨t,rfl⟩:=rx;exact SeqAt.EqAt.int_str a t' b t
  |_=>exact absurd (show false=true from fx) Y7
 |str a=>
  obtain⟨t',rfl⟩:=ry;cases x with
  |non=>cases rx;exact SeqAt.EqAt.str_none a t'
  |bl b=>cases rx;exact SeqAt.EqAt.str_bool a t' b
  |int b=>obtain⟨t,rfl⟩:=rx;exact SeqAt.EqAt.str_int a t' b t
  |str b=>obtain⟨t,rfl⟩:=rx;exact SeqAt.EqAt.str_str a t' b t
  |_=>exact absurd (show false=true from fx) Y7
 |_=>exact absurd (show false=true from fy) Y7
def eqU(x:V)(u:Value):Bool:=match u with
 | .none=>eqV .non x
 | .bool b=>eqV (.bl b) x
 | .int i _=>eqV (.int i) x
 | .str z _=>eqV (.str z) x
 |_=>false
def DL{x y:V}{u:Value}(r:RelV y u)(f:Xu y=true):eqU x u=eqV y x:=by
 cases y with
 |non=>cases r;rfl
 |bl b=>cases r;rfl
 |int i=>obtain⟨t,rfl⟩:=r;rfl
 |str z=>obtain⟨t,rfl⟩:=r;rfl
 |_=>exact absurd (show false=true from f) Y7
def T8{x:V}:∀{xs:List V}{us:List Value},Vals xs us->xs.all Xu=true->us.any (eqU x)=xs.any fun y=>eqV y x
 |_,_,.nil,_=>rfl
 |y::xs,u::us,.cons r t,f=>by
  rw[QJ,Y9]at f;rw[Qg,Qg,DL r f.1,T8 t f.2]
def Nk{A:Around}{s:Shared}{x:V}{v:Value}(rx:RelV x v)(fx:Xu x=true):∀{xs:List V}{us:List Value},Vals xs us->xs.all Xu=true->∀u∈us,SeqAt.EqAt A s u v (eqU x u)
 |_,_,.nil,_=>fun u hu=>by cases hu
 |y::xs,u::us,.cons r t,f=>fun u' hu=>by
  rw[QJ,Y9]at f;rcases Yx.mp hu with rfl|hu
  ·rw[DL r f.1];exact Cm r rx f.1 fx
  ·exact Nk rx fx t f.2 u' hu
def inV(x:V)(xs:List V):Bool:=xs.any fun y=>eqV y x
def rIn(K:Za)(neg:Bool):R2:=fun x y H Q=>∃p xs,y=.ref p/\(SqL K H p xs\/SqT K H p xs)/\Xu x=true/\xs.all Xu=true/\Q (.bl (if neg then !inV x xs else inV x xs)) H
def RW:OpR X (compareOp .In) (rIn X.K false):=by
 intro pins s σ H x y v u Q I rx ry h;obtain⟨p,xs,rfl,hq,fx,fs,q⟩:=h;cases ry
 rcases hq with hq|hq
 ·obtain⟨its,r,pl,hz⟩:=I.list hq;refine SeqAt.in_listAt (eqU x) pl.isList (fun w hw=>Nk rx fx r fs w (by simpa using hw)) ⟨.bl _,H,I,rfl,?_⟩;rw[show its.toArray.any (eqU x)=its.any (eqU x) by simp,T8 r fs];exact q
 ·obtain⟨its,r,pl,hz⟩:=I.tuple hq;refine SeqAt.in_tupleAt (eqU x) pl (fun w hw=>Nk rx fx r fs w (by simpa using hw)) ⟨.bl _,H,I,rfl,?_⟩;rw[show its.toArray.any (eqU x)=its.any (eqU x) by simp,T8 r fs];exact q
def Zd1:OpR X (compareOp .NotIn) (rIn X.K true):=by
 intro pins s σ H x y v u Q I rx ry h;obtain⟨p,xs,rfl,hq,fx,fs,q⟩:=h;cases ry
 rcases hq with hq|hq
 ·obtain⟨its,r,pl,hz⟩:=I.list hq;refine SeqAt.notIn_listAt (eqU x) pl.isList (fun w hw=>Nk rx fx r fs w (by simpa using hw)) ⟨.bl _,H,I,rfl,?_⟩;rw[show its.toArray.any (eqU x)=its.any (eqU x) by simp,T8 r fs];exact q
 ·obtain⟨its,r,pl,hz⟩:=I.tuple hq;refine SeqAt.notIn_tupleAt (eqU x) pl (fun w hw=>Nk rx fx r fs w (by simpa using hw)) ⟨.bl _,H,I,rfl,?_⟩;rw[show its.toArray.any (eqU x)=its.any (eqU x) by simp,T8 r fs];exact q
def CT:UJ X (.type "list") (fun xs H Q=>∃p ys,xs=[.ref p]/\(SqL X.K H p ys\/SqT X.K H p ys)/\∀l,H l=none->Q (.ref l) (upd H l (.lst ys))):=by
 intro pins s σ H xs us Q I r h;obtain⟨p,ys,rfl,hq,q⟩:=h;obtain⟨u,rfl,rx⟩:=vals1 r;cases rx
 have fin:∀(its:List Value),Vals ys its->ys.length<=sizeLine->∀(h':Heap) (c':Nat),(∀b o',s.heap.get? b=some o'->h'.get? b=some o')->
   h'.get? s.heap.objs.size=some {cls:=.type "list",dict:=none,data:=.seq its.toArray c',slots:=#[]}->EP X pins σ Q (.ref s.heap.objs.size) {s with heap:=h'}:=fun its r' hz h' c' kp e=>
  ⟨.ref s.heap.objs.size,_,I.laid (t':=s.toks) kp (Yr _) (show ObjOk X.prog X.w _ h' _ (.lst ys)from⟨hz,its,c',r',e⟩),rfl,q _ (I.hok.fresh (Yr _))⟩
 rcases hq with hq|hq
 ·obtain⟨its,r',pl,hz⟩:=I.list hq;have hlen:=r'.length;obtain⟨o,ho,hc,n,hd⟩:=pl.isList;exact call_list_seq p (.inl rfl) ho hc hd (fun h' c' kp e=>fin its r' hz h' c' kp e) (by simp only[Yz]<;>omega)
 ·obtain⟨its,r',pl,hz⟩:=I.tuple hq;have hlen:=r'.length;obtain⟨o,ho,hc,n,hd⟩:=pl;exact call_list_seq p (.inr rfl) ho hc hd (fun h' c' kp e=>fin its r' hz h' c' kp e) (by simp only[Yz]<;>omega)
def Zc8:UJ X (.type "tuple") (fun xs H Q=>∃p ys,xs=[.ref p]/\((SqL X.K H p ys/\∀l,H l=none->Q (.ref l) (upd H l (.tup ys)))\/(SqT X.K H p ys/\Q (.ref p) H))):=by
 intro pins s σ H xs us Q I r h;obtain⟨p,ys,rfl,h⟩:=h;obtain⟨u,rfl,rx⟩:=vals1 r;cases rx
 rcases h with⟨hq,q⟩|⟨hq,q⟩
 ·obtain⟨its,r',pl,hz⟩:=I.list hq;have hlen:=r'.length;refine call_tuple_list pl.isList (fun h' kp=>?_) (by simp only[Yz]<;>omega);have I1:Inv X pins σ H {s with heap:=h'}:=I.kept (t':=s.toks) kp
  have I2:Inv X pins σ (upd H h'.objs.size (.tup ys)) {s with heap:=h'.push {cls:=.type "tuple",data:=.seq its.toArray}}:=
   I1.laid (t':=s.toks) (fun b o e=>Yq _ e) (Yr _) (show ObjOk X.prog X.w _ _ _ (.tup ys)from⟨hz,its,r',IsTup.new _ _⟩)
  exact⟨.ref h'.objs.size,_,I2,rfl,q _ (I1.hok.fresh (Yr _))⟩
 ·obtain⟨its,r',pl,hz⟩:=I.tuple hq;exact call_tuple_same pl ⟨.ref p,H,I,rfl,q⟩
def tyV(K:Za)(T:String)(x:V)(H:Hp):Prop:=match x with
 | .str _=>T = "str"
 | .int _=>T = "int"
 | .ref p=>(T = "list"/\∃xs,SqL K H p xs)\/(T = "tuple"/\∃o,K.lookup p=some o/\o.cls=.type "tuple"/\o.dict=none)\/
   (T = "dict"/\((∃kvs,H p=some (.dK kvs))\/∃kvs,H p=some (.dT kvs)))\/(T = "set"/\∃S n,H p=some (.set S n))
 |_=>False
def GY{pins:List (Addr×Obj)}{σ:St}{H:Hp}{s:Shared}{T:String}{x:V}{v:Value}(I:Inv X pins σ H s)(r:RelV x v)(ty:tyV X.K T x H) :
  s.TypeIs v T/\∀a,v=.ref a->∃ob,s.heap.get? a=some ob/\ob.dict=none:=by
 cases x with
 |str z=>
  obtain⟨t,rfl⟩:=r;cases (show T = "str" from ty)
  exact⟨typeIs_str s z t,fun _ e=>nomatch e⟩
 |int i=>
  obtain⟨t,rfl⟩:=r;cases (show T = "int" from ty)
  exact⟨typeIs_int s i t,fun _ e=>nomatch e⟩
 |ref p=>
  cases r
  rcases ty with⟨rfl,xs,hq⟩|⟨rfl,o,hk,hc,hd⟩|⟨rfl,hk⟩|⟨rfl,S,n,hk⟩
  ·obtain⟨its,_,pl,_⟩:=I.list hq;refine⟨pl.isList.typeIs,fun a e=>?_⟩;cases e
   obtain⟨o,n,e,c,hd,_⟩:=pl;exact⟨o,e,hd⟩
  ·refine⟨⟨o,I.kIn p o hk,hc⟩,fun a e=>?_⟩;cases e
   exact⟨o,I.kIn _ o hk,hd⟩
  ·have z:∃o,s.heap.get? p=some o/\o.ExactDict:=by
    rcases hk with⟨kvs,hk⟩|⟨kvs,hk⟩
    ·obtain⟨_,_,_,_,o,_,_,e,ex,_⟩:=I.hok p _ hk;exact⟨o,e,ex⟩
    ·obtain⟨_,_,_,_,o,_,_,e,ex,_⟩:=I.hok p _ hk;exact⟨o,e,ex⟩
   obtain⟨o,e,ex⟩:=z;refine⟨⟨o,e,ex.1⟩,fun a e2=>?_⟩;cases e2
   exact⟨o,e,ex.2.1⟩
  ·obtain⟨o,_,_,_,e,ex,_⟩:=I.hok p _ hk;refine⟨⟨o,e,ex.1⟩,fun a e2=>?_⟩;cases e2
   exact⟨o,e,ex.2.1⟩
 |_=>exact False.elim ty
def tBM0(K:Za)(T:String)(r:V->List V->Hp->VK->Prop)(to:TE):TE:=fun σ H Q=>to σ H fun x H1=>tyV K T x H1/\r x [] H1 Q
def tBM(K:Za)(T:String)(r:V->List V->Hp->VK->Prop)(to:TE)(t:TA):TE:=fun σ H Q=>to σ H fun x H1=>tyV K T x H1/\t σ H1 fun xs H2=>r x xs H2 Q
variable {o e:Expr}{es:List Expr}{to:TE}{t:TA}{name:Str}{apos cpos:Pos}{T id:String}{r:V->List V->Hp->VK->Prop}
def NO(pa:PlainAttrs T)(slot:Slot T name id)(hty:typeOf (.builtin id)=pure (.type "method_descriptor"))(hm:MtR X id r)(ho:PE X o to)(hbase:attributeBase o name X.env (eval o X.env)=eval o X.env:=by rfl)(hline:(apos.endLine==cpos.line)=true:=by rfl):PE X (.Call (.Attribute o name apos) [] [] cpos) (tBM0 X.K T r to):=by
 intro pins s σ H Q I h;refine wpAny_Call_method0_late hbase hline (thn (ho pins s σ H _ I h) fun v s1 ⟨x,H1,I1,r1,ty,q1⟩=>?_);obtain⟨h1,h2⟩:=GY I1 r1 ty;exact⟨T,id,pa,slot,hty,h1,h2,Calls.callWith_builtin rfl (PySem.evalArgs_none (hm pins s1 σ H1 x [] v [] Q I1 r1 .nil q1))⟩
def Ku(pa:PlainAttrs T)(slot:Slot T name id)(hty:typeOf (.builtin id)=pure (.type "method_descriptor"))(hm:MtR X id r)(ho:PE X o to)(ha:PA X (e::es) t)(hbase:attributeBase o name X.env (eval o X.env)=eval o X.env:=by rfl)
  (hfew:((backTo cpos (starEach (e::es) X.env)).all (fun x=>!x.1)&&(backToKw cpos (keywordEach [] X.env)).all (fun x=>x.1.isSome)
   && decide ((e::es).length+([]:List Keyword).length+(if ([]:List Keyword).isEmpty then 0 else 1)<30))=true:=by rfl)
  (hline:(apos.endLine==cpos.line)=true:=by rfl) (hs:starEach (e::es) X.env=(false,eval e X.env)::starEach es X.env:=by rfl) (hplain:(backTo cpos (starEach es X.env)).any (·.1)=false:=by rfl) :
  PE X (.Call (.Attribute o name apos) (e::es) [] cpos) (tBM X.K T r to t):=by
 intro pins s σ H Q I h;refine wpAny_Call_method_late hbase hfew hline rfl (thn (ho pins s σ H _ I h) fun v s1 ⟨x,H1,I1,r1,ty,q1⟩=>?_);obtain⟨h1,h2⟩:=GY I1 r1 ty;refine⟨T,id,pa,slot,hty,h1,h2,?_⟩;have hA:=ha cpos pins s1 σ H1 _ I1 q1;rw[hs]at hA ⊢;refine Calls.callWith_builtin (by show(false || (backTo cpos (starEach es X.env)).any (·.1))=false;rw[hplain]<;>rfl) (QT ?_);exact thn hA fun us s2 ⟨vs,H2,I2,r2,q2⟩=>hm pins s2 σ H2 x vs v us Q I2 r1 r2 q2
end
def MtM(X:Cx)(id:String)(r:V->List V->Hp->VK->Prop):Prop:=
 ∀(pins:List (Addr×Obj)) (s:Shared) (σ:St) (H:Hp) (x:V) (xs:List V) (v:Value) (us:List Value) (Q:VK),Inv X pins σ H s->RelV x v->Vals xs us->r x xs H Q->
  wpAny (model X.prog X.w) X.A (call (.builtin id) (v::us)) (EP X pins σ Q) X.xe s
def Vals.one:∀{x:V}{us:List Value},Vals [x] us->∃u,us=[u]/\RelV x u
 |_,_,.cons r .nil=>⟨_,rfl,r⟩
def Vals.zero:∀{us:List Value},Vals [] us->us=[]
 |_,.nil=>rfl
def Vals.dropLast {xs:List V}{us:List Value} (h:Vals xs us):Vals xs.dropLast us.dropLast:=by
 induction h with
 |nil=>exact .nil
 |cons r t ih=>
  cases t with
  |nil=>exact .nil
  |cons q t'=>exact .cons r ih
def Zcc{α:Type}(l:List α):l.eraseIdx (l.length-1)=l.dropLast:=by
 induction l with
 |nil=>rfl
 |cons a r ih=>
  cases r with
  |nil=>rfl
  |cons b r=>
   have e:(a::b::r).length-1=((b::r).length-1)+1:=by
    have h1:(a::b::r).length=r.length+2:=rfl;have h2:(b::r).length=r.length+1:=rfl;omega
   rw[e,List.eraseIdx_cons_succ,ih]
   all_goals rfl
section
variable {X:Cx}{pins:List (Addr×Obj)}{σ:St}{H:Hp}{s:Shared}{l b:Addr}{xs ys zs:List V}
def Inv.lset {its its':List Value}{n:Nat}{f:Array Value->Array Value}{t':Nat} (I:Inv X pins σ H s) (hH:H l=some (.lst xs))
  (e:s.heap.get? l=some {cls:=.type "list",data:=.seq its.toArray n}) (hf:f its.toArray=its'.toArray) (hv:Vals ys its') (hz:ys.length<=sizeLine) :
  Inv X pins σ (upd H l (.lst ys)) {s with heap:=s.heap.update l (Obj.mapSeq f),toks:=t'}:=by
 have q:=PySem.IsL.update e f;rw[hf]at q;refine I.write (x:=l) (e:=l) (by rw[hH];exact trivial) (.inl rfl) (fun b' u hb hu=>(We s.heap (Obj.mapSeq f) (Ne.symm hb)).trans hu) ⟨_,q⟩ ?_;exact⟨hz,its',_,hv,q⟩
def Inv.lnew {its:List Value}{t':Nat} (I:Inv X pins σ H s) (hv:Vals ys its) (hz:ys.length<=sizeLine) :
  Inv X pins σ (upd H s.heap.objs.size (.lst ys)) {s with heap:=s.heap.push {cls:=.type "list",data:=.seq its.toArray},toks:=t'}:=
 I.laid (fun _ _ q=>Yq _ q) (Yr _) ⟨hz,its,0,hv,Y3 _ rfl⟩
def Inv.fresh (I:Inv X pins σ H s):H s.heap.objs.size=none:=I.hok.fresh (Yr _)
def Inv.lstM (I:Inv X pins σ H s) (hH:H l=some (.lst xs)):xs.length<=sizeLine/\∃(its:List Value) (n:Nat),Vals xs its/\xs.length=its.length/\s.heap.get? l=some {cls:=.type "list",data:=.seq its.toArray n}:=by
 obtain⟨z,its,n,r,e⟩:=I.hok l _ hH;exact⟨z,its,n,r,r.length,e⟩
end
section
variable {X:Cx}
def SC:V->List V->Hp->VK->Prop:=fun x vs H Q=>∃l xs y,x=.ref l/\vs=[y]/\H l=some (.lst xs)/\xs.length<sizeLine/\Q .non (upd H l (.lst (xs++[y])))
def Ko:MtM X "list.append" SC:=by
 intro pins s σ H x vs v us Q I rx rv h;obtain⟨l,xs,y,rfl,rfl,hH,hz,q⟩:=h;cases rx
 obtain⟨u,rfl,ru⟩:=rv.one;obtain⟨z,its,n,r,hl,e⟩:=I.lstM hH;refine call_meets F.slot_list_append ⟨_,e,rfl⟩ F.entry_list_append (F.args_list_append_2 _ _) (PySem.list_append l its.toArray n u (by rw[Yz];omega)) ⟨e,?_⟩;refine⟨.non,_,I.lset (its':=its++[u]) hH e (by simp) (r.append (.cons ru .nil)) ?_,rfl,q⟩;rw[Yt,Wi];omega
def rPop:V->List V->Hp->VK->Prop:=fun x vs H Q=>∃l xs y,x=.ref l/\vs=[]/\H l=some (.lst xs)/\xs[xs.length-1]?=some y/\Q y (upd H l (.lst xs.dropLast))
def NB:MtM X "list.pop" rPop:=by
 intro pins s σ H x vs v us Q I rx rv h;obtain⟨l,xs,y,rfl,rfl,hH,hy,q⟩:=h;cases rx
 have hus:=rv.zero;subst hus;obtain⟨z,its,n,r,hl,e⟩:=I.lstM hH;obtain⟨u,hu,ru⟩:=r.get hy
 have hy':its.toArray[its.toArray.size-1]?=some u:=by
  show its.toArray[its.length-1]?=some u;rw[←Wu,←hl];exact hu
 refine call_meets F.slot_list_pop ⟨_,e,rfl⟩ F.entry_list_pop (F.args_list_pop_1 _) (MeetsSeq.list_pop_last l its.toArray n u hy' (by rw[Yz];omega)) ⟨e,?_⟩;refine⟨y,_,I.lset (its':=its.dropLast) hH e ?_ r.dropLast ?_,ru,q⟩
 ·show its.toArray.eraseIdxIfInBounds (its.toArray.size-1)=its.dropLast.toArray;rw[Yz,List.eraseIdxIfInBounds_toArray,Zcc]
 ·rw[QU];omega
def rCat:R2:=fun x y H Q=>∃l b xs zs,x=.ref l/\y=.ref b/\H l=some (.lst xs)/\H b=some (.lst zs)/\xs.length+zs.length<=sizeLine/\∀p,H p=none->Q (.ref p) (upd H p (.lst (xs++zs)))
def Xr:OpR X (binaryOp .Add) rCat:=by
 intro pins s σ H x y v u Q I rx ry h;obtain⟨l,b,xs,zs,rfl,rfl,hH,hB,hz,q⟩:=h;cases rx
 cases ry
 obtain⟨z,its,n,r,hl,e⟩:=I.lstM hH;obtain⟨z2,its2,n2,r2,hl2,e2⟩:=I.lstM hB;refine PySem.P.add_list e e2 ?_ (by rw[Yz,Yz];omega);have ea:its.toArray++its2.toArray=(its++its2).toArray:=by simp
 rw[ea];exact⟨.ref _,_,I.lnew (t':=s.toks) (r.append r2) (by rw[Yt];omega),rfl,q _ I.fresh⟩
end
end L2
namespace Att
open PySem PySem.W PySem.Calls PyProof.Rows
def Rj{P:Params}{h:Heap}:∀(ns:List Int) (vs:List Value),WellAll P h vs (ns.map WData.int)->IntsAre vs ns:=by
 intro ns
 induction ns with
 |nil=>
  intro vs w;rw[Vr]at w;cases w
  exact .nil
 |cons n ns ih=>
  intro vs w;rw[YH]at w;cases w with
  |cons a b=>
   cases a
   exact .cons _ _ (ih _ b)
def Ox{l:OpenLaw}{n:Nat}(hn:l.most=some n){P:Params}{h:Heap}{args:List WData}{vals:List Value}(hpre:l.row.toRowW.claim.pre args=true)(hwl:WellAll P h vals args) :
  ∃a vs ns,vals=[Value.ref a]/\args=[WData.list (ns.map WData.int)]/\h.get? a=some {cls:=.type "list",data:=.seq vs.toArray}/\IntsAre vs ns/\ns.length<=n:=by
 have hsh:WShape.hasAll [] args [.list .int]=true:=(pre_splitW hpre).1;have hc:l.pre.holds [] {args:=args}=true:=(pre_splitW hpre).2;obtain⟨d,r,rfl,h1,h2⟩:=hasAllW_cons hsh;obtain rfl:=hasAllW_nil h2;obtain⟨xs,rfl,h3⟩:=hasW_list h1;obtain⟨ns,rfl⟩:=items_int h3
 have hlen:ns.length<=n:=by
  unfold OpenLaw.pre at hc
  have h4:(WTm.not (.lt (.lit (.int (n:Int))) (.len (.arg 0)))).holds [] {args:=[.list (ns.map .int)]}=true:=by
   have h4:=(holds_andW hc).1;rw[hn]at h4;exact h4
  have h5:=condW_of h4 (w_not (w_lt w_lit (w_len_list (w_arg rfl))));rw[Yi]at h5;refine Nat.le_of_not_lt fun q=>?_;have q':(n:Int)<((ns.length:Nat):Int):=by omega
  first
   |(rw[Yl q']at h5;exact absurd h5 (by decide))
   |(simp at h5;omega)
 cases hwl with
 |cons w1 w2=>
  cases w2
  cases w1 with
  |list ho hall=>exact⟨_,_,ns,rfl,rfl,ho,Rj ns _ hall,hlen⟩
def RO(l:OpenLaw)(args:List WData):l.row.toRowW.claim.post args (.bool true) args=true:=
 postW_of (r:=l.row.toRowW) (X:=(true==true))
  (show WShape.has [] (.bool true) .bool=true by first|rfl|decide|simp[WShape.has,WShape.arms,WShape.armsAll])
  (show(WTm.eq .res (.lit (.bool true))).value [] {args:=args,res:=some (.bool true),after:=args}=some (.bool (true==true))from w_eq_bool (w_res rfl) w_lit) rfl
def Hf{l:OpenLaw}{n:Nat}{q:Program}{loose:List Str}{XP:(Str->Option Value)->Heap->Prop}{YP:World->Heap->Prop}{d:DefRec}(hn:l.most=some n)(hdf:d.params.defaults=[])
  (call:∀(w:World) (s₀ s₁:Shared) (mg mb:Str->Option Value) (fa:Addr) (o:Obj) (pm cd doc:Value) (a:Addr) (vs:List Value) (ns:List Int),
   Ground q loose [] XP w s₀ mg mb s₁.heap->YP w s₁.heap->
   s₁.heap.get? fa=some o->o.data=.func (docDef d.name d.params d.body d.scope pm cd doc)->s₁.heap.CodeRec cd d.name->mg d.name=some (.ref fa)->
   s₁.heap.get? a=some {cls:=.type "list",data:=.seq vs.toArray}->IntsAre vs ns->ns.length<=n->s₁.gens=#[]->
   codeAny (model l.prog w) callerA (.call (.ref fa) ⟨[.ref a],[]⟩) (fun r s'=>r=.ok (.ret (.bool true))/\OldK s₁.heap s'.heap/\s'.os=s₁.os/\AllBare s'.gens) s₁) :
  WalkO q loose XP YP l.row.toRowW d [] (fun f vs=>PySem.call f vs):=by
 intro w s₀ s₁ mg mb G Y fa o pm cd doc dV kV ho hd hcd hD hmg hg args vals as hpre hlay hrd hwl hlo;obtain rfl:dV=.none:=Dflts.none hD hdf;obtain rfl:kV=.none:=Dflts.noKw hD;obtain⟨a,vs,ns,rfl,rfl,hobj,hints,hlen⟩:=Ox hn hpre hwl;refine enter_call (WJ (call w s₀ s₁ mg mb fa o pm cd doc a vs ns G Y ho (fd_plain hd) hcd hmg hobj hints hlen hg) fun r s' hq=>?_);obtain⟨rfl,h2,h3,h4⟩:=hq;exact⟨.inl ⟨.bool true,.bool true,[],rfl,fun _=>rfl,.bool true,RO l _,fun _=>⟨List.Pairwise.nil,fun _ hm=>(nomatch hm)⟩⟩,h2,h3,h4⟩
end Att
namespace L2
open PySem PySem.Spec PyProof.Rows
def N6:∀{vs:List Value}{ns:List Int},IntsAre vs ns->Vals (ns.map V.int) vs
 |_,_,.nil=>.nil
 |_,_,.cons n t h=>.cons ⟨t,rfl⟩ (N6 h)
def Only(H:Hp):Prop:=∀b,H b=none\/∃o xs,H b=some (.frz o (.lst xs))
def Hj{P:Program}{w:World}{K:Za}{mg mb:Str->Option Value}{CX:CXT}{k:Nat}{fa a:Addr}{fd:FuncData}{x:Str}{sp:Sp}{s₁:Shared}{vs:List Value}{ns:List Int}(KX:K.In s₁.heap)(hns:s₁.heap.Ns mainGlobals mg)(hb:s₁.heap.Ns builtinsNs mb)(hbb:∀x:Str,x≠"__name__"->mb x=bootBuiltins x)(hlim:s₁.heap.NoLimit)(hg:s₁.gens=#[])(ha:s₁.heap.get? a=some {cls:=.type "list",data:=.seq vs.toArray})(hi:IntsAre vs ns)(hl:ns.length<=sizeLine)(hr:Room k callerA)(F:∀base:Heap,K.In base->base.Ns mainGlobals mg->FnOk P w K mg base CX k fa fd [x] sp)(hbind:∀(s:Shared) (u:Value),BindsTo s fd ⟨[u],[]⟩ [(x,u)])(hsp:∀H:Hp,Only H->SqL K H a (ns.map V.int)->sp [.ref a] H (fun v _=>v=.bl true) fun _ _ _=>False)(hCX:∀H e s',CX [] H s₁ (fun _ _ _=>False) e s'->False) :
  codeAny (model P w) callerA (.call (.ref fa) ⟨[.ref a],[]⟩) (fun r s'=>r=.ok (.ret (.bool true))/\OldK s₁.heap s'.heap/\s'.os=s₁.os/\AllBare s'.gens) s₁:=by
 have rv:=N6 hi;have lenV:=hi.length
 have core:∀H:Hp,Only H->SqL K H a (ns.map V.int)->HOk P w H s₁.heap->(∀b,H b≠none->b=a)->(H a≠none->K.lookup a=none)->
   codeAny (model P w) callerA (.call (.ref fa) ⟨[.ref a],[]⟩) (fun r s'=>r=.ok (.ret (.bool true))/\OldK s₁.heap s'.heap/\s'.os=s₁.os/\AllBare s'.gens) s₁:=by
  intro H hO hS hok hA hK;have base_of:∀{b:Addr} {o:Obj},s₁.heap.get? b=some o->H b=none->(hidT s₁.heap H).get? b=some o:=fun e n=>OS e n
  have noA:∀{b:Addr} {o:Obj} {es:Array DictEntry} {ep:Nat},s₁.heap.get? b=some o->o.data=.dict es ep->H b=none:=fun {b o es ep} e d=>by
   cases q:H b with
   |none=>rfl
   |some u=>
    have e':b=a:=hA b (by rw[q];simp);subst e';rw[ha]at e;cases e;have d':Data.seq vs.toArray _=Data.dict es ep:=d;cases d'
  have nsK:∀{b:Addr} {m:Str->Option Value},s₁.heap.Ns b m->(hidT s₁.heap H).Ns b m:=fun {b m} ⟨o,es,ep,e,d,r⟩=>⟨o,es,ep,base_of e (noA e d),d,r⟩
  have hKb:K.In (hidT s₁.heap H):=fun b o e=>base_of (KX b o e) (by
   cases q:H b with
   |none=>rfl
   |some u=>
    have e':b=a:=hA b (by rw[q];simp);subst e';rw[hK (by rw[q];simp)]at e;cases e)
  have hM:Mod K mg (hidT s₁.heap H):=⟨hKb,nsK hns,⟨mb,nsK hb,hbb⟩,let ⟨mc,h1,h2⟩:=hlim;⟨mc,nsK h1,h2⟩⟩;have e0:Env0 P w K mg (hidT s₁.heap H) callerA [] s₁ H:=⟨rfl,hM,fun b o e=>Iq e,W8 (Zas _ _),trivial,fun b hb=>absurd (show b∈([]:List Addr)from hb) (by simp),hok,.of_eq hg⟩
  refine WJ ((F _ hKb (nsK hns)).run callerA [] s₁ H ⟨[.ref a],[]⟩ [.ref a] [.ref a] _ _ hr e0 (hbind s₁ (.ref a)) (.cons rfl .nil) (hsp H hO hS)) fun r s' h=>?_;cases r with
  |error e=>exact(hCX H e s' h).elim
  |ok fl=>
   cases fl with
   |next=>exact False.elim h
   |brk=>exact False.elim h
   |cont=>exact False.elim h
   |ret u=>
    obtain⟨v,H',os,bare,un,hok',r',q⟩:=h;have q':v=.bl true:=q;subst q';obtain rfl:u=Value.bool true:=r';refine⟨rfl,OldK.of_keep fun b o e=>?_,os,bare⟩;cases q:H b with
    |none=>exact un.keep b o e q (by intro z;exact absurd (show b∈([]:List Addr)from z) (by simp)) (by simp)
    |some u=>
     rcases hO b with z|⟨ob,xs,z⟩
     ·rw[q]at z;cases z
     ·have z2:=un.frzs b ob _ z;obtain⟨e1,_⟩:=hok b _ z;obtain⟨e2,_⟩:=hok' b _ z2;rw[e]at e1;cases e1;exact e2
 cases hk:K.lookup a with
 |some o=>
  have e:=KX a o hk;rw[ha]at e;cases e
  refine core (fun _=>none) (fun _=>.inl rfl) (.inr ⟨_,vs.toArray,_,hk,rfl,rfl,rfl,by rw[Yz,lenV];exact hl,by simpa using rv⟩) (fun b u z=>by have z':(none:Option HO)=some u:=z;cases z') (fun b z=>absurd rfl z) fun z=>absurd rfl z
 |none=>
  refine core (fun b=>if b=a then some (.frz {cls:=.type "list",data:=.seq vs.toArray} (.lst (ns.map V.int)))else none) (fun b=>?_) (.inl (.inr ⟨{cls:=.type "list",data:=.seq vs.toArray},Yn rfl⟩)) (fun b u z=>?_) (fun b z=>?_) fun _=>hk
  ·by_cases hb:b=a
   ·exact .inr ⟨_,_,Yn hb⟩
   ·exact .inl (Yo hb)
  ·by_cases hb:b=a
   ·have z':=(Yn hb).symm.trans z;cases z'
    subst hb;exact⟨ha,by rw[Yi];exact hl,vs,_,rv,ha⟩
   ·have z':=(Yo hb).symm.trans z;cases z'
  ·by_cases hb:b=a
   ·exact hb
   ·exact absurd (Yo hb) z
def HD{l:PySem.W.OpenLaw}{n k:Nat}{q:Program}{loose:List Str}{XP:(Str->Option Value)->Heap->Prop}{YP:World->Heap->Prop}{d:DefRec}{K:Params->Za}{CX:World->CXT}{sp:World->Sp}{x:Str}(hn:l.most=some n)(hn2:n<=sizeLine)(hdf:d.params.defaults=[])(hr:Room k callerA)(hY:∀(w:World) (h:Heap),YP w h->(K w.params).In h)
  (F:∀(w:World) (mg:Str->Option Value) (fa:Addr) (h:Heap),(K w.params).In h->h.Ns mainGlobals mg->mg d.name=some (.ref fa)->
   ∃fd:FuncData,(∀(s:Shared) (u:Value),BindsTo s fd ⟨[u],[]⟩ [(x,u)])/\
    ∀base:Heap,(K w.params).In base->base.Ns mainGlobals mg->FnOk l.prog w (K w.params) mg base (CX w) k fa fd [x] (sp w))
  (hsp:∀(w:World) (H:Hp) (a:Addr) (ns:List Int),ns.length<=n->Only H->SqL (K w.params) H a (ns.map V.int)->sp w [.ref a] H (fun v _=>v=.bl true) fun _ _ _=>False)
  (hCX:∀(w:World) (H:Hp) (s:Shared) (e:Value) (s':Shared),CX w [] H s (fun _ _ _=>False) e s'->False) :
  PySem.W.WalkO q loose XP YP l.row.toRowW d [] (fun f vs=>PySem.call f vs):=by
 refine Att.Hf hn hdf fun w s₀ s₁ mg mb fa o pm cd doc a vs ns G Y ho hd hcd hmg hobj hints hlen hg=>?_;have KX:=hY w _ Y;obtain⟨fd,hb,hF⟩:=F w mg fa _ KX G.T.g hmg;exact Hj KX G.T.g G.T.b G.T.builtins G.T.nolimit hg hobj hints (Yy hlen hn2) hr hF hb (fun H hO hS=>hsp w H a ns hlen hO hS) fun H e s'=>hCX w H s₁ e s'
def Iw{l:PySem.W.OpenLaw}{n k:Nat}{q:Program}{loose:List Str}{XP:(Str->Option Value)->Heap->Prop}{YP:World->Heap->Prop}{d:DefRec}{K:Params->Za}{CX:CXT}{sp:Za->Sp}{x:Str}(hn:l.most=some n)(hn2:n<=sizeLine)(hdf:d.params.defaults=[])(hr:Room k callerA)(hY:∀(w:World) (h:Heap),YP w h->(K w.params).In h)
  (F:∀(w:World) (mg:Str->Option Value) (fa:Addr) (h:Heap),(K w.params).In h->h.Ns mainGlobals mg->mg d.name=some (.ref fa)->
   ∃fd:FuncData,(∀(s:Shared) (u:Value),BindsTo s fd ⟨[u],[]⟩ [(x,u)])/\
    ∀base:Heap,(K w.params).In base->base.Ns mainGlobals mg->FnOk l.prog w (K w.params) mg base CX k fa fd [x] (sp (K w.params)))
  (hsp:∀(K:Za) (H:Hp) (a:Addr) (ns:List Int),ns.length<=n->Only H->SqL K H a (ns.map V.int)->sp K [.ref a] H (fun v _=>v=.bl true) fun _ _ _=>False)
  (hCX:∀(H:Hp) (s:Shared) (e:Value) (s':Shared),CX [] H s (fun _ _ _=>False) e s'->False) :
  PySem.W.WalkO q loose XP YP l.row.toRowW d [] (fun f vs=>PySem.call f vs):=
 HD (K:=K) (CX:=fun _=>CX) (sp:=fun w=>sp (K w.params)) hn hn2 hdf hr hY F (fun w H a ns h1 h2 h3=>hsp (K w.params) H a ns h1 h2 h3) fun _ H s e s'=>hCX H s e s'
def inClass(s:Stmt)(j:Nat):Stmt:=match s with
 | .ClassDef _ _ _ body _ _ _ _ _ _ _=>body.getD j (.Pass ⟨0,0,0,0⟩)
 |_=>.Pass ⟨0,0,0,0⟩
def X3(s:Stmt):Arguments:=match s with
 | .FunctionDef _ a _ _ _ _ _ _ _ _=>a
 |_=>{posonlyargs:=[],args:=[],vararg:=none,kwonlyargs:=[],kw_defaults:=[],kwarg:=none,defaults:=[]}
def UA(s:Stmt):List Stmt:=match s with
 | .FunctionDef _ _ b _ _ _ _ _ _ _=>b
 |_=>[]
def JE(s:Stmt):Scope:=match s with
 | .FunctionDef _ _ _ _ _ _ sc _ _ _=>sc
 |_=>{kind:=.function,names:=[],isGenerator:=false,isCoroutine:=false}
abbrev CX0:CXT:=fun _ _ _ _ _ _=>False
abbrev E0:XK:=fun _ _ _=>False
def U7{X:Cx}:X8 CX0 X E0:=fun _ _ _ _ _ _ _ h=>h.elim
structure Fun (K:Za) (x qual:Str) (st:Stmt) (f:Addr) (fd:FuncData):Prop where
 ex:∃(oc:Value) (od:Option Addr) (kV doc pm:Value) (an:Option Addr) (cdv ct:Value) (osl:Array (Option Value)),
  fd=PySem.W.fnOf x qual (X3 st) (UA st) (JE st) .none kV doc pm an cdv ct/\K.lookup f=some ⟨oc,od,.func fd,osl⟩/\PySem.W.codeIn K cdv qual=true
 kp:PySem.W.keepIn K (.ref f)=true
section
variable {P:Program}{w:World}{K:Za}{mg:Str->Option Value}{base:Heap}
def Fun.ok {x qual:Str}{st:Stmt}{f:Addr}{fd:FuncData}{N ps:List Str}{k:Nat}{sp:Sp} (F:Fun K x qual st f fd) (S:FnScope N ps (JE st)) (len:∀vs H Q E,sp vs H Q E->vs.length=ps.length)
  (hbody:∀(cdv:Value) (A:Around) (outer:List Env) (s:Shared) (H:Hp) (vs:List V) (Q:VK) (E:XK),Room k (A.deeper (envOfC qual (JE st) s.heap.objs.size f cdv))->sp vs H Q E->
   ∃t,PSs (cxOf CX0 P w K mg base N qual (JE st) f cdv A outer s H E).nox (UA st) t/\t {nx:=fun _ H'=>Q .non H',rt:=Q} (start N vs) H):FnOk P w K mg base CX0 (k+1) f fd ps sp:=by
 obtain⟨oc,od,kV,doc,pm,an,cdv,ct,osl,rfl,lk,hcd⟩:=F.ex;refine Fs lk hcd S len fun A outer s H vs Q E hr hsp=>?_;obtain⟨t,h,q⟩:=hbody cdv A outer s H vs Q E hr hsp;exact⟨t,h.nox,q⟩
def Fun.binds {x qual:Str}{st:Stmt}{f:Addr}{fd:FuncData}{ps:List Str} (F:Fun K x qual st f fd)
  (h:∀(kV doc pm:Value) (an:Option Addr) (cdv ct:Value) (us:List Value),us.length=ps.length->bindArgs (PySem.W.fnOf x qual (X3 st) (UA st) (JE st) .none kV doc pm an cdv ct) ⟨us,[]⟩=pure (ps.zip us)):Binds K fd ps []:=by
 obtain⟨oc,od,kV,doc,pm,an,cdv,ct,osl,rfl,lk,hcd⟩:=F.ex;exact .all (h kV doc pm an cdv ct)
def NV{x qual:Str}{st:Stmt}{f:Addr}{oc:Value}{od an:Option Addr}{osl:Array (Option Value)}{kV doc pm cdv ct:Value}(l:K.lookup f=some ⟨oc,od,.func (PySem.W.fnOf x qual (X3 st) (UA st) (JE st) .none kV doc pm an cdv ct),osl⟩)(c:PySem.W.codeIn K cdv qual=true)(k:PySem.W.keepIn K (.ref f)=true):Fun K x qual st f (PySem.W.fnOf x qual (X3 st) (UA st) (JE st) .none kV doc pm an cdv ct):=⟨⟨oc,od,kV,doc,pm,an,cdv,ct,osl,rfl,l,c⟩,k⟩
end
def Uq{A:Around}{k:Nat}(hr:Room k A):A.units+1<cLine:=Vi (Nat.add_le_add_left (by decide:1<=64) _) hr.units
def La{n:Nat}(h:n<=1000):n<sizeLine:=Vi h (by decide)
section
variable {X:Cx}
def pv(i:Nat){x:Str}{pos:Pos}(hN:X.N[i]?=some x:=by rfl)(hv:Vis X.env.scope x:=by first|exact Or.inl rfl|exact Or.inr (Or.inl rfl)|exact Or.inr (Or.inr rfl))(hd:(x==("__debug__" : Str))=false:=by decide)(hcd:(x==("__classdict__" : Str))=false:=by decide):PE X (.Name x pos) (tVar i):=Rx hN hv hd hcd
end
def iteF{A B:Prop}(h:B):if false=true then A else B:=by
 rw[Yo Y7];exact h
def iteT{A B:Prop}(h:A):if true=true then A else B:=by
 rw[Yn rfl];exact h
def ite2{c A B:Prop}[Decidable c](h1:c->A)(h2:¬c->B):if c then A else B:=by
 by_cases h:c
 ·rw[Yn h];exact h1 h
 ·rw[Yo h];exact h2 h
def Sl{c A B:Prop}[Decidable c](hc:c)(h:B):if (!decide c)=true then A else B:=by
 rw[Yl hc];exact iteF h
def Same(H H':Hp):Prop:=∀b o,H b=some o->H' b=some o
def Same.refl (H:Hp):Same H H:=fun _ _ h=>h
def Same.trans {H H1 H2:Hp} (a:Same H H1) (b:Same H1 H2):Same H H2:=fun c o h=>b c o (a c o h)
def Same.free {H H':Hp} (e:Same H H') {l:Addr} (h:H' l=Option.none):H l=Option.none:=by
 cases q:H l with
 |none=>rfl
 |some o=>
  rw[e l o q]at h;cases h
def Same.seq {K:Za}{H H':Hp}{a:Addr}{xs:List V} (e:Same H H') (h:SqL K H a xs):SqL K H' a xs:=by
 rcases h with(h|⟨o,h⟩)|h
 ·exact .inl (.inl (e _ _ h))
 ·exact .inl (.inr ⟨o,e _ _ h⟩)
 ·exact .inr h
end L2
set_option maxHeartbeats 4000000
namespace L2
open PySem PySem.Spec PyProof.Rows
section
variable {κ:Type} [DecidableEq κ]
def valV(kvs:List (κ×V))(k:κ):Option V:=(kvs.find? fun kv=>decide (kv.1=k)).map (·.2)
def putK(kvs:List (κ×V))(k:κ)(v:V):List (κ×V):=
 if (kvs.any fun kv=>decide (kv.1=k))=true then kvs.map (fun kv=>if kv.1=k then(kv.1,v)else kv)else kvs++[(k,v)]
def XO{p:κ×V}{r:List (κ×V)}{k:κ}(e:p.1=k):valV (p::r) k=some p.2:=by simp[valV,Qh,e]
def XQ{p:κ×V}{r:List (κ×V)}{k:κ}(e:¬p.1=k):valV (p::r) k=valV r k:=by simp[valV,Qh,e]
def Tv(k:κ):∀kvs:List (κ×V),(kvs.any fun kv=>decide (kv.1=k))=(valV kvs k).isSome
 |[]=>rfl
 |p::r=>by
  rw[Qg];by_cases e:p.1=k
  ·simp only[XO e,Yl e,Bool.true_or,Option.isSome_some]
  ·rw[XQ e,Y0 e,Bool.false_or];exact Tv k r
def DO(k j:κ)(y:V):∀kvs:List (κ×V),valV (kvs.map fun kv=>if kv.1=k then(kv.1,y)else kv) j=(valV kvs j).map fun x=>if j=k then y else x
 |[]=>rfl
 |p::r=>by
  have ih:=DO k j y r;rw[YH];by_cases h:p.1=k
  ·rw[Yn h];by_cases e:p.1=j
   ·rw[XO (p:=(p.1,y)) e,XO e,QV,Yn (e.symm.trans h)]
   ·rw[XQ (p:=(p.1,y)) e,XQ e,ih]
  ·rw[Yo h];by_cases e:p.1=j
   ·rw[XO (p:=p) e,XO e,QV,Yo (fun z=>h (e.trans z))]
   ·rw[XQ (p:=p) e,XQ e,ih]
def Dw(k j:κ)(y:V):∀kvs:List (κ×V),valV kvs k=none->valV (kvs++[(k,y)]) j=if j=k then some y else valV kvs j
 |[],_=>by
  by_cases e:k=j
  ·rw[Yn e.symm];exact XO (p:=(k,y)) e
  ·rw[Yo (fun z=>e z.symm)];exact XQ (p:=(k,y)) e
 |p::r,hn=>by
  rw[W5];have hk:¬p.1=k:=fun z=>by rw[XO z]at hn;cases hn
  rw[XQ hk]at hn;have ih:=Dw k j y r hn;by_cases e:p.1=j
  ·rw[XO e,XO e,Yo (fun z=>hk (e.trans z))]
  ·rw[XQ e,XQ e,ih]
def T9(kvs:List (κ×V))(k j:κ)(y:V):valV (putK kvs k y) j=if j=k then some y else valV kvs j:=by
 unfold putK;by_cases a:(kvs.any fun kv=>decide (kv.1=k))=true
 ·rw[Yn a,DO];rw[Tv]at a;by_cases e:j=k
  ·obtain⟨x,hx⟩:=Option.isSome_iff_exists.mp a;rw[Yn e,e,hx,QV,Yn rfl]
  ·rw[Yo e];cases valV kvs j with
   |none=>rfl
   |some x=>rw[QV,Yo e]
 ·rw[Yo a];refine Dw k j y kvs ?_;rw[Tv]at a;cases q:valV kvs k with
  |none=>rfl
  |some x=>rw[q]at a;exact(a rfl).elim
def TJ(kvs:List (κ×V))(k:κ)(v:V):(putK kvs k v).length<=kvs.length+1:=by
 unfold putK;split
 ·rw[Yi];omega
 ·rw[Yt,Y6,List.length_nil];omega
def Ie{kvs:List (κ×V)}{k:κ}(v:V)(h:valV kvs k=none):putK kvs k v=kvs++[(k,v)]:=by
 unfold putK;rw[Tv,h];exact Yo (by decide)
def RelO.isSome_eq {o:Option V}{u:Option Value} (r:RelO o u):o.isSome=u.isSome:=by
 cases o with
 |none=>cases u with
  |none=>rfl
  |some _=>exact(show False from r).elim
 |some _=>cases u with
  |none=>exact(show False from r).elim
  |some _=>rfl
def KV.val {kvs:List (κ×V)}{vs:List (κ×Value)} (r:KV kvs vs) (k:κ):RelO (valV kvs k) (valueAt vs k):=by
 unfold KV at r
 induction r with
 |nil=>exact True.intro
 | @cons p q ps qs h t ih=>
  obtain⟨h1,h2⟩:=h;by_cases e:p.1=k
  ·have e':q.1=k:=h1.symm.trans e;have b:valueAt (q::qs) k=some q.2:=by simp[valueAt,Qh,e']
   rw[XO e,b];exact h2
  ·have e':¬q.1=k:=fun z=>e (h1.trans z);have b:valueAt (q::qs) k=valueAt qs k:=by simp[valueAt,Qh,e']
   rw[XQ e,b];exact ih
def KV.any {kvs:List (κ×V)}{vs:List (κ×Value)} (r:KV kvs vs) (k:κ):(kvs.any fun kv=>decide (kv.1=k))=vs.any fun kv=>decide (kv.1=k):=by
 unfold KV at r
 induction r with
 |nil=>rfl
 |cons h t ih=>rw[Qg,Qg,ih,h.1]
def KV.repl {kvs:List (κ×V)}{vs:List (κ×Value)} (r:KV kvs vs) (k:κ) {y:V}{u:Value} (ry:RelV y u) :
  KV (kvs.map fun kv=>if kv.1=k then(kv.1,y)else kv) (vs.map fun kv=>if kv.1=k then(kv.1,u)else kv):=by
 unfold KV at r ⊢
 induction r with
 |nil=>exact .nil
 | @cons p q ps qs h t ih=>
  rw[YH,YH];refine .cons ?_ ih;obtain⟨h1,h2⟩:=h;by_cases e:p.1=k
  ·rw[Yn e,Yn (h1.symm.trans e)];exact⟨h1,ry⟩
  ·rw[Yo e,Yo (fun z=>e (h1.trans z))];exact⟨h1,h2⟩
def KV.put {kvs:List (κ×V)}{vs:List (κ×Value)} (r:KV kvs vs) (k:κ) {y:V}{u:Value} (ry:RelV y u):KV (putK kvs k y) (stored vs k u):=by
 unfold putK stored;rw[r.any k];by_cases e:(vs.any fun kv=>decide (kv.1=k))=true
 ·rw[Yn e,Yn e];exact r.repl k ry
 ·rw[Yo e,Yo e];exact Paired.snoc r ⟨rfl,ry⟩
def KV.length {kvs:List (κ×V)}{vs:List (κ×Value)} (r:KV kvs vs):kvs.length=vs.length:=Paired.length r
end
def Tp{P:Program}{w:World}{k:Key}{u:Value}(r:RelV (kV k) u):(X5 P w).is k u=true:=by
 cases k with
 |inl i=>obtain⟨t,e⟩:=(show ∃t,u=Value.int i t from r);subst e;exact Zcv P w i t
 |inr x=>obtain⟨t,e⟩:=(show ∃t,u=Value.str x t from r);subst e;exact Hr P w x t
def AD{P:Program}{w:World}:∀{ks:List Key}{us:List Value},Vals (ks.map kV) us->ItemsAre (X5 P w) ks us
 |[],_,r=>by rw[Vr]at r;cases r;exact .nil
 |k::ks,_,r=>by
  rw[YH]at r;cases r with
  |cons h t=>exact .cons (Tp h) (AD t)
abbrev KT(H:Hp):List (List Key×V)->List (List Key×Addr×Value)->Prop:=Paired fun p q=>p.1=q.1/\H q.2.1=some (.tup (p.1.map kV))/\RelV p.2 q.2.2
def KT.val {H:Hp}{kvs:List (List Key×V)}{xs:List (List Key×Addr×Value)} (r:KT H kvs xs) (k:List Key):RelO (valV kvs k) ((atKey xs k).map (·.2)):=by
 induction r with
 |nil=>exact True.intro
 | @cons p q ps qs h t ih=>
  obtain⟨h1,_,h2⟩:=h;by_cases e:p.1=k
  ·have e':q.1=k:=h1.symm.trans e;have b:atKey (q::qs) k=some q.2:=by simp[atKey,Qh,e']
   rw[XO e,b];exact h2
  ·have e':¬q.1=k:=fun z=>e (h1.trans z);have b:atKey (q::qs) k=atKey qs k:=by simp[atKey,Qh,e']
   rw[XQ e,b];exact ih
def KT.repl {H:Hp}{kvs:List (List Key×V)}{xs:List (List Key×Addr×Value)} (r:KT H kvs xs) (k:List Key) {y:V}{u:Value} (ry:RelV y u) :
  KT H (kvs.map fun kv=>if kv.1=k then(kv.1,y)else kv) (xs.map (putAt k u)):=by
 induction r with
 |nil=>exact .nil
 | @cons p q ps qs h t ih=>
  rw[YH,YH];refine .cons ?_ ih;obtain⟨h1,h2,h3⟩:=h;unfold putAt;by_cases e:p.1=k
  ·rw[Yn e,Yn (h1.symm.trans e)];exact⟨h1,h2,ry⟩
  ·rw[Yo e,Yo (fun z=>e (h1.trans z))];exact⟨h1,h2,h3⟩
def KT.put {H:Hp}{kvs:List (List Key×V)}{xs:List (List Key×Addr×Value)} (r:KT H kvs xs) (k:List Key) {b:Addr}{y:V}{u:Value} (hb:H b=some (.tup (k.map kV))) (ry:RelV y u) :
  KT H (putK kvs k y) (storedH xs k b u):=by
 have e:(kvs.any fun kv=>decide (kv.1=k))=(atKey xs k).isSome:=by
  rw[Tv,(r.val k).isSome_eq,Vo]
 unfold putK storedH;rw[e];by_cases q:(atKey xs k).isSome=true
 ·rw[Yn q,Yn q];exact r.repl k ry
 ·rw[Yo q,Yo q];exact Paired.snoc r ⟨rfl,hb,ry⟩
def KT.keeps {H H':Hp}{kvs:List (List Key×V)}{xs:List (List Key×Addr×Value)} (r:KT H kvs xs) (ht:∀b ys,H b=some (.tup ys)->H' b=some (.tup ys)):KT H' kvs xs:=
 Paired.mapP r fun _ _ z=>⟨z.1,ht _ _ z.2.1,z.2.2⟩
section
variable {P:Program}{w:World}{H:Hp}{h:Heap}{a:Addr}
def Dr{u:HO}(ok:HOk P w H h)(e:Rd H a u):ObjOk P w H h a u:=e.ok ok
def Ng{kvs:List (Key×V)}(ok:HOk P w H h)(e:Rd H a (.dK kvs)):kvs.length<=sizeLine/\(a==sysModules)=false/\∃vs,KV kvs vs/\h.DictOf (X5 P w) a vs:=
 show ObjOk P w H h a (.dK kvs)from Dr ok e
def LJ{kvs:List (Key×V)}(ok:HOk P w H h)(e:H a=some (.dK kvs)):kvs.length<=sizeLine/\(a==sysModules)=false/\∃vs,KV kvs vs/\h.DictOf (X5 P w) a vs:=Ng ok (.inl e)
def PZ{ks:List Key}(ok:HOk P w H h)(e:H a=some (.tup (ks.map kV))):(tupleKind (X5 P w)).is h ks a:=by
 obtain⟨_,its,r,o,h1,h2,n,h3⟩:=(show ObjOk P w H h a (.tup (ks.map kV))from ok a _ e)
 exact⟨o,its.toArray,n,h1,h2,h3,by simpa using AD r⟩
def To{kvs:List (List Key×V)}(ok:HOk P w H h)(e:Rd H a (.dT kvs)):kvs.length<=sizeLine/\(a==sysModules)=false/\
  ∃xs,KT H kvs xs/\h.DictOfH (tupleKind (X5 P w)) a xs:=by
 obtain⟨z,y,xs,r,o,es,ep,h1,h2,h3,h4,h5⟩:=(show ObjOk P w H h a (.dT kvs)from Dr ok e)
 refine⟨z,y,xs,r,o,es,ep,h1,h2,h3,h4,fun x hx=>?_,h5⟩
 have all:∀{l:List (List Key×V)} {m:List (List Key×Addr×Value)},KT H l m->∀x∈m,(tupleKind (X5 P w)).is h x.1 x.2.1:=by
  intro l m q
  induction q with
  |nil=>intro x hx;exact nomatch hx
  | @cons p q ps qs hq t ih=>
   intro x hx;rcases Yx.mp hx with e|hx
   ·subst e;exact PZ ok (by rw[←hq.1];exact hq.2.1)
   ·exact ih x hx
 exact all r x hx
def Dx{kvs:List (List Key×V)}(ok:HOk P w H h)(e:H a=some (.dT kvs)):kvs.length<=sizeLine/\(a==sysModules)=false/\
  ∃xs,KT H kvs xs/\h.DictOfH (tupleKind (X5 P w)) a xs:=To ok (.inl e)
end
def DGet(H:Hp)(a:Addr)(y:V)(r:Option V):Prop:=
 (∃kvs k,Rd H a (.dK kvs)/\y=kV k/\r=valV kvs k)\/∃kvs k b,Rd H a (.dT kvs)/\y=.ref b/\H b=some (.tup (k.map kV))/\r=valV kvs k
def DPut(H:Hp)(a:Addr)(y v:V)(H':Hp):Prop:=
 (∃kvs k,H a=some (.dK kvs)/\y=kV k/\kvs.length<sizeLine/\H'=upd H a (.dK (putK kvs k v)))\/
 ∃kvs k b,H a=some (.dT kvs)/\y=.ref b/\H b=some (.tup (k.map kV))/\kvs.length<sizeLine/\H'=upd H a (.dT (putK kvs k v))
def DGet.k {H:Hp}{a:Addr}{kvs:List (Key×V)}{k:Key} (e:H a=some (.dK kvs)):DGet H a (kV k) (valV kvs k):=.inl ⟨kvs,k,.inl e,rfl,rfl⟩
def DGet.t {H:Hp}{a b:Addr}{kvs:List (List Key×V)}{k:List Key} (e:H a=some (.dT kvs)) (eb:H b=some (.tup (k.map kV))):DGet H a (.ref b) (valV kvs k):=.inr ⟨kvs,k,b,.inl e,rfl,eb,rfl⟩
def DPut.k {H:Hp}{a:Addr}{kvs:List (Key×V)}{k:Key}{v:V} (e:H a=some (.dK kvs)) (hl:kvs.length<sizeLine):DPut H a (kV k) v (upd H a (.dK (putK kvs k v))):=.inl ⟨kvs,k,e,rfl,hl,rfl⟩
def DPut.t {H:Hp}{a b:Addr}{kvs:List (List Key×V)}{k:List Key}{v:V} (e:H a=some (.dT kvs)) (eb:H b=some (.tup (k.map kV))) (hl:kvs.length<sizeLine) :
  DPut H a (.ref b) v (upd H a (.dT (putK kvs k v))):=.inr ⟨kvs,k,b,e,rfl,eb,hl,rfl⟩
section
variable {X:Cx}{pins:List (Addr×Obj)}{σ:St}{H:Hp}{s:Shared}{a:Addr}{y v:V}{u r:Value}{o:Option V}{A:Around}{E:Value->Shared->Prop}
def Inv.big (I:Inv X pins σ H s):sysModules<s.heap.objs.size:=by
 have h:mainGlobals<s.heap.objs.size:=(I.mod.glob.keeps I.bk).lt;exact Qn (by decide) h
def Zdr{Q:Value->Shared->Prop}(hu:A.units+1<cLine)(I:Inv X pins σ H s)(g:DGet H a y (some v))(ry:RelV y u)(h:∀w' s',Inv X pins σ H s'->RelV v w'->Q w' s') :
  wpAny (model X.prog X.w) A (getItem (.ref a) u) Q E s:=by
 rcases g with⟨kvs,k,e,ey,l⟩|⟨kvs,k,b,e,ey,eb,l⟩
 ·subst ey;obtain⟨z,hd,vs,rel,dd⟩:=Ng I.hok e;obtain⟨w',hw,rw'⟩:=RelO.some_of (v:=v) (o:=valueAt vs k) (by rw[l];exact rel.val k);exact wpAny_getItem_of (Tp ry) dd.mapOf hw (h w' _ (I.tok _) rw')
 ·subst ey;cases (show u=Value.ref b from ry)
  obtain⟨z,hd,xs,rel,dd⟩:=To I.hok e;obtain⟨w',hw,rw'⟩:=RelO.some_of (v:=v) (o:=(atKey xs k).map (·.2)) (by rw[l];exact rel.val k);obtain⟨p,hp,hp2⟩:=Option.map_eq_some_iff.mp hw;refine wpAny_getItem_heap (Q4 hu) (PZ I.hok eb) dd hp ?_;rw[hp2];exact h w' _ (I.tok _) rw'
def d_in{Q:Value->Shared->Prop}(hu:A.units+1<cLine)(I:Inv X pins σ H s)(g:DGet H a y o)(ry:RelV y u)(h:∀s',Inv X pins σ H s'->Q (.bool o.isSome) s') :
  wpAny (model X.prog X.w) A (compareOp .In u (.ref a)) Q E s:=by
 rcases g with⟨kvs,k,e,ey,l⟩|⟨kvs,k,b,e,ey,eb,l⟩
 ·subst ey;obtain⟨z,hd,vs,rel,dd⟩:=Ng I.hok e;refine wpAny_in_of (Tp ry) hd dd.mapOf ?_;rw[←(rel.val k).isSome_eq,←l];exact h _ (I.tok _)
 ·subst ey;cases (show u=Value.ref b from ry)
  obtain⟨z,hd,xs,rel,dd⟩:=To I.hok e;refine wpAny_in_heap (Q4 hu) (PZ I.hok eb) hd dd ?_;have q:=(rel.val k).isSome_eq;rw[Vo]at q;rw[←q,←l];exact h _ (I.tok _)
def OO{Q:Value->Shared->Prop}(hu:A.units+1<cLine)(I:Inv X pins σ H s)(g:DGet H a y o)(ry:RelV y u)(h:∀s',Inv X pins σ H s'->Q (.bool (!o.isSome)) s') :
  wpAny (model X.prog X.w) A (compareOp .NotIn u (.ref a)) Q E s:=by
 rcases g with⟨kvs,k,e,ey,l⟩|⟨kvs,k,b,e,ey,eb,l⟩
 ·subst ey;obtain⟨z,hd,vs,rel,dd⟩:=Ng I.hok e;refine wpAny_notIn_of (Tp ry) hd dd.mapOf ?_;rw[←(rel.val k).isSome_eq,←l];exact h _ (I.tok _)
 ·subst ey;cases (show u=Value.ref b from ry)
  obtain⟨z,hd,xs,rel,dd⟩:=To I.hok e;refine wpAny_notIn_heap (Q4 hu) (PZ I.hok eb) hd dd ?_;have q:=(rel.val k).isSome_eq;rw[Vo]at q;rw[←q,←l];exact h _ (I.tok _)
def Sa{h':Heap}{t':Nat}{ob:HO}(I:Inv X pins σ H s)(mu:Mut (H a))(hs:Heap.SameBut a s.heap h')(he:∃q,h'.get? a=some q)(new:ObjOk X.prog X.w (upd H a ob) h' a ob) :
  Inv X pins σ (upd H a ob) {s with heap:=h',toks:=t'}:=
 I.write (x:=a) (e:=a) mu (.inl rfl) (fun b q hb z=>(hs.2 b hb).trans z) he new
def Ll{P:Program}{w:World}{H':Hp}{h':Heap}{kvs:List (Key×V)}{vs:List (Key×Value)}(z:kvs.length<=sizeLine)(hd:(a==sysModules)=false)(rel:KV kvs vs)(dd:h'.DictOf (X5 P w) a vs) :
  ObjOk P w H' h' a (.dK kvs):=⟨z,hd,vs,rel,dd⟩
def Zci{H':Hp}{Q:Unit->Shared->Prop}(hu:A.units+1<cLine)(I:Inv X pins σ H s)(g:DPut H a y v H')(ry:RelV y u)(rv:RelV v r)(h:∀s',Inv X pins σ H' s'->Q () s') :
  wpAny (model X.prog X.w) A (setItem (.ref a) u r) Q E s:=by
 rcases g with⟨kvs,k,e,ey,l,eH⟩|⟨kvs,k,b,e,ey,eb,l,eH⟩
 ·subst ey eH;obtain⟨z,hd,vs,rel,dd⟩:=LJ I.hok e;have hz:vs.length<=sizeLine:=by rw[←rel.length];exact z
  have hl:(putK kvs k v).length<=sizeLine:=by have:=TJ kvs k v;omega
  refine wpAny_setItem_pairs (hsz:=hz) (Tp ry) dd fun h' dd' hs=>h _ ?_;have he:∃q,h'.get? a=some q:=let ⟨q,_,_,hq,_⟩:=dd';⟨q,hq⟩;exact Sa I (by rw[e];exact True.intro) hs he (Ll hl hd (rel.put k rv) dd')
 ·subst ey eH;cases (show u=Value.ref b from ry)
  obtain⟨z,hd,xs,rel,dd⟩:=Dx I.hok e;have hz:xs.length<=sizeLine:=by rw[←Paired.length rel];exact z
  have hl:(putK kvs k v).length<=sizeLine:=by have:=TJ kvs k v;omega
  refine wpAny_setItem_heap (hsz:=hz) (Q4 hu) (PZ I.hok eb) dd fun h' dd' hs=>h _ ?_;obtain⟨q,es,ep,hq,h2,h3,h4,_,h5⟩:=dd';refine Sa I (by rw[e];exact True.intro) hs ⟨q,hq⟩ ⟨hl,hd,_,(rel.put k eb rv).keeps fun c ys ec=>?_,q,es,ep,hq,h2,h3,h4,h5⟩;rw[JI (Fh ec e (fun z=>nomatch z))];exact ec
end
def NoSl(i:Expr):Prop:=∀ov iv,subscripted i false ov iv=operate [ov,iv] (getItem ov iv)
def MR{prog:Program}{w:World}{A:Around}{E:Value->Shared->Prop}{s:Shared}{env:Env}{value slice:Expr}{pos:Pos}{T id:String}{Q:Value->Shared->Prop}(hl:typeLookup (.type T) "__getitem__"=pure (some (.builtin id)))(hs:NoSl slice)(h:wpAny (model prog w) A (eval value env) (fun o s₁=>wpAny (model prog w) A (eval slice env) (fun i s₂=>s₂.TypeIs o T/\wpAny (model prog w) A (getItem o i) Q E s₂) E s₁) E s) :
  wpAny (model prog w) A (eval (.Subscript value slice pos) env) Q E s:=by
 refine Subscript_ (YS h (fun o s₁ h₁=>YS h₁ (fun i s₂ h₂=>?_) fun _ _ x=>x) fun _ _ x=>x);obtain⟨hT,h₂⟩:=h₂;unfold subscriptTail;refine Yk ?_;rw[getitemInPython_of_ne hT.not_modules];refine Yk (wpAny_specialOf hT hl ?_)
 have fin:wpAny (model prog w) A (subscripted slice false o i) (fun r s₃=>wpAny (model prog w) A (letTemporaryGo value o r >>= fun _=>pure r) Q E s₃) E s₂:=by
  rw[hs o i];exact wpAny_operating (YS h₂ (fun r s₃ h₃=>Yk (wpAny_letTemporaryGo (Ys h₃))) fun _ _ x=>x)
 first
  |exact Ys (Yk fin)
  |exact Yk (Ys (Yk fin))
  |exact Yk fin
def Zcd{X:Cx}{pins:List (Addr×Obj)}{σ:St}{H:Hp}{s:Shared}{a:Addr}{y:V}{o:Option V}(I:Inv X pins σ H s)(g:DGet H a y o):s.TypeIs (.ref a) "dict":=by
 rcases g with⟨kvs,k,e,_,_⟩|⟨kvs,k,b,e,_,_,_⟩
 ·obtain⟨_,_,vs,_,dd⟩:=Ng I.hok e;exact dd.typeIs
 ·obtain⟨_,_,xs,_,dd⟩:=To I.hok e;exact dd.typeIs
def DA(td ty:TE):TE:=fun σ H Q=>td σ H fun x H1=>ty σ H1 fun y H2=>∃a v,x=.ref a/\DGet H2 a y (some v)/\Q v H2
def tDIn(ty td:TE):TE:=fun σ H Q=>ty σ H fun y H1=>td σ H1 fun x H2=>∃a o,x=.ref a/\DGet H2 a y o/\Q (.bl o.isSome) H2
def A5(ty td:TE):TE:=fun σ H Q=>ty σ H fun y H1=>td σ H1 fun x H2=>∃a o,x=.ref a/\DGet H2 a y o/\Q (.bl (!o.isSome)) H2
def Ez(td ty tv:TE):TS:=fun D σ H=>tv σ H fun v H1=>td σ H1 fun x H2=>ty σ H2 fun y H3=>∃a H4,x=.ref a/\DPut H3 a y v H4/\D.nx σ H4
section
variable {X:Cx}{o i e value:Expr}{pos pos' tpos:Pos}{td ty tv:TE}
def Pr(hu:X.A.units+1<cLine)(ho:PE X o td)(hi:PE X i ty)(hs:NoSl i):PE X (.Subscript o i pos) (DA td ty):=by
 intro pins s σ H Q I h;refine MR PySem.F.slot_dict_getitem.lookup hs (thn (ho pins s σ H _ I h) fun u s1 ⟨x,H1,I1,rx,q1⟩=>thn (hi pins s1 σ H1 _ I1 q1) fun iv s2 ⟨y,H2,I2,ry,a,v,ex,g,q2⟩=>?_);subst ex;obtain rfl:u=Value.ref a:=rx;exact⟨Zcd I2 g,Zdr hu I2 g ry fun w' s3 I3 rw'=>⟨v,H2,I3,rw',q2⟩⟩
def E2(hu:X.A.units+1<cLine)(hi:PE X i ty)(ho:PE X o td):PC X .In i o (tDIn ty td):=by
 intro pins s σ H Q I h;refine thn (hi pins s σ H _ I h) fun iv s1 ⟨y,H1,I1,ry,q1⟩=>thn (ho pins s1 σ H1 _ I1 q1) fun u s2 ⟨x,H2,I2,rx,a,ov,ex,g,q2⟩=>?_;subst ex;obtain rfl:u=Value.ref a:=rx;exact d_in hu I2 g ry fun s3 I3=>⟨.bl ov.isSome,H2,I3,rfl,q2⟩
def HZ(hu:X.A.units+1<cLine)(hi:PE X i ty)(ho:PE X o td):PC X .NotIn i o (A5 ty td):=by
 intro pins s σ H Q I h;refine thn (hi pins s σ H _ I h) fun iv s1 ⟨y,H1,I1,ry,q1⟩=>thn (ho pins s1 σ H1 _ I1 q1) fun u s2 ⟨x,H2,I2,rx,a,ov,ex,g,q2⟩=>?_;subst ex;obtain rfl:u=Value.ref a:=rx;exact OO hu I2 g ry fun s3 I3=>⟨.bl (!ov.isSome),H2,I3,rfl,q2⟩
def NG(hu:X.A.units+1<cLine)(ho:PE X o td)(hi:PE X i ty)(hv:PE X value tv)(hs:swapsWith value (some (.Subscript o i pos')) pos.line X.env=pure false) :
  PS X (.Assign [.Subscript o i pos'] value pos) (Ez td ty tv):=by
 intro pins s σ H D I h;refine wpAny_Assign_Subscript (thn (hv pins s σ H _ I h) fun r s1 ⟨v,H1,I1,rv,q1⟩=>thn (ho pins s1 σ H1 _ I1 q1) fun u s2 ⟨x,H2,I2,rx,q2⟩=>thn (hi pins s2 σ H2 _ I2 q2) fun iv s3 ⟨y,H3,I3,ry,a,H4,ex,g,q3⟩=>?_) hs;subst ex;obtain rfl:u=Value.ref a:=rx;exact Zci hu I3 g ry rv fun s4 I4=>⟨σ,H4,I4,q3⟩
end
def HR{P:Program}{w:World}{H:Hp}(h:Heap)(hb:sysModules<h.objs.size):ObjOk P w H (h.push {cls:=.type "dict",data:=.dict #[]}) h.objs.size (.dK []):=
 ⟨Wr _,Wt.mpr (Ne.symm (YA hb)),[],.nil,Heap.DictOf.new h⟩
def G4{P:Program}{w:World}{H:Hp}(h:Heap)(hb:sysModules<h.objs.size):ObjOk P w H (h.push {cls:=.type "dict",data:=.dict #[]}) h.objs.size (.dT []):=
 ⟨Wr _,Wt.mpr (Ne.symm (YA hb)),[],.nil,_,#[],0,Y3 _ rfl,⟨rfl,rfl,rfl⟩,rfl,rfl,WZ⟩
def GJ:TE:=fun _ H Q=>∀p,H p=none->Q (.ref p) (upd H p (.dK []))
def Ap:TE:=fun _ H Q=>∀p,H p=none->Q (.ref p) (upd H p (.dT []))
section
variable {X:Cx}{pos:Pos}
def Dn:PE X (.Dict [] [] pos) GJ:=fun pins s σ H Q I h=>
 wpAny_Dict_empty ⟨.ref s.heap.objs.size,_,I.laid (a:=s.heap.objs.size) (o:=.dK []) (t':=s.toks) (fun _ _ q=>Yq _ q) (Yr _) (HR s.heap I.big),rfl,h _ (I.hok.fresh (Yr _))⟩
def Ry:PE X (.Dict [] [] pos) Ap:=fun pins s σ H Q I h=>
 wpAny_Dict_empty ⟨.ref s.heap.objs.size,_,I.laid (a:=s.heap.objs.size) (o:=.dT []) (t':=s.toks) (fun _ _ q=>Yq _ q) (Yr _) (G4 s.heap I.big),rfl,h _ (I.hok.fresh (Yr _))⟩
end
def ET:List (TE×TE)->St->Hp->(List (V×V)->Hp->Prop)->Prop
 |[],_,H,Q=>Q [] H
 |(tk,tv)::r,σ,H,Q=>tk σ H fun x H1=>tv σ H1 fun y H2=>ET r σ H2 fun ps H3=>Q ((x,y)::ps) H3
abbrev VV:List (V×V)->List (Value×Value)->Prop:=Paired fun p q=>RelV p.1 q.1/\RelV p.2 q.2
def PPs(X:Cx)(pos:Pos)(keys:List (Option Expr))(values:List Expr)(trs:List (TE×TE)):Prop:=
 ∀(pins:List (Addr×Obj)) (s:Shared) (σ:St) (H:Hp) (Q:List (V×V)->Hp->Prop),Inv X pins σ H s->ET trs σ H Q->
  wpAny (model X.prog X.w) X.A (evalPairs (pairTrees keys values X.env pos)) (fun vs s'=>∃ps H',Inv X pins σ H' s'/\VV ps vs/\Q ps H') X.xe s
def Za0{X:Cx}{pos:Pos}:PPs X pos [] [] []:=fun pins s σ H Q I h=>pairTrees_nil_walk ⟨[],H,I,.nil,h⟩
def Zat{X:Cx}{pos:Pos}{k v:Expr}{ks:List (Option Expr)}{vs:List Expr}{tk tv:TE}{trs:List (TE×TE)}(hk:PE X k tk)(hv:PE X v tv)(hr:PPs X pos ks vs trs) :
  PPs X pos (some k::ks) (v::vs) ((tk,tv)::trs):=fun pins s σ H Q I h=>
 pairTrees_cons_walk (thn (hk pins s σ H _ I h) fun u s1 ⟨x,H1,I1,rx,q1⟩=>thn (hv pins s1 σ H1 _ I1 q1) fun w2 s2 ⟨y,H2,I2,ry,q2⟩=>
  thn (hr pins s2 σ H2 _ I2 q2) fun ws s3 ⟨ps,H3,I3,rel,q3⟩=>⟨(x,y)::ps,H3,I3,.cons ⟨rx,ry⟩ rel,q3⟩)
end L2
set_option genInjectivity false
set_option genSizeOfSpec false
namespace Own
open PySem PySem.Spec PyProof.Rows L2
structure Def (K:Za) (mg:Str->Option Value) (x:Str) (st:Stmt) (ps:List Str):Prop where
 ex:∃f fd,Fun K x x st f fd/\mg x=some (.ref f)/\Binds K fd ps []
structure Callee (P:Program) (w:World) (K:Za) (mg:Str->Option Value) (base:Heap) (CX:CXT) (k:Nat) (x:Str) (ps:List Str) (sp:Sp):Prop where
 ex:∃f fd,FnOk P w K mg base CX k f fd ps sp/\mg x=some (.ref f)/\PySem.W.keepIn K (.ref f)=true/\(∃o:Obj,K.lookup f=some o/\o.data=.func fd)/\Binds K fd ps []
section
variable {P:Program}{w:World}{K:Za}{mg:Str->Option Value}{base:Heap}
def Callee.at {CX:CXT}{x:Str}{st:Stmt}{f:Addr}{fd:FuncData}{k:Nat}{ps:List Str}{sp:Sp} (C:Callee P w K mg base CX k x ps sp) (hm:mg x=some (.ref f)) (F:Fun K x x st f fd) (_:Def K mg x st ps):FnOk P w K mg base CX k f fd ps sp:=by
 obtain⟨f',fd',Fo,hm',_,hl,_⟩:=C.ex;rw[hm]at hm';cases hm'
 obtain⟨oc,od,kV,doc,pm,an,cdv,ct,osl,_,lk,_⟩:=F.ex;obtain⟨o',lk',hd'⟩:=hl;rw[lk]at lk';cases lk'
 cases hd'
 exact Fo
def Def.ok {x:Str}{st:Stmt}{N ps:List Str}{k:Nat}{sp:Sp} (D:Def K mg x st ps) (S:FnScope N ps (JE st)) (len:∀vs H Q E,sp vs H Q E->vs.length=ps.length)
  (hbody:∀(f:Addr) (cdv:Value) (A:Around) (outer:List Env) (s:Shared) (H:Hp) (vs:List V) (Q:VK) (E:XK),Room k (A.deeper (envOfC x (JE st) s.heap.objs.size f cdv))->sp vs H Q E->
   ∃t,PSs (cxOf CX0 P w K mg base N x (JE st) f cdv A outer s H E).nox (UA st) t/\t {nx:=fun _ H'=>Q .non H',rt:=Q} (start N vs) H):Callee P w K mg base CX0 (k+1) x ps sp:=by
 obtain⟨f,fd,F,hm,hb⟩:=D.ex;refine⟨f,fd,F.ok S len fun cdv A outer s H vs Q E hr h=>hbody f cdv A outer s H vs Q E hr h,hm,F.kp,?_,hb⟩;obtain⟨oc,od,kV,doc,pm,an,cdv,ct,osl,_,lk,_⟩:=F.ex;exact⟨_,lk,rfl⟩
end
section
variable {X:Cx}{CX:CXT}{k:Nat}{ps:List Str}{sp:Sp}{E:XK}{x:Str}{p pos:Pos}{e:Expr}{es:List Expr}{t:TA}
def UK(C:Callee X.prog X.w X.K X.mg X.base CX k x ps sp)(hr:Room k X.A)(hx:X8 CX X E)(ha:PA X (e::es) t)(hg:Gl X x:=by rfl)(hdb:(x==("__debug__" : Str))=false:=by decide)(he:starEach (e::es) X.env=(false,eval e X.env)::starEach es X.env:=by rfl)(hpl:(backTo pos (starEach es X.env)).any (·.1)=false:=by rfl) :
  PE X (.Call (.Name x p) (e::es) [] pos) (KA sp [] E t):=by
 obtain⟨f,fd,F,hm,hk,_,hb⟩:=C.ex;exact Za7 F hr hg hm hk hb .nil hx ha hdb he hpl
def HF:UJ X (.builtin "isinstance") (fun xs H Q=>∃x n t b,xs=[x,.ty n]/\TyOf X.K H x t/\PySem.W.kitOne X.K t (.type n)=some b/\Q (.bl b) H):=by
 intro pins s σ H xs us Q I rv h;obtain⟨x,n,t,b,rfl,ty,e,q⟩:=h;cases rv with
 |cons r rr=>
  cases rr with
  |cons r' rr'=>
   cases rr'
   obtain rfl:_=Value.type n:=r';exact Zdv I r ty e fun tk=>⟨.bl b,H,I.tok tk,rfl,q⟩
def IF:IxR X (fun x y H Q=>rIxL X.K x y H Q\/rIxT X.K x y H Q):=ix_list.or Zbp
end
def A0(t u:TS):TS:=fun D σ H=>∃J:L2.St->Hp->Prop,t {D with nx:=J} σ H/\∀σ' H',J σ' H'->u D σ' H'
def KQ{X:Cx}{st:Stmt}{rest:List Stmt}{t u:TS}(h1:PS X st t)(h2:PSs X rest u):PSs X (st::rest) (A0 t u):=by
 intro pins s σ H D I h;obtain⟨J,h,k⟩:=h;refine wpAny_execs_cons (thn (h1 pins s σ H {D with nx:=J} I h) fun f s1 q=>?_)
 cases f with
 |next=>
  obtain⟨σ',H',I',q⟩:=q;exact h2 pins s1 σ' H' D I' (k σ' H' q)
 |ret v=>exact q
 |brk=>exact q
 |cont=>exact q
def OM(K:Za)(n:String):PySem.W.kitOne K (.type n) (.type n)=some true:=by
 unfold PySem.W.kitOne;rw[Yn (by simp)]
def Pe{α β:Type}{f:α->β}{xs:List α}{i:Int}{v:α}(h:atI xs i=some v):atI (xs.map f) i=some (f v):=by
 unfold atI at h ⊢;rw[Yi];cases e:ixN xs.length i with
 |none=>rw[e]at h;cases h
 |some j=>
  rw[e]at h;have h':xs[j]?=some v:=h;show(xs.map f)[j]?=some (f v);rw[Yw,h'];rfl
def Na{α:Type}{xs:List α}{i:Int}{v:α}(h0:0<=i)(h:xs[i.toNat]?=some v):atI xs i=some v:=by
 have e:((i.toNat:Nat):Int)=i:=by omega
 have:=SE h
 rwa[e]at this
def U0{H:Hp}{a:Addr}{o:HO}(h:H a=none):Same H (upd H a o):=fun b u e=>by rw[JI (U8 e h)];exact e
def Same.upd {H H':Hp}{a:Addr}{o:HO} (S:Same H H') (h:H a=none):Same H (upd H' a o):=fun b u e=>by rw[JI (U8 e h)];exact S b u e
def Same.new {H H':Hp}{a:Addr}{o:HO} (S:Same H H') (h:H' a=none):Same H (L2.upd H' a o):=Own.Same.upd S (S.free h)
def Zdg{env:Env}(names:List (Str×NameKind))(hall:∀x∈names,x.2=.free->∃c,env.cells.lookup x.1=some c):∀cs0:List (Str×Addr),(∀x c,cs0.lookup x=some c->env.cells.lookup x=some c)->
  ∃cl:List (Str×Addr),(forIn names cs0 (fun(x:Str×NameKind) (cs:List (Str×Addr))=>if (x.2 == .free)=true then(do let c ←cellOf env x.1;pure (ForInStep.yield ((x.1,c)::cs)))else pure (ForInStep.yield cs)):Sem (List (Str×Addr)))=pure cl/\
   (∀x c,cl.lookup x=some c->env.cells.lookup x=some c)/\(∀x,(∃c,cs0.lookup x=some c)->∃c,cl.lookup x=some c)/\∀x∈names,x.2=.free->∃c,cl.lookup x.1=some c:=by
 induction names with
 |nil=>
  intro cs0 h0;exact⟨cs0,rfl,h0,fun _ h=>h,fun x hx=>by cases hx⟩
 |cons y r ih=>
  intro cs0 h0;have ih':=ih fun x hx=>hall x (YB _ hx);obtain⟨n,k⟩:=y;by_cases hk:k=.free
  ·subst hk;obtain⟨c,hc⟩:=hall (n,.free) YL rfl
   have h1:∀x d,List.lookup x ((n,c)::cs0)=some d->env.cells.lookup x=some d:=fun x d e=>by
    rw[Wl]at e;by_cases hx:x=n
    ·subst hx;simp at e;subst e;exact hc
    ·have:(x==n)=false:=by simpa using hx
     rw[this]at e;exact h0 x d e
   obtain⟨cl,e,p1,p2,p3⟩:=ih' ((n,c)::cs0) h1;refine⟨cl,?_,p1,fun x hx=>p2 x ?_,fun x hx hf=>?_⟩
   ·rw[QW];show((if (NameKind.free==NameKind.free)=true then(do let c ←cellOf env n;pure (ForInStep.yield ((n,c)::cs0)))else pure (ForInStep.yield cs0)) >>= _)=_
    rw[Yn (show(NameKind.free==NameKind.free)=true by decide)];have ec:cellOf env n=pure c:=by unfold cellOf;rw[hc]
    rw[ec];exact e
   ·rw[Wl];cases (x==n)
    ·exact hx
    ·exact⟨c,rfl⟩
   ·rcases Yx.mp hx with rfl|hx
    ·exact p2 n ⟨c,by simp[Wl]⟩
    ·exact p3 x hx hf
  ·obtain⟨cl,e,p1,p2,p3⟩:=ih' cs0 h0;refine⟨cl,?_,p1,p2,fun x hx hf=>?_⟩
   ·rw[QW];have hb:(k==NameKind.free)=false:=by simpa using hk
    show((if (k==NameKind.free)=true then(do let c ←cellOf env n;pure (ForInStep.yield ((n,c)::cs0)))else pure (ForInStep.yield cs0)) >>= _)=_
    rw[Yo (by rw[hb];decide)];exact e
   ·rcases Yx.mp hx with rfl|hx
    ·exact absurd hf hk
    ·exact p3 x hx hf
def Ov{env:Env}{sc:Scope}(hall:∀x∈sc.names,x.2=.free->∃c,env.cells.lookup x.1=some c) :
  ∃cl:List (Str×Addr),closureFor sc env=pure cl/\(∀x c,cl.lookup x=some c->env.cells.lookup x=some c)/\∀x∈sc.names,x.2=.free->∃c,cl.lookup x.1=some c:=by
 obtain⟨cl,e,p1,_,p3⟩:=Zdg sc.names hall [] (fun x c h=>by cases h);refine⟨cl,?_,p1,p3⟩;unfold closureFor;show((forIn sc.names ([]:List (Str×Addr)) (fun(x:Str×NameKind) (cs:List (Str×Addr))=>if (x.2 == .free)=true then(do let c ←cellOf env x.1;pure (ForInStep.yield ((x.1,c)::cs)))else pure (ForInStep.yield cs)):Sem (List (Str×Addr))) >>= fun cs=>pure cs)=pure cl
 rw[e];rfl
def UM(X:Cx)(N':List Str)(sc:Scope)(cl:List (Str×Addr))(C:Addr)(s₃:Shared)(H₃:Hp)(ex:List Addr):Cx:=
 {X with N:=N',s₀:=s₃,H₀:=H₃,env:=compEnvC sc cl C X.env,outer:=X.stack,ex:=ex,fn:=fun _=>false,pn:=[],xe:=fun _ _=>False}
structure CompOk (X:Cx) (N':List Str) (φ:List (Option Nat)) (sc:Scope):Prop where
 kind:sc.kind=.function
 okind:X.env.scope.kind=.function
 nocell:∀y∈sc.names,y.2≠.cell
 names:∀y∈sc.names,y.2=.local->sc.names.lookup y.1=some .local
 frees:∀y∈sc.names,y.2=.free->X.env.scope.names.lookup y.1=some .cell
 len:φ.length=N'.length
 pick:∀(i:Nat) (x:Str) (j:Nat),N'[i]?=some x->φ[i]?=some (some j)->X.N[j]?=some x/\sc.names.lookup x=some .free
def atStart(φ:List (Option Nat))(σ:L2.St):L2.St:=φ.map fun o=>o.bind fun j=>(σ[j]?).join
def Sub(σ σ':L2.St):Prop:=σ'.length=σ.length/\∀(i:Nat) (v:V),σ[i]?=some (some v)->σ'[i]?=some (some v)
def Sub.refl {σ:L2.St}:Sub σ σ:=⟨rfl,fun _ _ h=>h⟩
def Sub.skip {σ σ':L2.St}{x:Option V} (h:Sub σ σ'):Sub (none::σ) (x::σ'):=by
 refine⟨by simp[h.1],fun i v e=>?_⟩;cases i with
 |zero=>simp at e
 |succ i=>simp at e ⊢;exact h.2 i v e
def DX{env:Env}(hk:env.scope.kind=.function):∀{names:List (Str×NameKind)}{x:Str},names.lookup x=some .free->env.scope.names.lookup x=some .cell->
  (names.map fun(n,k)=>if (k==NameKind.free&&env.scope.kind == .function&&env.kindOf n==some .cell)then(n,NameKind.cell)else(n,k)).lookup x=some .cell
 |[],_,h,_=>by simp at h
 |(n,k)::r,x,h,hc=>by
  have ih:=@DX env hk r x;show List.lookup x ((if (k==NameKind.free&&env.scope.kind == .function&&env.kindOf n==some .cell)=true then(n,NameKind.cell)else(n,k))::_)=_;cases hx:x==n with
  |true=>
   simp only[Wl,hx]at h;cases h
   have e:x=n:=by simpa using hx
   subst e;have hkk:env.kindOf x=some .cell:=hc;rw[hk,hkk];simp[Wl]
  |false=>
   simp only[Wl,hx]at h;by_cases hcc:(k==NameKind.free&&env.scope.kind == .function&&env.kindOf n==some .cell)=true
   ·rw[Yn hcc];simp only[Wl,hx];exact ih h hc
   ·rw[Yo hcc];simp only[Wl,hx];exact ih h hc
def SZ{env:Env}:∀{names:List (Str×NameKind)}{x:Str}{q:NameKind},
  (names.map fun(n,k)=>if (k==NameKind.free&&env.scope.kind == .function&&env.kindOf n==some .cell)then(n,NameKind.cell)else(n,k)).lookup x=some q->∃k,(x,k)∈names/\(q=k\/k=.free)
 |[],_,_,h=>by simp at h
 |(n,k)::r,x,q,h=>by
  have ih:=@SZ env r x q;have h':List.lookup x ((if (k==NameKind.free&&env.scope.kind == .function&&env.kindOf n==some .cell)=true then(n,NameKind.cell)else(n,k))::(r.map fun(n,k)=>if (k==NameKind.free&&env.scope.kind == .function&&env.kindOf n==some .cell)then(n,NameKind.cell)else(n,k)))=some q:=h;cases hx:x==n with
  |true=>
   have e:x=n:=by simpa using hx
   subst e;by_cases hcc:(k==NameKind.free&&env.scope.kind == .function&&env.kindOf x==some .cell)=true
   ·refine⟨k,YL,.inr ?_⟩
    have:=(Y9 _ _▸(Y9 _ _▸hcc).1).1
    simpa using this
   ·rw[Yo hcc]at h';simp[Wl]at h';exact⟨k,YL,.inl h'.symm⟩
  |false=>
   have h2:List.lookup x (r.map fun(n,k)=>if (k==NameKind.free&&env.scope.kind == .function&&env.kindOf n==some .cell)then(n,NameKind.cell)else(n,k))=some q:=by
    by_cases hcc:(k==NameKind.free&&env.scope.kind == .function&&env.kindOf n==some .cell)=true
    ·rw[Yn hcc]at h';simp only[Wl,hx]at h';exact h'
    ·rw[Yo hcc]at h';simp only[Wl,hx]at h';exact h'
   obtain⟨k',hm,hq⟩:=ih h2;exact⟨k',YB _ hm,hq⟩
def Lm{prog:Program}{w:World}{A:Around}{R:Result->Shared->Prop}{s:Shared}{elt target iter:Expr}{ifs:List Expr}{scope:Scope}{pos:Pos}{it acc:Value}{env:Env}(I:Nat->Shared->Prop)
  (turn:∀n s,I n s->wpAny (model prog w) A (pyNext it) (fun r s₁=>match r with
   |none=>R (.ok .next) s₁
   |some v=>wpAny (model prog w) A (letOwnedTupleGo target it v) (fun _ s₁'=>wpAny (model prog w) A (assign target env v) (fun _ s₂=>
     wpAny (model prog w) A (forIn ifs true fun c r=>if r=true then do let ok ←isTrue c env (eval c env);pure (ForInStep.yield ok)else pure (ForInStep.yield r)) (fun ok s₃=>
      if ok=true then wpAny (model prog w) A (eval elt env) (fun x s₄=>
       wpAny (model prog w) A (call (.builtin "list.append") [acc,x]) (fun _ s₅=>∃m,m<n/\I m s₅) (fun _ _=>False) s₄) (fun _ _=>False) s₃
      else ∃m,m<n/\I m s₃) (fun _ _=>False) s₂) (fun _ _=>False) s₁') (fun _ _=>False) s₁) (fun _ _=>False) s)
  (n:Nat) (h:I n s) :
  codeAny (model prog w) A (.compLoop (.ListComp elt [⟨target,iter,ifs,0⟩] scope pos) 0 it acc env) R s:=by
 refine codeAny_loop rfl I (fun n s hI=>?_) n h;show wpAny _ A ((compTurn (.ListComp elt [⟨target,iter,ifs,0⟩] scope pos) 0 it acc env).onRaise (fun x=>do noteFrame x env;theTreesLotGoes x)) _ _ s
 refine wpAny_noted ?_;rw[compTurn_list];refine Yk (Qw (Yk (YS (turn n s hI) (fun r s₁ h₁=>?_) fun _ _ h'=>h'.elim)));cases r with
 |none=>exact Ys h₁
 |some v=>
  refine Yk (YS h₁ (fun _ s₁' h₁'=>?_) fun _ _ h'=>h'.elim);refine Yk (YS h₁' (fun _ s₂ h₂=>Yk (YS h₂ (fun ok s₃ h₃=>?_) fun _ _ h'=>h'.elim)) fun _ _ h'=>h'.elim);cases ok with
  |false=>exact Ys ⟨rfl,h₃⟩
  |true=>
   exact Yk (Yk (YS h₃ (fun x s₄ h₄=>Yk (YS h₄ (fun _ s₅ h₅=>Ys (Ys ⟨rfl,h₅⟩)) fun _ _ h'=>h'.elim)) fun _ _ h'=>h'.elim))
def PIfs(X:Cx)(ifs:List Expr)(t:TT):Prop:=
 ∀(pins:List (Addr×Obj)) (s:Shared) (σ:L2.St) (H:Hp) (Q:Bool->Hp->Prop),Inv X pins σ H s->t σ H Q->
  wpAny (model X.prog X.w) X.A (forIn ifs true fun c r=>if r=true then do let ok ←isTrue c X.env (eval c X.env);pure (ForInStep.yield ok)else pure (ForInStep.yield r)) (TP X pins σ Q) X.xe s
def Gw:TT:=fun _ H Q=>Q true H
def XN{X:Cx}:PIfs X [] Gw:=fun _ _ _ H _ I h=>Ys ⟨H,I,h⟩
def X0{X:Cx}{c:Expr}{t:TT}(hc:PT X c t):PIfs X [c] t:=by
 intro pins s σ H Q I h;rw[QW];refine Yk ?_;rw[Yn rfl];exact Yk (thn (hc pins s σ H Q I h) fun b s1 q=>Ys (Ys q))
def NU(φ:List (Option Nat))(wi:TI)(g:TG)(tc:TT)(te:TE):TE:=fun σ H Q=>wi σ H fun J H1=>∀D,H1 D=none->∃W:Nat->Nat->List V->Hp->Prop,(∃m,W 0 m [] (upd H1 D (.lst [])))/\
 ∀i m ys H2,W i m ys H2->(J.stop i H2/\Q (.ref D) H2)\/(J.go i H2/\∀x H3,J.yld i H2 x H3->g x (atStart φ σ) H3 fun σ2 H4=>Sub (atStart φ σ) σ2/\tc σ2 H4 fun b H5=>
  if b=true then te σ2 H5 fun y H6=>H6 D=some (.lst ys)/\ys.length<sizeLine/\∃m',m'<m/\W (i+1) m' (ys++[y]) (upd H6 D (.lst (ys++[y])))else ∃m',m'<m/\W (i+1) m' ys H5)
def Inv.weak {X:Cx}{pins:List (Addr×Obj)}{σ σ':L2.St}{H:Hp}{s:Shared} (I:Inv X pins σ' H s) (S:Sub σ σ'):Inv X pins σ H s:=
 ⟨I.ok,I.os,I.bare,I.base,let ⟨m,hn,hl⟩:=I.loc;⟨m,hn,fun i x v h1 h2 h3=>hl i x v h1 (S.2 i v h2) h3⟩,I.cell,I.free,I.freeC,I.pin,I.hok,by rw[←S.1];exact I.len⟩
def Eg{φ:List (Option Nat)}{σ:L2.St}{i:Nat}{v:V}(h:(atStart φ σ)[i]?=some (some v)):∃j,φ[i]?=some (some j)/\σ[j]?=some (some v):=by
 unfold atStart at h;rw[Yw]at h;cases e:φ[i]? with
 |none=>rw[e]at h;cases h
 |some o=>
  rw[e]at h;cases o with
  |none=>simp at h
  |some j=>
   refine⟨j,rfl,?_⟩;simp at h;cases e2:σ[j]? with
   |none=>rw[e2]at h;simp at h
   |some w=>rw[e2]at h;simp at h;rw[h]
def CompEnd(X:Cx)(pins:List (Addr×Obj))(σ:L2.St)(Q:VK)(use:Option (Value->Sem Unit))(QQ:Value->Shared->Prop):Prop:=
 ∀(D C:Addr) (H5:Hp) (s6:Shared),Q (.ref D) H5->Inv X pins σ H5 s6->(∃m,s6.heap.Ns C m)->H5 C=none->C≠X.env.locals->X.s₀.heap.objs.size<=C->(∀x c,X.env.cells.lookup x=some c->c≠C)->(∀p∈X.pn++pins,p.1≠C)->C∉X.fs->
  compPost (model X.prog X.w) X.A X.xe use QQ (.ref D) C (.ok .next) s6
def G1{X:Cx}{N':List Str}{φ:List (Option Nat)}{sc:Scope}{elt iter tg:Expr}{ifs:List Expr}{pos pos':Pos}{wi:TI}{g:TG}{tc:TT}{te:TE}{use:Option (Value->Sem Unit)}{QQ:Value->Shared->Prop}(hcalm:X.calm=true)(S:CompOk X N' φ sc)(hi:PI X tg iter wi)(hin:∀cl C s₃ H₃ ex,PG (UM X N' sc cl C s₃ H₃ ex) tg g/\PIfs (UM X N' sc cl C s₃ H₃ ex) ifs tc/\PE (UM X N' sc cl C s₃ H₃ ex) elt te)(hs:∀x,foldedSetIterable iter X.env x=pure x){pins:List (Addr×Obj)}{s:Shared}{σ:L2.St}{H:Hp}{Q:VK}(I:Inv X pins σ H s)(h:NU φ wi g tc te σ H Q)(fin:CompEnd X pins σ Q use QQ) :
  wpAny (model X.prog X.w) X.A (comprehension (.ListComp elt [⟨tg,iter,ifs,0⟩] sc pos) sc X.env pos' (newList []) false (eval iter X.env) use) QQ X.xe s:=by
 obtain⟨cl,hcl,p1,p3⟩:=Ov (env:=X.env) (sc:=sc) fun x hx hf=>I.ok.has x.1 (.inl (S.frees x hx hf));refine wpAny_comprehension_free (use:=use) rfl hs hcl S.kind S.names ?_;refine thn (hi pins s σ H _ I h) fun v s1 h1=>thn h1 fun itv s2 h2=>?_;obtain⟨it,fp,tn,J,H2,e,I2,T,st2,f2,hR⟩:=h2;subst e;refine Wz ?_;have hf:H2 s2.heap.objs.size=none:=I2.hok.fresh (Yr _);obtain⟨W,⟨m0,w0⟩,turn⟩:=hR s2.heap.objs.size hf;generalize eD:s2.heap.objs.size=D at *
 have I3:Inv X pins σ (upd H2 D (.lst [])) {s2 with heap:=s2.heap.push {cls:=.type "list",dict:=none,data:=.seq ([]:List Value).toArray}}:=
  I2.laid (t':=s2.toks) (fun b u e=>Yq _ e) (W8 eD) ⟨Wr _,[],0,.nil,by rw[←eD];exact Y3 _ rfl⟩
 have st3:tn 0 (s2.heap.push {cls:=.type "list",dict:=none,data:=.seq ([]:List Value).toArray}):=T.keep _ _ _ st2 fun b _ o e=>Yq _ e
 have hfpD:∀b∈fp,b≠D:=fun b hb z=>by
  obtain⟨o,ho,_⟩:=T.obj _ _ st2 b hb
  have:=Yu ho
  rw[z,←eD]at this;exact Wq _ this
 have f3:∀b∈fp,FpOk X pins (upd H2 D (.lst [])) b:=fun b hb=>⟨by rw[JI (hfpD b hb)];exact(f2 b hb).1,(f2 b hb).2⟩;generalize es3:({s2 with heap:=s2.heap.push {cls:=.type "list",dict:=none,data:=.seq ([]:List Value).toArray}}:Shared)=s3 at *
 have st3':tn 0 s3.heap:=by rw[←es3];exact st3
 generalize eH3:upd H2 D (.lst [])=H3 at *;refine wpAny_newFunctionEnv S.nocell (by intro y hy;simp at hy) (fun h₁ hns₁ hsb₁=>?_) S.kind;have hh3:s3.heap=s2.heap.push {cls:=.type "list",dict:=none,data:=.seq ([]:List Value).toArray}:=by rw[←es3]
 rw[hh3]at hns₁ hsb₁;rw[←hh3]at hns₁ hsb₁;have old:∀b o,s3.heap.get? b=some o->h₁.get? b=some o:=fun b o e=>hsb₁.extBut b o (YA (Yu e)) (Yq _ e)
 have hC0:s3.heap.get? s3.heap.objs.size=none:=by
  cases e:s3.heap.get? s3.heap.objs.size with
  |none=>rfl
  |some o=>exact absurd (Yu e) (Wq _)
 generalize eC:s3.heap.objs.size=C at *;have hH3C:H3 C=none:=I3.hok.fresh (W8 eC)
 have OK:(UM X N' sc cl C s3 H3 fp).Ok:=by
  refine⟨I.ok.mod,?_,I.ok.glob,I.ok.blt,W8 eC,fun x y c h1 h2=>I.ok.inj x y c (p1 x c h1) (p1 y c h2),?_,(fun x c hx=>by cases hx),I.ok.hd,I.ok.frames,.inl rfl,?_,I3.bs,Yy I.ok.bsz I3.sz,?_,?_,I3.stack,I3.stkFree⟩
  ·exact S.kind
  ·intro x hx;have hx':(∃k,(x,k)∈sc.names/\(NameKind.cell=k\/k=.free))\/∃k,(x,k)∈sc.names/\(NameKind.free=k\/k=.free):=hx.imp SZ SZ
   have hfr:(x,NameKind.free)∈sc.names:=by
    rcases hx' with⟨k,hm,rfl|rfl⟩|⟨k,hm,rfl|rfl⟩
    ·exact absurd rfl (S.nocell _ hm)
    ·exact hm
    ·exact hm
    ·exact hm
   exact p3 _ hfr rfl
  ·intro b hb;refine⟨fun z=>?_,fun x c hx=>(f3 b hb).2.2.2.2.1 x c (p1 x c hx)⟩;obtain⟨o,ho,_⟩:=T.obj _ _ st3' b hb;have z':b=C:=z;rw[z',hC0]at ho;cases ho
  ·intro b o hb hx;obtain⟨_,_,_,q,_,_⟩:=f3 b hx;rcases q with q|q
   ·exact I.ok.noex b o hb q
   ·have:=YK (Yu hb) (Yy I.ok.bsz q)
    exact Wq _ this
  ·intro b hb hz;rcases Yx.mp (I.stkSub b hz)with q|q
   ·exact(f3 b hb).2.1 q
   ·exact(f3 b hb).2.2.1 q
 have hlen0:(atStart φ σ).length=N'.length:=by unfold atStart;rw[Yi];exact S.len
 have I4:Inv (UM X N' sc cl C s3 H3 fp) [] (atStart φ σ) H3 {s3 with heap:=h₁,toks:=s3.toks+([]:List (Str×Value)).length}:=by
  refine⟨OK,rfl,I3.bare,Un.kept old,⟨_,hns₁,fun i x v h1 h2 h3=>?_⟩,fun x c hx=>?_,hH3C,fun x c hx=>I3.freeC x c (p1 x c hx),fun p hp=>?_,I3.hok.kept old,hlen0⟩
  ·obtain⟨j,hj,hv⟩:=Eg h2;obtain⟨hN,hfr⟩:=S.pick i x j h1 hj;obtain⟨m,_,hl⟩:=I3.loc;have hm:(x,NameKind.free)∈sc.names:=WD hfr;have hcell:=S.frees _ hm rfl;obtain⟨u,ru,lk⟩:=hl j x v hN hv (.inr (.inl hcell));refine⟨u,ru,.inr ⟨.inl (DX S.okind hfr hcell),?_⟩⟩;obtain⟨c,hc⟩:=p3 _ hm rfl;rcases lk with⟨hk,_⟩|⟨_,c',hc',hcl'⟩
   ·have hk':X.env.scope.names.lookup x=some .local:=hk;rw[hcell]at hk';cases hk'
   ·have e:=p1 _ _ hc;rw[hc']at e;cases e
    obtain⟨o,ho,hd⟩:=hcl';exact⟨_,hc,o,old _ o ho,hd⟩
  ·obtain⟨v,hv⟩:=I3.cell x c (p1 x c hx);obtain⟨o,ho,hd⟩:=hv;exact⟨v,o,old _ o ho,hd⟩
  ·exact absurd hp (by simp[UM])
 have st4:tn 0 h₁:=T.keep _ _ _ st3' fun b _ o e=>old b o e
 have stat:∀{H':Hp},(∀b∈fp,H' b=none)->∀b∈fp,FpOk (UM X N' sc cl C s3 H3 fp) [] H' b:=fun hn b hb=>
  ⟨hn b hb,(OK.exf b hb).1,OK.exfs b hb,.inl hb,(OK.exf b hb).2,fun p hp=>absurd hp (by simp[UM])⟩
 obtain⟨hPG,hPI,hPE⟩:=hin cl C s3 H3 fp
 have loop:codeAny (model X.prog X.w) X.A (.compLoop (.ListComp elt [⟨tg,iter,ifs,0⟩] sc pos) 0 (.ref it) (.ref D) (compEnvC sc cl C X.env)) (compPost (model X.prog X.w) X.A X.xe use QQ (.ref D) C) {s3 with heap:=h₁,toks:=s3.toks+([]:List (Str×Value)).length}:=by
  refine Lm (fun n s'=>∃i ys σ' H',Inv (UM X N' sc cl C s3 H3 fp) [] σ' H' s'/\Sub (atStart φ σ) σ'/\tn i s'.heap/\(∀b∈fp,H' b=none)/\W i n ys H') ?_ m0 ⟨0,[],_,_,I4,Sub.refl,st4,fun b hb=>(f3 b hb).1,w0⟩;rintro n s5 ⟨i,ys,σ5,H5,I5,sub5,st5,fr5,w5⟩;have I5':=Own.Inv.weak I5 sub5;rcases turn i n ys H5 w5 with⟨stop,qn⟩|⟨go,step⟩
  ·refine thn (T.done (UM X N' sc cl C s3 H3 fp) rfl rfl rfl hcalm i [] s5 _ H5 _ I5' (stat fr5) st5 stop) fun r s6 ⟨hr,I6⟩=>?_;subst hr;obtain⟨m,hn,_⟩:=I6.loc;obtain⟨hh,gg,dd,tt,oo⟩:=s6;obtain rfl:oo=s3.os:=I6.os;have R:Inv X pins σ H5 {s3 with heap:=hh,gens:=gg,drawn:=dd,toks:=tt}:=I3.call (ch:=fp) (h':=hh) (g':=gg) (d':=dd) (t':=tt) I6.base I6.hok I6.bare fun b hb=>⟨(f3 b hb).2.2.2.1,(f3 b hb).2.1,(f3 b hb).2.2.2.2.1,(f3 b hb).2.2.2.2.2⟩
   have hC3:s3.heap.objs.size<=C:=W8 eC;obtain⟨q0,q1,q2,q3,q4,q5⟩:=I3.fpOk (b:=C) (H':=H3) hC3 hH3C;refine fin D C H5 _ qn R ⟨m,hn⟩ I6.free q1 (Yy I3.sz hC3) q4 q5 q2
  ·refine thn (T.item (UM X N' sc cl C s3 H3 fp) rfl rfl rfl hcalm i [] s5 _ H5 _ I5' (stat fr5) st5 go) fun r s6 ⟨u,hr,h6⟩=>?_;subst hr;refine thn h6 fun _ s7 ⟨x,H7,I7,r7,y7,st7,fr7⟩=>?_;have I7':=I7.pinned (stat fr7) (T.obj _ _ st7);refine thn (hPG _ s7 _ H7 x u _ I7' r7 (step x H7 y7)) fun _ s8 ⟨σ8,H8,I8,sub8,q8⟩=>?_;refine thn (hPI _ s8 σ8 H8 _ I8 q8) fun ok s9 ⟨H9,I9,q9⟩=>?_
   have again:∀{s10:Shared} {H10:Hp} {ys':List V} {m':Nat},Inv (UM X N' sc cl C s3 H3 fp) ([]++TM fp s7.heap) σ8 H10 s10->W (i+1) m' ys' H10->∃i ys σ' H',Inv (UM X N' sc cl C s3 H3 fp) [] σ' H' s10/\Sub (atStart φ σ) σ'/\tn i s10.heap/\(∀b∈fp,H' b=none)/\W i m' ys H':=fun {s10 H10 ys' m'} J10 w10=>by
    refine⟨i+1,ys',σ8,H10,J10.unpinned,sub8,T.keep _ _ _ st7 fun b hb o e=>(J10.pin (b,o) (YF _ (YF _ (NF hb e)))).1,fun b hb=>?_,w10⟩;obtain⟨o,e,d⟩:=T.obj _ _ st7 b hb;exact(J10.pin (b,o) (YF _ (YF _ (NF hb e)))).2.1
   cases ok with
   |false=>
    obtain⟨m',hm,w'⟩:=q9;exact⟨m',hm,again I9 w'⟩
   |true=>
    refine thn (hPE _ s9 σ8 H9 _ I9 q9) fun xv s10 ⟨y,H10,I10,r10,hD,hl,m',hm,w'⟩=>?_;refine thn (Ko _ s10 σ8 H10 (.ref D) [y] (.ref D) [xv] (fun _ H11=>H11=upd H10 D (.lst (ys++[y]))) I10 rfl (.cons r10 .nil) ⟨D,ys,y,rfl,rfl,hD,hl,rfl⟩) fun _ s11 ⟨_,H11,I11,_,e11⟩=>?_;subst e11;exact⟨m',hm,again I11 w'⟩
 refine codeAny_compStart_list loop (T.self _ 0 _ _ _ st4 loop)
def UR{X:Cx}{N':List Str}{φ:List (Option Nat)}{sc:Scope}{elt iter tg:Expr}{ifs:List Expr}{pos:Pos}{wi:TI}{g:TG}{tc:TT}{te:TE}(hcalm:X.calm=true)(S:CompOk X N' φ sc)(hi:PI X tg iter wi)(hin:∀cl C s₃ H₃ ex,PG (UM X N' sc cl C s₃ H₃ ex) tg g/\PIfs (UM X N' sc cl C s₃ H₃ ex) ifs tc/\PE (UM X N' sc cl C s₃ H₃ ex) elt te)(hs:∀x,foldedSetIterable iter X.env x=pure x:=by intro _;rfl):PE X (.ListComp elt [⟨tg,iter,ifs,0⟩] sc pos) (NU φ wi g tc te):=by
 intro pins s σ H Q I h;rw[eval_ListComp];refine G1 (use:=none) hcalm S hi hin hs I h fun D C H5 s6 q R hm c0 c1 c2 c3 c4 c5=>?_;obtain⟨m,hn⟩:=hm;exact⟨m,hn,fun h' sb=>⟨.ref D,H5,R.turned (it:=C) (t':=s6.toks) (fun b o hb e=>sb.extBut b o hb e) c0 c1 (.inr c2) c3 c4,rfl,q⟩⟩
def Pk{X:Cx}{N':List Str}{φ:List (Option Nat)}{sc:Scope}{elt iter tg:Expr}{ifs:List Expr}{pos spos py:Pos}{wi:TI}{g:TG}{tc:TT}{te:TE}{i:Nat}{y:Str}(hN:X.N.Nodup)(hy:X.N[i]?=some y)(hl:X.env.scope.names.lookup y=some .local)(hcalm:X.calm=true)(S:CompOk X N' φ sc)(hi:PI X tg iter wi)(hin:∀cl C s₃ H₃ ex,PG (UM X N' sc cl C s₃ H₃ ex) tg g/\PIfs (UM X N' sc cl C s₃ H₃ ex) ifs tc/\PE (UM X N' sc cl C s₃ H₃ ex) elt te)(hs:∀x,foldedSetIterable iter X.env x=pure x:=by intro _;rfl)(hsw:swapsWith (.ListComp elt [⟨tg,iter,ifs,0⟩] sc pos) (some (.Name y py)) spos.line X.env=pure true:=by rfl) :
  PS X (.Assign [.Name y py] (.ListComp elt [⟨tg,iter,ifs,0⟩] sc pos) spos) (tAsg (NU φ wi g tc te) (P8 i)):=by
 intro pins s σ H D0 I h;rw[exec_Assign_Name_used _ _ _ _ hsw];refine Yk (Qw (Yk ?_));show wpAny _ X.A (do let _ ←comprehension (.ListComp elt [⟨tg,iter,ifs,0⟩] sc pos) sc X.env _ (newList []) false (eval iter X.env) (some (assign (.Name y py) X.env))) _ _ s
 refine Yk (YS (G1 (use:=some (assign (.Name y py) X.env)) (QQ:=fun _ s'=>SP X pins D0 .next s') hcalm S hi hin hs I h fun D C H5 s6 q R hm c0 c1 c2 c3 c4 c5=>?_) (fun _ s' z=>Ys (Ys z)) fun _ _ e=>e);obtain⟨m,oC,es,ep,hoC,hdC,rC⟩:=hm
 have R2:Inv X (pins++[(C,oC)]) σ H5 s6:=R.pins_of fun p hp=>(Y4.mp hp).elim (fun z=>R.pin p (YF _ z)) fun z=>by
  rw[Ym.mp z];exact⟨hoC,c0,c1,c5,fun v e=>by rw[hdC]at e;cases e⟩
 show wpAny _ X.A (assign (.Name y py) X.env (.ref D)) _ _ _;refine wpAny_assign_Name (Nh R2 hN hy (.inl hl) (v:=.ref D) (u:=.ref D) rfl (fun s7 I7=>?_) (.inr hl));have hC7:=(I7.pin (C,oC) (YF _ (YF _ (Ym.mpr rfl)))).1;refine⟨m,⟨oC,es,ep,hC7,hdC,rC⟩,fun h' sb=>?_⟩;have I8:Inv X pins (σ.set i (some (.ref D))) H5 s7:=I7.unpinned;exact⟨_,H5,I8.turned (it:=C) (t':=s7.toks) (fun b o hb e=>sb.extBut b o hb e) c0 c1 (.inr c2) c3 c4,q⟩
def G2(sc osc:Scope)(N N':List Str)(φ:List (Option Nat)):Bool:=
 sc.kind == .function&&osc.kind == .function&&(sc.names.all fun y=>y.2 != .cell&&(y.2 != .local || sc.names.lookup y.1==some .local)&&(y.2 != .free || osc.names.lookup y.1==some .cell)) &&
  φ.length==N'.length&&((N'.zip φ).all fun p=>match p.2 with|none=>true|some j=>N[j]? == some p.1&&sc.names.lookup p.1==some .free)
def CompOk.of {X:Cx}{N':List Str}{φ:List (Option Nat)}{sc:Scope} (h:G2 sc X.env.scope X.N N' φ=true):CompOk X N' φ sc:=by
 unfold G2 at h;simp only[Y9,beq_iff_eq,Qd,Bool.or_eq_true,bne_iff_ne,ne_eq]at h;obtain⟨⟨⟨⟨h1,h2⟩,h3⟩,h4⟩,h5⟩:=h;refine⟨h1,h2,fun y hy=>(h3 y hy).1.1,fun y hy hl=>?_,fun y hy hf=>?_,h4,fun i x j hi hj=>?_⟩
 ·rcases(h3 y hy).1.2 with z|z
  ·exact absurd hl z
  ·exact z
 ·rcases(h3 y hy).2 with z|z
  ·exact absurd hf z
  ·exact z
 ·have hz:(N'.zip φ)[i]?=some (x,some j):=by rw[List.getElem?_zip_eq_some];exact⟨hi,hj⟩
  have:=h5 _ (Y8 hz)
  simpa using this
end Own
namespace SetR
open PySem PySem.Spec PyProof.Rows L2
def Ris(xs:Array Nat):Prop:=∀i j,i<j->j<xs.size->xs.getD i 0<xs.getD j 0
def DS{xs:Array Nat}{i a b:Nat}(h:i<xs.size):xs.getD i a=xs.getD i b:=by simp[Array.getD,h]
def Ro{xs:Array Nat}(R:Ris xs)(j:Nat):∀(fuel lo hi:Nat),hi-lo<=fuel->lo<=hi->hi<=xs.size->(∀k,k<lo->xs.getD k 0<j)->(∀k,hi<=k->k<xs.size->j<=xs.getD k 0)->
  let r:=SetTable.below.go xs j fuel lo hi
  r<=xs.size/\(∀k,k<r->xs.getD k 0<j)/\∀k,r<=k->k<xs.size->j<=xs.getD k 0:=by
 intro fuel
 induction fuel with
 |zero=>
  intro lo hi h1 h2 h3 h4 h5;have e:lo=hi:=by omega
  subst e;exact⟨h3,h4,h5⟩
 |succ fuel ih=>
  intro lo hi h1 h2 h3 h4 h5;show(let r:=(if lo<hi then(if xs.getD ((lo+hi) / 2) j<j then SetTable.below.go xs j fuel ((lo+hi) / 2+1) hi else SetTable.below.go xs j fuel lo ((lo+hi) / 2))else lo);r<=xs.size/\(∀k,k<r->xs.getD k 0<j)/\∀k,r<=k->k<xs.size->j<=xs.getD k 0);by_cases hl:lo<hi
  ·rw[Yn hl];have hm:(lo+hi) / 2<xs.size:=by omega
   by_cases hc:xs.getD ((lo+hi) / 2) j<j
   ·rw[Yn hc];refine ih _ _ (by omega) (by omega) h3 (fun k hk=>?_) h5;rw[DS (b:=0) hm]at hc;by_cases e:k=(lo+hi) / 2
    ·rw[e];exact hc
    ·exact Qn (R k _ (by omega) hm) hc
   ·rw[Yo hc];refine ih _ _ (by omega) (by omega) (by omega) h4 (fun k hk hk2=>?_);rw[DS (b:=0) hm]at hc;by_cases e:k=(lo+hi) / 2
    ·rw[e];omega
    ·have:=R _ k (show(lo+hi) / 2<k by omega) hk2
     omega
  ·rw[Yo hl];have e:lo=hi:=by omega
   subst e;exact⟨h3,h4,h5⟩
def EK{xs:Array Nat}(R:Ris xs)(j:Nat):SetTable.below xs j<=xs.size/\(∀k,k<SetTable.below xs j->xs.getD k 0<j)/\∀k,SetTable.below xs j<=k->k<xs.size->j<=xs.getD k 0:=
 Ro R j xs.size 0 xs.size (by omega) (by omega) (by omega) (fun k hk=>by omega) (fun k h1 h2=>by omega)
def HM{xs:Array Nat}(R:Ris xs){i:Nat}(hi:i<=xs.size){slot:Nat}(h1:∀k,k<i->xs.getD k 0<slot)(h2:∀k,i<=k->k<xs.size->slot<=xs.getD k 0):SetTable.below xs slot=i:=by
 obtain⟨a,b,c⟩:=EK R slot;rcases Nat.lt_trichotomy (SetTable.below xs slot) i with h|h|h
 ·have:=c _ (Yr _) (by omega)
  have:=h1 _ h
  omega
 ·exact h
 ·have:=b i h
  have:=h2 i (Yr _) (by omega)
  omega
def Rise(xs:Array Nat):Prop:=xs.toList.Pairwise (· < ·)
def Rise.ris {xs:Array Nat} (h:Rise xs):Ris xs:=by
 intro i j hij hj;have hi:i<xs.size:=by omega
 have:=(YZ.mp h) i j (by simpa using hi) (by simpa using hj) hij
 simpa [Array.getD,hi,hj]using this
def IU{xs:Array Nat}{j:Nat}(h:Rise xs)(hn:xs[SetTable.below xs j]?≠some j):Rise (SetTable.insertAt xs (SetTable.below xs j) j):=by
 obtain⟨a,b,c⟩:=EK h.ris j;generalize SetTable.below xs j=p at *;unfold Rise;rw[SetTable.toList_insertAt];refine Qu.mpr ⟨h.sublist (QE _ _),WK.mpr ⟨fun y hy=>?_,h.sublist (List.drop_sublist _ _)⟩,fun x hx y hy=>?_⟩
 ·obtain⟨k,hk,e⟩:=List.mem_drop_iff_getElem.mp hy
  have hk':p+k<xs.size:=by
   simp only[YY]at hk;omega
  have h1:=c (p+k) (by omega) hk';have e':xs.getD (p+k) 0=y:=by simpa [Array.getD,hk']using e
  rw[e']at h1;rcases Nat.lt_or_ge j y with h2|h2
  ·exact h2
  ·have ey:y=j:=by omega
   exfalso;rcases Nat.eq_zero_or_pos k with rfl|hk0
   ·apply hn;rw[W7 (by omega)]
    have:xs[p]=y:=by simpa using e
    rw[this,ey]
   ·have h3:=h.ris p (p+k) (by omega) hk';have h4:=c p (Yr _) (by omega);omega
 ·have hx':x<j:=by
   obtain⟨k,hk,e⟩:=List.mem_take_iff_getElem.mp hx;have hk1:k<p:=by omega
   have hk2:k<xs.size:=by omega
   have:=b k hk1
   have e':xs.getD k 0=x:=by simpa [Array.getD,hk2]using e
   omega
  rcases Yx.mp hy with rfl|hy
  ·exact hx'
  ·obtain⟨k,hk,e⟩:=List.mem_drop_iff_getElem.mp hy
   have hk':p+k<xs.size:=by
    simp only[YY]at hk;omega
   have h1:=c (p+k) (by omega) hk';have e':xs.getD (p+k) 0=y:=by simpa [Array.getD,hk']using e
   omega
structure Tb (b:Bool) (t:SetTable):Prop where
 led:t.led=b
 dum:t.dummies=#[]
 ris:Rise t.place
def Gi(j:Nat):SetTable.has #[] j=false:=by
 unfold SetTable.has;simp
def Tb.fresh (b:Bool):Tb b (.fresh 0 0 b):=⟨rfl,rfl,List.Pairwise.nil⟩
def Mj(n:Nat):Rise (Array.range n):=by
 unfold Rise;rw[Array.toList_range];exact List.pairwise_lt_range
def Tb.stand {b:Bool}{t:SetTable} (h:Tb b t) (n:Nat):Tb b (t.standIn n):=⟨h.led,rfl,Mj n⟩
def Tb.orStand {b:Bool}{t:SetTable} (h:Tb b t) (n:Nat):Tb b (t.orStandIn n):=by
 unfold SetTable.orStandIn;split
 ·exact h
 ·exact h.stand n
def Tb.plainOff {b:Bool}{t:SetTable} (h:Tb b t):Tb b {t with plain:=false}:=⟨h.led,h.dum,h.ris⟩
def Tb.put {b:Bool}{t:SetTable} (h:Tb b t) {j:Nat} (hn:t.place[SetTable.below t.place j]?≠some j):Tb b (t.put j).1:=by
 refine⟨h.led,?_,IU h.ris hn⟩;show(if SetTable.has t.dummies j=true then _ else t.dummies)=#[];rw[h.dum,Gi];rfl
def Hh{b:Bool}{t:SetTable}(h:Tb b t)(f:Nat->Int)(z:Int):∀(fuel:Nat) (p:SetTable.Probe) (j:Nat) (d:Option Nat),p.dummy=none->SetTable.probe.go t f z fuel p=some (.empty j d)->d=none/\t.place[SetTable.below t.place j]?≠some j:=by
 intro fuel
 induction fuel with
 |zero=>intro p j d _ e;cases e
 |succ fuel ih=>
  intro p j d hp e;unfold SetTable.probe.go at e
  have hadv:∀q:SetTable.Probe,q.dummy=none->(t.advance q).dummy=none:=fun q hq=>by
   unfold SetTable.advance;split
   ·exact hq
   ·exact hq
  cases es:t.slot p.j with
  |empty=>
   rw[es]at e;have e':=Yv e;injection e' with e1 e2;subst e1;refine⟨e2.symm.trans hp,fun hz=>?_⟩;unfold SetTable.slot at es
   dsimp only at es
   rw[hz]at es;simp at es
  |dummy=>
   exfalso;unfold SetTable.slot at es
   dsimp only at es
   split at es
   ·cases es
   ·rw[h.dum,Gi]at es;simp at es
  |live i=>
   rw[es]at e
   dsimp only at e
   split at e
   ·cases e
   ·exact ih _ j d (hadv p hp) e
def Tb.layNew {b:Bool}{t:SetTable} (h:Tb b t) (es:Array (Int×Value)) (z:Int) (x:Value):Tb b (PySem.layNew t es z x).2.1:=by
 unfold PySem.layNew;split
 ·rename_i slot wasDummy e
  have hn:t.place[SetTable.below t.place slot]?≠some slot:=by
   unfold SetTable.freeSlot SetTable.probe at e;split at e
   ·rename_i j dummy e';obtain⟨h1,h2⟩:=Hh h _ _ _ _ _ _ rfl e';subst h1
    have:=Yv e
    have hj:j=slot:=YQ Prod.fst this;rw[←hj];exact h2
   ·cases e
  exact(h.put hn).orStand _
 ·exact h.stand _
def RZ(n:Nat)(f:Nat->Option Nat):((List.range n).filterMap fun j=>(f j).map (j,·)).Pairwise (fun a b=>a.1<b.1):=by
 refine List.Pairwise.filterMap _ ?_ List.pairwise_lt_range;intro a a' haa b hb b' hb';cases e:f a with
 |none=>rw[e]at hb;cases hb
 |some v=>
  cases e':f a' with
  |none=>rw[e']at hb';cases hb'
  |some v'=>
   rw[e]at hb;rw[e']at hb';cases hb
   cases hb'
   exact haa
def Tb.relayAll {b:Bool}{t:SetTable} (h:Tb b t) (es:Array (Int×Value)) (n:Nat):Tb b (PySem.relayAll t es n).2.1:=by
 unfold PySem.relayAll;split
 ·rename_i t' order e
  dsimp only
  split
  ·unfold SetTable.relaid SetTable.laid at e;cases e2:SetTable.layClean (SetTable.sizeAbove n-1) (es.map (·.1))with
   |none=>rw[e2]at e;cases e
   |some owner=>
    rw[e2]at e;have e':=YQ Prod.fst (Yv e);subst e';refine⟨h.led,rfl,?_⟩;show(List.map (fun x:Nat×Nat=>x.fst) ((List.range (SetTable.sizeAbove n-1+1)).filterMap fun j=>(owner.getD j none).map (j,·))).toArray.toList.Pairwise (· < ·);rw[List.toList_toArray,List.pairwise_map];exact RZ _ _
  ·exact h.stand _
 ·exact h.stand _
def keyOf(e:Int×Value):Int:=match e.2 with
 | .int k _=>k
 |_=>0
def Ent(e:Int×Value):Prop:=∃(k:Int) (t:Tok),e=(hashInt k,.int k t)
section
variable (prog:Program) (w:World)
def XB(w:World):Bool:=w.params.followText "set-order"
structure SetAt (h:Heap) (a:Addr) (js:List Int) (es:Array (Int×Value)) (ep:Nat) (t:SetTable):Prop where
 obj:∃o,h.get? a=some o/\o.ExactSet/\o.data=.set es ep t
 ent:∀e∈es.toList,Ent e
 per:(es.toList.map keyOf).Perm js
 nod:js.Nodup
 few:es.size<scanBound
 fit:t.fits es.size=true
 tab:Tb (!XB w) t
def SetB(h:Heap)(a:Addr)(js:List Int):Prop:=∃es ep t,SetAt w h a js es ep t
end
section
variable {prog:Program}{w:World}{A:Around}{E:Value->Shared->Prop}{s:Shared}
def Ent.elems {l:List (Int×Value)} (h:∀e∈l,Ent e):ElemsOf (intKind prog w) l:=fun e he=>by
 obtain⟨k,t,rfl⟩:=h e he;exact⟨⟨k,intKind_is _ _ _ _,rfl⟩,rfl⟩
def CC{e:Int×Value}(h:Ent e)(k:Int):(intKind prog w).is k e.2=decide (k=keyOf e):=by
 obtain⟨k',t,rfl⟩:=h;show Value.isInt k (.int k' t)=decide (k=k');by_cases e:k=k'
 ·subst e;simp[Value.isInt]
 ·rw[Y0 e];simp[Value.isInt];exact fun z=>e z.symm
def SetB.len {h:Heap}{a:Addr}{js:List Int}{es:Array (Int×Value)}{ep:Nat}{t:SetTable} (S:SetAt w h a js es ep t):es.size=js.length:=by
 have:=S.per.length_eq
 simpa using this
def SetB.at {h h':Heap}{a:Addr}{js:List Int} (S:SetB w h a js) (k:∀o,h.get? a=some o->h'.get? a=some o):SetB w h' a js:=by
 obtain⟨es,ep,t,⟨o,ho,r⟩,b,c,d,e,f,g⟩:=S;exact⟨es,ep,t,⟨o,k o ho,r⟩,b,c,d,e,f,g⟩
def SetAt.store {h:Heap}{a:Addr}{js js':List Int}{es es':Array (Int×Value)}{ep:Nat}{t t':SetTable} (S:SetAt w h a js es ep t) (h1:∀e∈es'.toList,Ent e) (h2:(es'.toList.map keyOf).Perm js') (h3:js'.Nodup) (h4:es'.size<scanBound)
  (h5:t'.fits es'.size=true) (h6:Tb (!XB w) t'):SetAt w (h.update a (Obj.putSet es' t')) a js' es' (ep+1) t':=by
 obtain⟨o,ho,hx,hd⟩:=S.obj;refine⟨⟨{o with data:=.set es' (ep+1) t'},?_,hx,rfl⟩,h1,h2,h3,h4,h5,h6⟩
 have q:=Wb (Obj.putSet es' t') ho (by rw[putSet_of es' t' hd];rfl);rwa[putSet_of es' t' hd]at q
def A1{g:Bool->Sem Unit}(hg:∀(b:Bool) (s':Shared) (R':Unit->Shared->Prop),R' () s'->wpAny (model prog w) A (g b) R' E s'){a:Addr}{js js':List Int}{es es':Array (Int×Value)}{ep:Nat}{t t':SetTable}(S:SetAt w s.heap a js es ep t)(h1:∀e∈es'.toList,Ent e)(h2:(es'.toList.map keyOf).Perm js')(h3:js'.Nodup)(h4:es'.size<scanBound)(h5:t'.fits es'.size=true)(h6:Tb (!XB w) t'){d:Bool}{R:Option Bool->Shared->Prop}(fin:∀h',Heap.SameBut a s.heap h'->SetB w h' a js'->R (some true) {s with heap:=h'}) :
  wpAny (model prog w) A (do
    storeSet a es' t'
    if (!d&&t'.tooFull)=true then do
      g (relayAll t' es' (SetTable.grown es'.size)).2.2
      storeSet a (relayAll t' es' (SetTable.grown es'.size)).1 (relayAll t' es' (SetTable.grown es'.size)).2.1
      pure (some true)
     else pure (some true)) R E s:=by
 obtain⟨o,ho,hx,hd⟩:=S.obj;have S1:=S.store h1 h2 h3 h4 h5 h6;obtain⟨o1,ho1,hx1,hd1⟩:=S1.obj;have B1:=W4 s.heap a (Obj.putSet es' t');refine Yk (wpAny_storeSet_of ho hd ?_ (QF h4));split
 ·have pp:=relayAll_perm t' es' (SetTable.grown es'.size);have ff:=relayAll_fits t' es' (SetTable.grown es'.size);have tt:=h6.relayAll es' (SetTable.grown es'.size);generalize relayAll t' es' (SetTable.grown es'.size)=y at pp ff tt ⊢;obtain⟨es2,t2,g2⟩:=y
  dsimp only at pp ff tt ⊢
  have z:es2.size=es'.size:=by rw[←YY,pp.length_eq,YY]
  refine Yk (hg _ _ _ (Yk (wpAny_storeSet_of ho1 hd1 ?_ (QF (by rw[z];exact h4)))));exact Ys (fin _ (B1.trans (W4 _ a _)) ⟨_,_,_,S1.store (fun e he=>h1 e (pp.mem_iff.mp he)) ((pp.map keyOf).trans h2) h3 (by rw[z];exact h4) ff tt⟩)
 ·exact Ys (fin _ B1 ⟨_,_,_,S1⟩)
def addJ(js:List Int)(k:Int):List Int:=if k∈js then js else js++[k]
def GZ{a:Addr}{js:List Int}{k:Int}{tk:Tok}{R:Bool->Shared->Prop}(S:SetB w s.heap a js)(room:js.length+1<scanBound)(fin:∀(r:Bool) h',Heap.SameBut a s.heap h'->SetB w h' a (addJ js k)->R r {s with heap:=h'}) :
  wpAny (model prog w) A (setAddHashed a (.int k tk) (hashInt k)) R E s:=by
 obtain⟨es,ep,t,S⟩:=S;obtain⟨o,ho,hx,hd⟩:=S.obj;have el:=Ent.elems (prog:=prog) (w:=w) S.ent;have hz:es.size=js.length:=SetB.len S;unfold setAddHashed setAddHashedIn;refine Wx (Yk (WS ho hd S.fit ?_))
 dsimp only
 rw[byScan_of (x:=.int k tk) rfl S.few el];simp only[↓reduceIte];unfold setAddByScan;refine Yk (Yk (wpAny_rule (Yk (wpAny_setScan_of (knd:=intKind prog w) (k:=k) (intKind_is _ _ _ _) ho hd S.fit el ?_))));have mem:∀z:Int,z∈js↔∃e∈es.toList,keyOf e=z:=fun z=>by rw[←S.per.mem_iff,YU]
 cases q:List.findIdx? (fun e=>(intKind prog w).is k e.2) es.toList with
 |some j=>
  dsimp only
  obtain⟨hj,pj,_⟩:=List.findIdx?_eq_some_iff_getElem.mp q
  have hk:k∈js:=by
   rw[CC (S.ent _ (YC hj))]at pj;exact(mem k).mpr ⟨_,YC hj,(Yp pj).symm⟩
  refine Ys (Ys ?_);have f:=fin false s.heap (Heap.SameBut.refl a s.heap);unfold addJ at f;rw[Yn hk]at f;exact f ⟨_,_,_,S⟩
 |none=>
  dsimp only
  have hk:¬k∈js:=fun hz=>by
   obtain⟨e,he,hke⟩:=(mem k).mp hz
   have:=List.findIdx?_eq_none_iff.mp q e he
   rw[CC (S.ent e he),Yl hke.symm]at this;cases this
  have P:=layNew_perm t es (hashInt k) (.int k tk);have F:=layNew_fits t es (hashInt k) (.int k tk);have T:=S.tab.layNew es (hashInt k) (.int k tk);change wpAny (model prog w) A (match layNew t es (hashInt k) (.int k tk)with|(es,t,wasDummy,gave)=>_) _ _ _
  generalize layNew t es (hashInt k) (.int k tk)=y at P F T ⊢;obtain⟨es1,t1,d1,g1⟩:=y
  dsimp only at P F T ⊢
  rw[Array.toList_push]at P
  have e1:∀e∈es1.toList,Ent e:=fun e he=>by
   rcases Y4.mp (P.mem_iff.mp he)with he|he
   ·exact S.ent e he
   ·rw[Ym.mp he];exact⟨k,tk,rfl⟩
  have e2:(es1.toList.map keyOf).Perm (js++[k]):=by
   refine(P.map keyOf).trans ?_;rw[Y5];exact S.per.append_right _
  have e3:(js++[k]).Nodup:=W1.mpr ⟨S.nod,by simp,fun x hx y hy=>by rw[Ym.mp hy];rintro rfl;exact hk hx⟩
  have e4:es1.size<scanBound:=by
   rw[←YY,P.length_eq,Yt,YY,hz];exact room
  have fin':∀h',Heap.SameBut a s.heap h'->SetB w h' a (js++[k])->R true {s with heap:=h'}:=fun h' sb q'=>by
   have f:=fin true h' sb;unfold addJ at f;rw[Yo hk]at f;exact f q'
  have gw:∀(b:Bool) {s':Shared} {R':Unit->Shared->Prop},R' () s'->wpAny (model prog w) A (match b with|true=>rule "set.scan.the-table-gave-way" |false=>pure ()) R' E s':=fun b s' R' r'=>by cases b<;>first|exact Ys r'|exact wpAny_rule r'
  refine Yk (gw _ ?_);split
  ·refine Yk ?_;rw[hashByValue_scannable 8 (x:=.int k tk) rfl];refine Ys (A1 (fun b s' R' r'=>gw b r') S e1 e2 e3 e4 ?_ ?_ fun h' sb q'=>Ys (fin' h' sb q'))
   ·split
    ·exact F
    ·exact SetTable.fits_plain_off F
   ·split
    ·exact T
    ·exact T.plainOff
  ·refine Yk (Ys ?_);simp only[↓reduceIte];exact A1 (fun b s' R' r'=>gw b r') S e1 e2 e3 e4 F T fun h' sb q'=>Ys (fin' h' sb q')
def Zda{R:Result->Shared->Prop}{I:Addr}{fp wr:List Addr}{P:Nat->Value->Prop}{St:Nat->Heap->Prop}{ns:List Int}(W:Walks prog w A.in1 I fp wr ns.length P St)(S:Addr)(hS:S∉fp)(hv:∀i v,P i v->∃t,v=.int (ns.getD i 0) t)(room:ns.length+1<scanBound):∀(k i:Nat) (s:Shared) (js:List Int),ns.length-i=k->i<=ns.length->St i s.heap->SetB w s.heap S js->js.length<=i->
   (∀h' tk,(∀b o,b∉S::wr->s.heap.get? b=some o->h'.get? b=some o)->SetB w h' S ((ns.drop i).foldl addJ js)->R (.ok (.ret .none)) {s with heap:=h',toks:=tk})->
   codeAny (model prog w) A (.builtin "set.update.loop" ⟨[.ref S,.ref I],[]⟩) R s:=by
 have hSw:S∉wr:=fun z=>hS (W.sub _ z);intro k
 induction k with
 |zero=>
  intro i s js hk hi st B hj fin;have ei:i=ns.length:=by omega
  refine Qi Q5 ?_;rw[WW WL _];show wpAny _ A.in1 (pyNext (.ref I) >>= _) _ _ s;refine Yk (W.done s _ _ (ei▸st) fun h' tk keep=>?_);show wpAny _ A.in1 (ret Value.none) _ _ _;refine Ys (fin h' tk (fun b o hb e=>keep b o (fun z=>hb (YB _ z)) e) ?_);rw[ei,List.drop_length];exact B.at fun o e=>keep S o hSw e
 |succ k ih=>
  intro i s js hk hi st B hj fin;have hlt:i<ns.length:=by omega
  refine Qi Q5 ?_;rw[WW WL _];show wpAny _ A.in1 (pyNext (.ref I) >>= _) _ _ s;refine Yk (W.item i s _ _ hlt st fun v h1 tk1 pv st1 keep1=>?_);obtain⟨t,rfl⟩:=hv i v pv;have B1:SetB w h1 S js:=B.at fun o e=>keep1 S o hSw e;show wpAny _ A.in1 (holding [Value.int (ns.getD i 0) t] (setAdd S (.int (ns.getD i 0) t)) >>= _) _ _ _;unfold setAdd;refine Yk (Wx (Wx (Yk ((intKind prog w).pyHash (k:=ns.getD i 0) (intKind_is _ _ _ _) ?_))));refine GZ (k:=ns.getD i 0) B1 (by omega) fun r h2 sb B2=>?_
  have el:(addJ js (ns.getD i 0)).length<=i+1:=by
   unfold addJ;split
   ·omega
   ·simp;omega
  refine Ys ⟨QK WL _,ih (i+1) _ _ (by omega) hlt (W.frame _ h1 _ st1 fun b hb o e=>?_) B2 el fun h' tk keep B'=>?_⟩
  ·rw[sb.2 b (fun z:b=S=>hS (by rw[←z];exact hb))];exact e
  ·refine fin h' tk (fun b o hb e=>keep b o hb ?_) ?_
   ·rw[sb.2 b (fun z:b=S=>hb (by rw[z];exact YL))];exact keep1 b o (fun z=>hb (YB _ z)) e
   ·have e1:ns.drop i=ns.getD i 0::ns.drop (i+1):=by
     rw[Qy hlt,Y1,Yj hlt];rfl
    rw[e1];exact B'
def Za6(a:Value){Q:Value->Shared->Prop}(fin:Q (.ref s.heap.objs.size) {s with heap:=s.heap.push {cls:=.type "set",dict:=none,data:=.set #[] 0 (.fresh 0 0 (!XB w))}}) :
  codeAny (model prog w) A (.call (.builtin "set.__new__") ⟨[.type "set",a],[]⟩) (wants Q E) s:=by
 refine codeAny_of_tree (show wpAny _ A.in1 (do checkBuiltinCall "set.__new__" ⟨[.type "set",a],[]⟩;again (.builtin "set.__new__" ⟨[.type "set",a],[]⟩)) _ _ s from ?_)
 refine Yk (wpAny_of_eq (F.newCall_set_1 a) (Ys ⟨QK F.plain_set_new _,Qi F.entry_set_new ?_⟩));have und:=WW (A:=A) F.plain_set_new ⟨[.type "set",a],[]⟩;rw[und];unfold Builtin.«set.__new__» Builtin.Frozenset.newClass;have q1:=sub_set_self;obtain⟨hh,gg,dd,tt,oo⟩:=s
 dsimp only
 wp_walk
 refine wpAny_askSetting (Ys (show wpAny _ _ _ _ _ _ from ?_))
 dsimp only
 simp only[newObj];exact Yk (wpAny_alloc (Ys (Ys fin)))
set_option maxHeartbeats 4000000 in
def HP{l:Addr}{its:Array Value}{ns:List Int}{Q:Value->Shared->Prop}(hh:A.handled=none)(hl:s.heap.IsList l its)(hi:IntsAre its.toList ns)(room:ns.length+1<scanBound)(fin:∀(h':Heap) (tk:Nat),SetB w h' s.heap.objs.size (ns.foldl addJ [])->(∀b o,b<s.heap.objs.size->s.heap.get? b=some o->h'.get? b=some o)->Q (.ref s.heap.objs.size) {s with heap:=h',toks:=tk}) :
  wpAny (model prog w) A (call (.type "set") [.ref l]) Q E s:=by
 have hn:its.size=ns.length:=by have:=IntsAre.length hi;simpa using this
 obtain⟨mroC,mroT,mro⟩:=F.called_set.mro;have made:=F.called_set.made;have subs:=F.called_set.sub;refine QS (codeAny_of_tree (show wpAny _ _ (callAny (.type "set") _) _ _ _ from ?_))
 refine Ys ⟨Code.quiet_builtin _ (by decide +kernel),Qi F.entry_type_call ?_⟩;have wt:=Around.under_plain (A:=A) (weight_type_call_type "set" [.ref l] []) rfl;rw[wt];have nt:=F.called_set.notType;have cc:=F.called_set.canCreate;have tc:=F.typeCall_set_1 (.ref l)
 repeat (any_goals (first|assumption|wp_step))
 refine WJ (Za6 (.ref l) (E:=E) (Q:=fun obj s1=>obj=.ref s.heap.objs.size/\s1={s with heap:=s.heap.push {cls:=.type "set",dict:=none,data:=.set #[] 0 (.fresh 0 0 (!XB w))}}) ⟨rfl,rfl⟩) fun r s1 hr=>?_
 cases r with
 |error e=>exact hr
 |ok fl=>
  cases fl with
  |next=>exact hr.elim
  |brk=>exact hr.elim
  |cont=>exact hr.elim
  |ret obj=>
   obtain⟨rfl,rfl⟩:=hr;generalize eH:s.heap.push {cls:=.type "set",dict:=none,data:=.set #[] 0 (.fresh 0 0 (!XB w))}=H1;have g1:H1.get? s.heap.objs.size=some {cls:=.type "set",dict:=none,data:=.set #[] 0 (.fresh 0 0 (!XB w))}:=by rw[←eH];exact Y3 _ rfl
   have hT:Shared.TypeIs {s with heap:=H1} (.ref s.heap.objs.size) "set":=⟨_,g1,rfl⟩
   have ini:=F.called_set.init.lookup;have inb:=F.called_set.init.bind (.ref s.heap.objs.size)
   repeat (any_goals (first|assumption|wp_step))
   refine WJ (QX (R:=wants (fun r s2=>r=.none/\∃h' tk,s2={s with heap:=h',toks:=tk}/\SetB w h' s.heap.objs.size (ns.foldl addJ [])/\(∀b o,b<s.heap.objs.size->s.heap.get? b=some o->h'.get? b=some o)) E)
    F.called_set.init.plain F.entry_set_init (check_set_init_1 hT ?_)) fun r2 s2 hr2=>?_
   ·obtain⟨ob,hob,hcl,nl,hdl⟩:=hl;obtain⟨c1,d1,dt1,sl1⟩:=ob;simp only at hcl hdl;subst hcl;subst hdl;have hob1:H1.get? l=some {cls:=.type "list",dict:=d1,data:=.seq its nl,slots:=sl1}:=by rw[←eH];exact Yq _ hob
    have sz1:H1.objs.size=s.heap.objs.size+1:=by rw[←eH,WE]
    have no1:=F.sub_list_set;have no2:=F.sub_list_frozenset;have no3:(Value.type "list" == Value.type "dict")=false:=by decide
    have L1:H1.IsList l its:=⟨_,hob1,rfl,nl,rfl⟩;unfold Builtin.«set.__init__» noKeywords Builtin.Frozenset.updateFrom;generalize eP:pyIter=PI
    wp_walk
    subst eP;refine wpAny_pyIter_list L1 (Yk (wpAny_runValue ?_));have lt1:l<s.heap.objs.size:=Yu hob;have hd3:A.in1.in1.in1.handled=none:=by simp[hh]
    have ne1:l≠H1.objs.size:=by rw[sz1];exact YA (WT lt1)
    have no4:s.heap.objs.size∉[H1.objs.size,l]:=by
     rw[sz1];simp only[Yx,QM,or_false,not_or];exact⟨YA (Qb _),QP lt1⟩
    have W0:=Walks.list (prog:=prog) (w:=w) hd3 H1.objs.size l ne1 its;rw[hn]at W0;refine Zda (ns:=ns) W0 s.heap.objs.size no4 (fun i v hv=>IntsAre.int_at hi i v (by rw[Wu];exact hv)) room (ns.length-0) 0 _ [] rfl (Wr _) ⟨⟨_,Y3 _ rfl,rfl,rfl⟩,L1.push _⟩ ?_ (Wr _) fun h' tk keep B=>?_
    ·exact⟨#[],0,_,⟨_,Yq _ g1,⟨rfl,rfl,rfl⟩,rfl⟩,fun e he=>by simp at he,by simp,WZ,by show(0:Nat)<4096;decide,rfl,Tb.fresh _⟩
    ·show wpAny _ _ _ _ _ _;refine Ys (show wpAny _ _ (ret Value.none) _ _ _ from Ys ⟨rfl,h',tk,rfl,B,fun b o hb e=>?_⟩)
     refine keep b o ?_ (Yq _ (by rw[←eH];exact Yq _ e));rw[sz1];simp only[Yx,QM,or_false,not_or];exact⟨YA hb,YA (WT hb)⟩
   ·cases r2 with
    |error e=>exact hr2
    |ok f2=>
     cases f2 with
     |next=>exact hr2.elim
     |brk=>exact hr2.elim
     |cont=>exact hr2.elim
     |ret r=>
      obtain⟨rfl,h',tk,rfl,B,keep⟩:=hr2
      repeat (any_goals (first|assumption|wp_step))
      exact fin _ _ B keep
end
def si_slot:Slot "set_iterator" "__next__" "set_iterator.__next__":=
 Slot.of (owner:="set_iterator") (n:="__next__") (by rw[typeLookup_type,builtinLookup_eq_fast];kernel_rfl) (by decide +kernel) (by decide +kernel) (by decide +kernel)
  (by first|exact Or.inl (by decide +kernel)|exact Or.inr (by decide +kernel)) (by rw[isSubtype_type];kernel_rfl)
def Zav:entryFor table "set_iterator.__next__"=some Builtin.«set_iterator.__next__»:=entryFor_of_tree (by kernel_rfl)
def Zcb(a:Value):argsOk "set_iterator.__next__" ⟨[a],[]⟩:=by unfold argsOk;kernel_rfl
def Iz:entryFor table "set.__iter__"=some Builtin.«frozenset.__iter__»:=entryFor_alias (id':="frozenset.__iter__") (by kernel_rfl) rfl (by decide +kernel) (by kernel_rfl)
def CY:Slot "set_iterator" "__iter__" "set_iterator.__iter__":=
 Slot.of (owner:="set_iterator") (n:="__iter__") (by rw[typeLookup_type,builtinLookup_eq_fast];kernel_rfl) (by decide +kernel) (by decide +kernel) (by decide +kernel)
  (by first|exact Or.inl (by decide +kernel)|exact Or.inr (by decide +kernel)) (by rw[isSubtype_type];kernel_rfl)
def Ic:entryFor table "set_iterator.__iter__"=some Builtin.«dict_keyiterator.__iter__»:=entryFor_alias (id':="dict_keyiterator.__iter__") (by kernel_rfl) rfl (by decide +kernel) (by kernel_rfl)
def Iy(a:Value):argsOk "set_iterator.__iter__" ⟨[a],[]⟩:=by unfold argsOk;kernel_rfl
def SI(h:Heap)(I a:Addr)(first:Value)(i n ep:Nat):Prop:=∃o,h.get? I=some o/\o.cls=.type "set_iterator"/\o.data=.fields #[first,.int i 0,.ref a,.int n 0,.int ep 0]
section
variable {prog:Program}{w:World}{A:Around}{E:Value->Shared->Prop}{s:Shared}{I a:Addr}{first:Value}{i n ep:Nat}{js:List Int}{es:Array (Int×Value)}{t:SetTable}
def SI.typ (h:SI s.heap I a first i n ep):s.TypeIs (.ref I) "set_iterator":=let ⟨o,ho,hc,_⟩:=h;⟨o,ho,hc⟩
def SI.at {h h':Heap} (x:SI h I a first i n ep) (k:∀o,h.get? I=some o->h'.get? I=some o):SI h' I a first i n ep:=let ⟨o,ho,r⟩:=x;⟨o,k o ho,r⟩
def P9(first:Value)(a I:Addr)(i ep:Int):Sem PySem.Fin:=
 match first with
 |Value.int slot _=>do
  match ←setNext a slot.toNat i.toNat ep.toNat with
  |some (x,next)=>
   setField (.ref I) 0 (rawInt next)
   setField (.ref I) 1 (rawInt (i+1))
   ret x
  |none=>
   setField (.ref I) 2 .none
   raiseNew (←newExc (.type "StopIteration") [])
 |_=>do
  let some places ←seqItems? first|unsupported "internal:set_iterator"
  match places[i.toNat]? with
  |some (.int place _)=>
   let x ←setNextDrawn a place.toNat ep.toNat
   setField (.ref I) 1 (rawInt (i+1))
   ret x
  |some _=>unsupported "internal:set_iterator"
  |none=>
   setField (.ref I) 0 (rawInt 0)
   setField (.ref I) 2 .none
   raiseNew (←newExc (.type "StopIteration") [])
def Sj{Q:Option Value->Shared->Prop}(hit:SI s.heap I a first i es.size ep)(S:SetAt w s.heap a js es ep t)
  (body:wpAny (model prog w) A.in1 (P9 first a I i ep) (fun fin s'=>∃v,fin=.done (.ret v)/\Q (some v) s')
   (fun e s'=>wpAny (model prog w) A (isInstance e (.type "StopIteration")) (fun b s''=>b=true/\Q none s'') E s') s) :
  wpAny (model prog w) A (pyNext (.ref I)) Q E s:=by
 obtain⟨o,ho,hc,hd⟩:=id hit;obtain⟨ob,hob,hx,hdd⟩:=S.obj;unfold pyNext;refine Yk (wpAny_attempt (wpAny_callSpecial?_slot (name:=Str.ofString "__next__") hit.typ si_slot (Qv si_slot hit.typ Zav ?_ (Zcb _))));unfold Builtin.«set_iterator.__next__»;refine Yk (Ys (Yk (wpAny_fieldsOf ho hd ?_)));show wpAny _ _ (setEntries a >>= fun x=>if ((x.size:Int) != (es.size:Int))=true then _ else P9 first a I i ep) _ _ s
 refine Yk (wpAny_setEntries_of hob hdd S.fit ?_);rw[Yo (by simp)];refine YS body (fun fin s' h=>?_) fun e s' h=>?_
 ·obtain⟨v,e,q⟩:=h;exact⟨v,e,Ys q⟩
 ·refine Yk (YS h (fun b s'' h2=>?_) fun _ _ z=>z);obtain⟨rfl,q⟩:=h2;exact Ys q
def DQ{Q:Option Value->Shared->Prop}{o:Obj}{vs:Array Value}(hh:A.handled=none)(ho:s.heap.get? I=some o)(hd:o.data=.fields vs)(h2:2<vs.size)(fin:∀h',Heap.ExtBut I s.heap h'->Q none {s with heap:=h'}){R:PySem.Fin->Shared->Prop} :
  wpAny (model prog w) A.in1 (do setField (.ref I) 2 .none;raiseNew (←newExc (.type "StopIteration") [])) R (fun e s'=>wpAny (model prog w) A (isInstance e (.type "StopIteration")) (fun b s''=>b=true/\Q none s'') E s') s:=by
 refine Yk (Qa ho hd h2 (Yk ?_));simp only[newExc,newTuple];refine Yk (Wz ?_ (by size_fits));refine Yk (m:=firstArgMember _ _) (wpAny_of_eq (a:=Value.none) (by first|rfl|(simp only[firstArgMember];rfl)) (Wz ?_ (by size_fits)))
 simp only[raiseNew];refine Yk (wpAny_handled ?_);have e1:A.in1.handled=none:=hh;rw[e1];refine Yk (Ys (wpAny_throw ?_));refine wpAny_isInstance (T:="StopIteration") (b:=true) ⟨_,Y3 _ rfl,rfl⟩ isSubtype_stop ?_;exact⟨rfl,fin _ (((W4 ..).extBut.push _).push _)⟩
def SI.step1 {o:Obj}{x:Value} (ho:s.heap.get? I=some o) (hc:o.cls=.type "set_iterator") (hd:o.data=.fields #[first,.int i 0,.ref a,.int n 0,.int ep 0]) :
  SI (s.heap.update I (Obj.mapFields (·.setIfInBounds 1 (rawInt ((i:Int)+1))))) I a first (i+1) n ep:=
 ⟨_,Wb _ ho (WN (Ww hd _)),(Obj.cls_mapFields ..).trans hc,by rw[Ww hd];simp[rawInt]⟩
def Si{Q:Bool->Shared->Prop}(h:Q (XB w) s):wpAny (model prog w) A setsByText Q E s:=by
 unfold setsByText;exact Yk (wpAny_askSetting (Ys h))
def Zee{Q:Option (Value×Nat)->Shared->Prop}{slot:Nat}(S:SetAt w s.heap a js es ep t)(hb:XB w=true)(h:Q (((pickOrder (w.params.setOrder a ep) es)[i]?).map fun e=>(e.2,slot)) s) :
  wpAny (model prog w) A (setNext a slot i ep) Q E s:=by
 obtain⟨ob,hob,hx,hdd⟩:=S.obj;unfold setNext;refine Yk (WS hob hdd S.fit (Yk (Si ?_)));rw[hb,Yn rfl]
 dsimp only
 rw[Yo (by simp)];refine Yk ?_;unfold setWalk;refine Yk (WS hob hdd S.fit (Yk (Si ?_)));rw[hb,Yn rfl];exact Yk (wpAny_askSetting (Ys (Ys h)))
def Ij{Q:Option (Value×Nat)->Shared->Prop}{slot:Nat}(S:SetAt w s.heap a js es ep t)(hb:XB w=false)(hp:(!t.plain&&decide (es.size>1))=false)(h:Q (match es[SetTable.below t.place slot]?,t.place[SetTable.below t.place slot]? with|some (_,x),some j=>some (x,j+1)|_,_=>none) s):wpAny (model prog w) A (setNext a slot i ep) Q E s:=by
 obtain⟨ob,hob,hx,hdd⟩:=S.obj;unfold setNext;refine Yk (WS hob hdd S.fit (Yk (Si ?_)));rw[hb,Yo (by decide)]
 dsimp only
 show wpAny _ _ (if (!t.plain&&decide (es.size>1))=true then _ else _) _ _ _;rw[hp,Yo (by decide)];refine Yk (?_:wpAny _ _ (if (!t.led && !es.isEmpty)=true then unsupported "set:maker-not-led" else pure ()) _ _ _);have hl:t.led=true:=by rw[S.tab.led,hb];rfl
 rw[hl,Yo (by simp)];exact Ys (Ys h)
def Og{Q:Value->Shared->Prop}{p:Nat}{e:Int×Value}(S:SetAt w s.heap a js es ep t)(he:es[p]?=some e)(h:Q e.2 s):wpAny (model prog w) A (setNextDrawn a p ep) Q E s:=by
 obtain⟨ob,hob,hx,hdd⟩:=S.obj;unfold setNextDrawn;refine Yk (WS hob hdd S.fit ?_)
 dsimp only
 rw[Yo (by simp),he];exact Ys h
def LZ{Q:Nat->Shared->Prop}{src:Source}{m:Nat}(hm:m≠0)(h:∀k d,k<m->Q k {s with drawn:=d}):wpAny (model prog w) A (choose src m) Q E s:=by
 intro Γ p hΓ;unfold choose;rw[Sem.wp_choose];exact⟨hm,h _ _ (Nat.mod_lt _ (Nat.pos_of_ne_zero hm))⟩
def SS{α:Type}:∀(xs:List α) (k:Nat) (h:k<xs.length),(xs[k]::xs.eraseIdx k).Perm xs
 |x::r,0,_=>List.Perm.refl _
 |x::r,k+1,h=>by
  have hk:k<r.length:=by simpa using h
  have ih:=SS r k hk;show(r[k]::x::r.eraseIdx k).Perm (x::r);exact(List.Perm.swap _ _ _).trans (List.Perm.cons _ ih)
def Ou{α:Type}:∀(m:Nat) (xs:List α) (s:Shared) {Q:List α->Shared->Prop},xs.length=m->(∀ys d,ys.Perm xs->Q ys {s with drawn:=d})->wpAny (model prog w) A (drawOrder m xs) Q E s:=by
 intro m
 induction m with
 |zero=>
  intro xs s Q hl h;have e:xs=[]:=Wy.mp hl;subst e;exact Ys (h [] s.drawn (List.Perm.refl _))
 |succ m ih=>
  intro xs s Q hl h;cases xs with
  |nil=>simp at hl
  |cons x r=>
   unfold drawOrder;refine Yk (LZ (by simp) fun k d hk=>?_);rw[Yj hk];refine Yk (ih _ _ (by rw[List.length_eraseIdx_of_lt hk];simpa using hl) fun ys d2 hp=>Ys ?_);exact h _ d2 ((List.Perm.cons _ hp).trans (SS _ _ hk))
def SetAt.keep {h h':Heap} (S:SetAt w h a js es ep t) (k:∀o,h.get? a=some o->h'.get? a=some o):SetAt w h' a js es ep t:=by
 obtain⟨⟨o,ho,r⟩,b,c,d,e,f,g⟩:=S;exact⟨⟨o,k o ho,r⟩,b,c,d,e,f,g⟩
def Cw{Q:Value->Shared->Prop}(hit:SI s.heap I a first i n ep)(h:Q (.ref I) s):wpAny (model prog w) A (pyIter (.ref I)) Q E s:=by
 refine wpAny_pyIter_slot hit.typ CY (Qv CY hit.typ Ic ?_ (Iy _));show wpAny _ _ (ret (.ref I)) _ _ s;exact Ys ⟨_,rfl, "set_iterator",_,hit.typ,si_slot.lookup,h⟩
def Ct(hh:A.handled=none)(I a:Addr)(hne:a≠I)(vs:List Value)(hl:vs.length=es.size)(sl:Nat->Nat)(nx:∀(A:Around) (E:Value->Shared->Prop) (s:Shared) (i:Nat) (Q:Option (Value×Nat)->Shared->Prop),i<=es.size->SetAt w s.heap a js es ep t->Q ((vs[i]?).map fun v=>(v,sl (i+1))) s->wpAny (model prog w) A (setNext a (sl i) i ep) Q E s) :
  Walks prog w A I [I,a] [I] es.size (fun i v=>vs[i]?=some v) (fun i h=>SI h I a (.int (sl i) 0) i es.size ep/\SetAt w h a js es ep t) where
 sub:=fun b hb=>by simp at hb;simp[hb]
 frame:=fun _ _ _ st k=>⟨st.1.at fun o e=>k I (by simp) o e,st.2.keep fun o e=>k a (by simp) o e⟩
 item:=fun i s Q E hi st fin=>by
  obtain⟨o,ho,hc,hd⟩:=id st.1;refine Sj st.1 st.2 ?_;unfold P9
  dsimp only
  rw[YX,YX,YX];refine Yk (nx _ _ s i _ (Q1 hi) st.2 ?_);have hi2:i<vs.length:=by omega
  rw[Yj hi2];show wpAny _ _ (do setField (.ref I) 0 (rawInt (sl (i+1)));setField (.ref I) 1 (rawInt ((i:Int)+1));ret vs[i]) _ _ s
  refine Yk (Qa ho hd (by simp) ?_);have g1:=Wb (Obj.mapFields (·.setIfInBounds 0 (rawInt (sl (i+1):Int)))) ho (WN (Ww hd _));have d1:(Obj.mapFields (·.setIfInBounds 0 (rawInt (sl (i+1):Int))) o).data=.fields #[.int (sl (i+1)) 0,.int i 0,.ref a,.int es.size 0,.int ep 0]:=by rw[Ww hd];simp[rawInt]
  refine Yk (Qa g1 d1 (by simp) ?_);have sb:=(W4 s.heap I (Obj.mapFields (·.setIfInBounds 0 (rawInt (sl (i+1):Int))))).trans (W4 _ I (Obj.mapFields (·.setIfInBounds 1 (rawInt ((i:Int)+1)))));refine Ys ⟨_,rfl,fin vs[i] _ s.toks (Yj hi2) ⟨?_,st.2.keep fun o e=>sb.extBut a o hne e⟩ fun b o hb e=>sb.extBut b o (fun z=>hb (by simp[z])) e⟩;exact SI.step1 (s:={s with heap:=_}) (x:=.none) g1 ((Obj.cls_mapFields ..).trans hc) d1
 done:=fun s Q E st fin=>by
  obtain⟨o,ho,hc,hd⟩:=id st.1;refine Sj st.1 st.2 ?_;unfold P9
  dsimp only
  rw[YX,YX,YX];refine Yk (nx _ _ s es.size _ (Yr _) st.2 ?_);rw[Qo (by omega)];exact DQ hh ho hd (by simp) fun h' eb=>fin h' s.toks fun b o hb e=>eb b o (fun z=>hb (by simp[z])) e
 self:=fun _ _ _ _ st fin=>Cw st.1 fin
def LS(hh:A.handled=none)(I a T:Addr)(hne:a≠I)(hT:T≠I)(ps:List Nat)(hl:ps.length=es.size)(hps:∀p∈ps,p<es.size)(vs:List Value)(hvs:vs=ps.map fun p=>((es[p]?).map (·.2)).getD .none) :
  Walks prog w A I [I,a,T] [I] es.size (fun i v=>vs[i]?=some v) (fun i h=>SI h I a (.ref T) i es.size ep/\SetAt w h a js es ep t/\∃o,h.get? T=some o/\∃c,o.data=.seq (ps.map fun(p:Nat)=>rawInt p).toArray c) where
 sub:=fun b hb=>by simp at hb;simp[hb]
 frame:=fun _ _ _ st k=>⟨st.1.at fun o e=>k I (by simp) o e,st.2.1.keep fun o e=>k a (by simp) o e,let ⟨o,ho,c⟩:=st.2.2;⟨o,k T (by simp) o ho,c⟩⟩
 item:=fun i s Q E hi st fin=>by
  obtain⟨o,ho,hc,hd⟩:=id st.1;obtain⟨oT,hoT,c,hdT⟩:=st.2.2;refine Sj st.1 st.2.1 ?_;unfold P9
  dsimp only
  refine Yk (wpAny_seqItems hoT hdT ?_);have hi2:i<ps.length:=by omega
  have e1:(ps.map fun(p:Nat)=>rawInt p).toArray[(i:Int).toNat]?=some (.int ps[i] 0):=by
   rw[YX,List.getElem?_toArray,Yw,Yj hi2];rfl
  have hp:=hps _ (YC hi2)
  dsimp only
  rw[e1]
  dsimp only
  have e2:es[ps[i]]?=some es[ps[i]]:=W7 hp;have e3:vs[i]?=some (es[ps[i]]).2:=by rw[hvs,Yw,Yj hi2];simp[hp]
  rw[YX,YX];refine Yk (Og st.2.1 e2 (Yk (Qa ho hd (by simp) ?_)));have sb:=W4 s.heap I (Obj.mapFields (·.setIfInBounds 1 (rawInt ((i:Int)+1))));exact Ys ⟨_,rfl,fin _ _ s.toks e3 ⟨SI.step1 (x:=.none) ho hc hd,st.2.1.keep fun o e=>sb.extBut a o hne e,oT,sb.extBut T oT hT hoT,c,hdT⟩ fun b o hb e=>sb.extBut b o (fun z=>hb (by simp[z])) e⟩
 done:=fun s Q E st fin=>by
  obtain⟨o,ho,hc,hd⟩:=id st.1;obtain⟨oT,hoT,c,hdT⟩:=st.2.2;refine Sj st.1 st.2.1 ?_;unfold P9
  dsimp only
  refine Yk (wpAny_seqItems hoT hdT ?_)
  have e1:(ps.map fun(p:Nat)=>rawInt p).toArray[(es.size:Int).toNat]?=none:=by
   rw[YX,List.getElem?_toArray,Yw,Qo (by omega)];rfl
  dsimp only
  rw[e1]
  dsimp only
  refine Yk (Qa ho hd (by simp) ?_);have g1:=Wb (Obj.mapFields (·.setIfInBounds 0 (rawInt 0))) ho (WN (Ww hd _));have sb:=W4 s.heap I (Obj.mapFields (·.setIfInBounds 0 (rawInt 0)));refine DQ (s:={s with heap:=_}) hh g1 (Ww hd _) (by simp) fun h' eb=>fin h' s.toks fun b o hb e=>eb b o (fun z=>hb (by simp[z])) (sb.extBut b o (fun z=>hb (by simp[z])) e)
 self:=fun _ _ _ _ st fin=>Cw st.1 fin
def Lq{α:Type}(nx:Nat->Nat):∀(m k:Nat) (left:List α) (out:Array α),left.length=m->(pickOrder.go nx m k left out).toList.Perm (out.toList++left):=by
 intro m
 induction m with
 |zero=>
  intro k left out hl;have e:left=[]:=Wy.mp hl;subst e;show out.toList.Perm (out.toList++[]);rw[YW]
 |succ m ih=>
  intro k left out hl;have hlt:nx k % left.length<left.length:=Nat.mod_lt _ (by omega);unfold pickOrder.go;rw[Yj hlt]
  dsimp only
  refine(ih _ _ _ (by rw[List.length_eraseIdx_of_lt hlt];omega)).trans ?_;rw[Array.toList_push,Vp];exact(SS left _ hlt).append_left _
def Dg{α:Type}(nx:Nat->Nat)(xs:Array α):(pickOrder nx xs).toList.Perm xs.toList:=by
 have:=Lq nx xs.size 0 xs.toList #[] (by simp)
 simpa [pickOrder]using this
def slotAt(t:SetTable)(i:Nat):Nat:=if i=0 then 0 else t.place.getD (i-1) 0+1
def CS{m:Nat}(h:t.fits m=true):t.place.size=m:=by
 simp only[SetTable.fits,Y9,beq_iff_eq]at h;exact h.1
def Oc(S:SetAt w s.heap a js es ep t){i:Nat}(hi:i<=es.size):SetTable.below t.place (slotAt t i)=i:=by
 have hz:=CS S.fit;have R:=S.tab.ris.ris;refine HM R (by omega) (fun k hk=>?_) fun k h1 h2=>?_
 ·unfold slotAt;rw[Yo (by omega)];by_cases e:k=i-1
  ·rw[e];omega
  ·have:=R k (i-1) (by omega) (by omega)
   omega
 ·unfold slotAt;by_cases h0:i=0
  ·rw[Yn h0];omega
  ·rw[Yo h0]
   have:=R (i-1) k (by omega) h2
   omega
def Zcj{Q:Value->Shared->Prop}{A':Around}(hh:A'.handled=none)(S:SetAt w s.heap a js es ep t)
  (fin:∀(I:Addr) (fp:List Addr) (vs:List Value) (St:Nat->Heap->Prop) (h1:Heap) (d1:Drawn),Walks prog w A' I fp [I] es.size (fun i v=>vs[i]?=some v) St->St 0 h1->(∀b∈fp,b=a\/s.heap.get? b=none)->vs.length=es.size->vs.Perm (es.toList.map (·.2))->
   s.heap.get? I=none->(∀b o,s.heap.get? b=some o->h1.get? b=some o)->Q (.ref I) {s with heap:=h1,drawn:=d1}) :
  wpAny (model prog w) A (pyIter (.ref a)) Q E s:=by
 obtain⟨ob,hob,hx,hdd⟩:=S.obj;have hT:s.TypeIs (.ref a) "set":=⟨ob,hob,hx.1⟩;have ha:a<s.heap.objs.size:=Yu hob
 have new:∀b,s.heap.objs.size<=b->s.heap.get? b=none:=fun b hb=>by
  cases e:s.heap.get? b with
  |none=>rfl
  |some o=>exact absurd (Yu e) (QA.mpr hb)
 refine wpAny_pyIter_slot hT F.slot_set_iter (Qv F.slot_set_iter hT Iz ?_ (F.args_set_iter_1 _));unfold Builtin.«frozenset.__iter__»;show wpAny _ _ (Builtin.Frozenset.sizeOf a >>= _) _ _ s;unfold Builtin.Frozenset.sizeOf;refine Yk (Yk (wpAny_setEntries_of hob hdd S.fit (Ys ?_)));refine Yk ?_;unfold setDrawn;refine Yk (WS hob hdd S.fit (Yk (Si (Ys ?_))))
 dsimp only
 change wpAny _ _ (if (!XB w&&(!t.plain&&decide (es.size>1)))=true then _ else _) _ _ _;cases hd:(!XB w&&(!t.plain&&decide (es.size>1)))with
 |false=>
  rw[Yo (by decide)];refine Yk (Ys (Yk (wpAny_setEpoch_of hob hdd S.fit (Yk (Wz (Ys ⟨_,rfl, "set_iterator",_,⟨_,Y3 _ rfl,rfl⟩,si_slot.lookup,?_⟩))))));have hne:a≠s.heap.objs.size:=YA ha;have S1:SetAt w (s.heap.push {cls:=.type "set_iterator",data:=.fields [rawInt 0,rawInt 0,.ref a,rawInt es.size,rawInt ep].toArray}) a js es ep t:=S.keep fun o e=>Yq _ e
  have lt:∀b∈[s.heap.objs.size,a],b=a\/s.heap.get? b=none:=fun b hb=>by
   rcases Yx.mp hb with rfl|hb
   ·exact .inr (new _ (Yr _))
   ·exact .inl (Ym.mp hb)
  cases hb:XB w with
  |true=>
   have hl:((pickOrder (w.params.setOrder a ep) es).toList.map (·.2)).length=es.size:=by
    rw[Yi,(Dg _ _).length_eq];simp
   refine fin _ _ _ _ _ s.drawn (Ct (t:=t) (js:=js) (ep:=ep) hh s.heap.objs.size a hne ((pickOrder (w.params.setOrder a ep) es).toList.map (·.2)) hl (fun _=>0) fun A E s i Q hi S' q=>Zee S' hb ?_) ⟨⟨_,Y3 _ rfl,rfl,rfl⟩,S1⟩ lt hl ((Dg _ _).map _) (new _ (Yr _)) fun b o e=>Yq _ e;rw[Yw]at q;rw[←Wu];cases e:(pickOrder (w.params.setOrder a ep) es).toList[i]? with
   |none=>rw[e]at q;exact q
   |some x=>rw[e]at q;exact q
  |false=>
   have hp:(!t.plain&&decide (es.size>1))=false:=by rw[hb]at hd;simpa using hd
   refine fin _ _ _ _ _ s.drawn (Ct (t:=t) (js:=js) (ep:=ep) hh s.heap.objs.size a hne (es.toList.map (·.2)) (by simp) (slotAt t) fun A E s i Q hi S' q=>Ij S' hb hp ?_) ⟨⟨_,Y3 _ rfl,rfl,rfl⟩,S1⟩ lt (by simp) (List.Perm.refl _) (new _ (Yr _)) fun b o e=>Yq _ e;rw[Oc S' hi];have hz:=CS S'.fit;rw[Yw]at q;by_cases hlt:i<es.size
   ·have e1:es[i]?=some es[i]:=W7 hlt;have e2:t.place[i]?=some t.place[i]:=W7 (by omega);have e3:es.toList[i]?=some es[i]:=by rw[Wu];exact e1
    rw[e3]at q;rw[e1,e2]
    have e4:slotAt t (i+1)=t.place[i]+1:=by
     unfold slotAt;rw[Yo (by omega)]
     have:i<t.place.size:=by omega
     simp[Array.getD,this]
    have q':Q (some (es[i].2,slotAt t (i+1))) s:=q;rw[e4]at q';exact q'
   ·have e1:es[i]?=none:=Array.getElem?_eq_none (by omega);have e3:es.toList[i]?=none:=by rw[Wu];exact e1
    rw[e3]at q;rw[e1];exact q
 |true=>
  rw[Yn rfl];refine Yk (Ou _ _ s (by simp) fun ps d hp=>?_);have hl:ps.length=es.size:=by rw[hp.length_eq];simp
  have hps:∀p∈ps,p<es.size:=fun p hm=>List.mem_range.mp (hp.mem_iff.mp hm);refine Yk (Wz ?_ (by show(ps.map fun(i:Nat)=>rawInt i).toArray.size<=sizeLine;rw[Yz,Yi,hl];exact QF S.few));have hob1:=Yq {cls:=.type "tuple",data:=.seq (ps.map fun(i:Nat)=>rawInt i).toArray} hob;refine Yk (wpAny_setEpoch_of hob1 hdd S.fit (Yk (Wz (Ys ⟨_,rfl, "set_iterator",_,⟨_,Y3 _ rfl,rfl⟩,si_slot.lookup,?_⟩))));have zT:(s.heap.push {cls:=.type "tuple",data:=.seq (ps.map fun(i:Nat)=>rawInt i).toArray}).objs.size=s.heap.objs.size+1:=WE ..
  have eq1:(List.range es.size).map (fun p=>((es[p]?).map (·.2)).getD Value.none)=es.toList.map (·.2):=by
   apply Vq;intro k;by_cases hk:k<es.size
   ·simp[hk]
   ·have:es.size<=k:=by omega
    simp[this]
  refine fin _ _ _ _ _ d (LS (t:=t) (js:=js) (ep:=ep) hh _ a s.heap.objs.size ?_ ?_ ps hl hps _ rfl) ⟨⟨_,Y3 _ rfl,rfl,rfl⟩,S.keep fun o e=>Yq _ (Yq _ e),_,Yq _ (Y3 _ rfl),0,rfl⟩ (fun b hb=>?_) (by rw[Yi];exact hl) ?_ (new _ ?_) fun b o e=>Yq _ (Yq _ e)
  ·show a≠_;rw[zT];exact YA (WT ha)
  ·show s.heap.objs.size≠_;rw[zT];exact YA (Qb _)
  ·rcases Yx.mp hb with rfl|hb
   ·refine .inr (new _ ?_);show s.heap.objs.size<=_;rw[zT];exact WH _
   ·rcases Yx.mp hb with rfl|hb
    ·exact .inl rfl
    ·rw[Ym.mp hb];exact .inr (new _ (Yr _))
  ·rw[←eq1];exact hp.map _
  ·show s.heap.objs.size<=_;rw[zT];exact WH _
def R9{Q:Bool->Shared->Prop}(hT:s.TypeIs (.ref a) "set")(h:Q false s):wpAny (model prog w) A (Builtin.List.listLengthHint (.ref a)) Q E s:=by
 unfold Builtin.List.listLengthHint;refine Yk (wpAny_specialOf hT F.slot_set_len.lookup ?_);generalize eid:("set.__len__" : String)=z
 wp_delta
 have sp:splitId z=some ("set","__len__"):=by subst eid;decide +kernel
 rw[sp];subst eid;refine Yk (wpAny_isInstance (T:="set") (b:=true) hT (by rw[isSubtype_type];kernel_rfl) (wpAny_ite_split (fun z=>absurd z (by decide)) fun _=>?_));exact wpAny_ite_split (fun _=>Yk (wpAny_typeOf hT (Ys h))) fun z=>absurd (by decide +kernel) z
def OF{R:Result->Shared->Prop}(hh:A.handled=none)(S:SetAt w s.heap a js es ep t)(D:Addr)(c:Nat)(res:Value)(hD:s.heap.get? D=some {cls:=.type "list",data:=.seq #[] c})(hne:D≠a)(fin:∀(h':Heap) (tk:Nat) (d:Drawn) (vs:List Value) (c':Nat),vs.Perm (es.toList.map (·.2))->h'.get? D=some {cls:=.type "list",dict:=none,data:=.seq vs.toArray c',slots:=#[]}->(∀b o,b≠D->s.heap.get? b=some o->h'.get? b=some o)->R (.ok (.ret res)) {s with heap:=h',toks:=tk,drawn:=d}) :
  wpAny (model prog w) A.in1 (Builtin.List.listExtendWith (.ref D) (.ref a) res) (fun f s'=>match f with | .done f=>R (.ok f) s' | .again c'=>c'.quiet=true/\codeAny (model prog w) A c' R s') (fun e s'=>R (.error e) s') s:=by
 obtain⟨ob,hob,hx,hdd⟩:=S.obj;have hT:s.TypeIs (.ref a) "set":=⟨ob,hob,hx.1⟩;unfold Builtin.List.listExtendWith;refine Yk (wpAny_typeOf (T:="set") hT ?_);have n1:Builtin.List.listSameRef (.ref D) (.ref a)=false:=by simp[Builtin.List.listSameRef,hne]
 have n2:(Value.type "set" == Value.type "list")=false:=by decide
 have n3:(Value.type "set" == Value.type "tuple")=false:=by decide
 simp only[n1,n2,n3,Bool.or_false,Bool.false_eq_true,if_false];refine Yk (Zcj (A':=A.in1) hh S fun I fp vs St h1 d1 W st0 flt hl hp hI keep=>?_);have hDI:D≠I:=fun z=>by rw[←z,hD]at hI;cases hI
 have loop:∀(h:Heap) (tk c1:Nat),St 0 h->(∀b o,b≠D->s.heap.get? b=some o->h.get? b=some o)->h.get? D=some {cls:=.type "list",data:=.seq #[] c1}->D∉fp->
   codeAny (model prog w) A (.builtin "list.extend.loop" ⟨[.ref D,.ref I,res],[]⟩) R {s with heap:=h,toks:=tk,drawn:=d1}:=fun h tk c1 st hk hD1 hDf=>by
  refine codeAny_extend_loopS W.toS (QF S.few) D hDf res es.size 0 _ #[] c1 rfl (Wr _) st hD1 (ItemsOf.nil _) fun s' acc c' hm hD' hacc=>?_
  have ev:acc.toList=vs:=by
   apply Vq;intro k;by_cases hk2:k<acc.size
   ·have e1:acc[k]?=some acc[k]:=W7 hk2;rw[Wu,e1];exact(hacc.2 k _ e1).symm
   ·rw[Wu,Array.getElem?_eq_none (by omega),Qo (by have:=hacc.1;omega)]
  have e2:acc=vs.toArray:=by rw[←ev]
  rw[e2]at hD';rw[Moved.eq_with hm];refine fin s'.heap s'.toks d1 vs c' hp hD' fun b o hb e=>hm.heap b o (fun hmem=>?_) (hk b o hb e);rcases Yx.mp hmem with z|z
  ·exact hb z
  ·rw[Ym.mp z,hI]at e;cases e
 have hDf:D∉fp:=fun hm=>by
  rcases flt D hm with z|z
  ·exact hne z
  ·rw[hD]at z;cases z
 have hT1:Shared.TypeIs {s with heap:=h1,drawn:=d1} (.ref a) "set":=⟨ob,keep _ _ hob,hx.1⟩
 refine Yk (Wx (R9 hT1 ?_));have hD1:=keep _ _ hD;refine wpAny_ite_split (fun _=>?_) fun _=>Ys ⟨QK F.plain_extend_loop _,loop _ _ c st0 (fun b o _ e=>keep b o e) hD1 hDf⟩;refine Yk (wpAny_rule (Yk (?_:wpAny _ _ (updateSeq D (·.push .none) >>= fun _=>updateSeq D (·.pop)) _ _ _)));refine Yk (wpAny_updateSeq hD1 rfl ?_);have hD2:=Wb (Obj.mapSeq (·.push Value.none)) hD1 rfl;refine wpAny_updateSeq (hz:=by seq_fits) hD2 rfl ?_;have hD3:=Wb (Obj.mapSeq (·.pop)) hD2 rfl
 have oth:∀b o,b≠D->h1.get? b=some o->((h1.update D (Obj.mapSeq (·.push Value.none))).update D (Obj.mapSeq (·.pop))).get? b=some o:=fun b o hb e=>
  (We _ _ (Ne.symm hb)).trans ((We _ _ (Ne.symm hb)).trans e)
 exact Ys ⟨QK F.plain_extend_loop _,loop _ _ _ (W.frame 0 _ _ st0 fun b hb o e=>oth b o (fun z=>hDf (z▸hb)) e) (fun b o hb e=>oth b o hb (keep b o e)) hD3 hDf⟩
def HI{R:List Value->Shared->Prop}(hh:A.handled=none)(S:SetAt w s.heap a js es ep t)(fin:∀(h':Heap) (tk:Nat) (d:Drawn) (vs:List Value),vs.Perm (es.toList.map (·.2))->(∀b o,s.heap.get? b=some o->h'.get? b=some o)->s.heap.objs.size<h'.objs.size->R vs {s with heap:=h',toks:=tk,drawn:=d}) :
  wpAny (model prog w) A (collect (.ref a)) R E s:=by
 obtain⟨ob,hob,hx,hdd⟩:=S.obj;have hne:s.heap.objs.size≠a:=QP (Yu hob);unfold collect;refine Yk (wpAny_runValue (Qi entry_proto_collect' ?_));have u1:=WW (A:=A) PySem.F.plain_proto_collect ⟨[.ref a],[]⟩;rw[u1];refine(show wpAny _ A.in1 (newList [] >>= fun l=>again (.builtin "list.__iadd__" ⟨[l,.ref a],[]⟩)) _ _ s from Yk (Wz (Ys ⟨QK PySem.F.plain_list_iadd _,Qi entry_list_iadd' ?_⟩)))
 have u2:=WW (A:=A) PySem.F.plain_list_iadd ⟨[.ref s.heap.objs.size,.ref a],[]⟩;rw[u2];have g1:(s.heap.push {cls:=.type "list",data:=.seq ([]:List Value).toArray}).get? s.heap.objs.size=some {cls:=.type "list",data:=.seq #[]}:=Y3 _ rfl;show wpAny _ A.in1 (Builtin.List.listExtendWith (.ref s.heap.objs.size) (.ref a) (.ref s.heap.objs.size)) _ _ _
 have key:=OF (prog:=prog) (A:=A) (s:={s with heap:=s.heap.push {cls:=.type "list",data:=.seq ([]:List Value).toArray}})
  (R:=fun q s'=>∃h' tk d vs c',q=.ok (.ret (.ref s.heap.objs.size))/\s'={s with heap:=h',toks:=tk,drawn:=d}/\vs.Perm (es.toList.map (·.2))/\(∀b o,s.heap.get? b=some o->h'.get? b=some o)/\
   h'.get? s.heap.objs.size=some {cls:=.type "list",dict:=none,data:=.seq vs.toArray c',slots:=#[]}) hh (S.keep fun o e=>Yq _ e) s.heap.objs.size 0 (.ref s.heap.objs.size) g1 hne
  fun h' tk d vs c' hp hD hk=>⟨h',tk,d,vs,c',rfl,rfl,hp,fun b o e=>hk b o (YA (Yu e)) (Yq _ e),hD⟩
 refine YS key (fun f s' x=>?_) fun e s' x=>?_
 ·cases f with
  |done f=>
   obtain⟨h',tk,d,vs,c',e,rfl,hp,hk,hD⟩:=x;cases e
   refine(show wpAny _ A (load s.heap.objs.size >>= _) _ _ _ from Yk (wpAny_load hD (Ys ?_)))
   exact fin h' tk d vs hp hk (Yu hD)
  |again c1=>
   refine⟨x.1,WJ x.2 fun q s2 y=>?_⟩;obtain⟨h',tk,d,vs,c',rfl,rfl,hp,hk,hD⟩:=y;refine(show wpAny _ A (load s.heap.objs.size >>= _) _ _ _ from Yk (wpAny_load hD (Ys ?_)))
   exact fin h' tk d vs hp hk (Yu hD)
 ·obtain⟨_,_,_,_,_,e',_⟩:=x;cases e'
def EN:∀{l:List (Int×Value)},(∀e∈l,Ent e)->IntsAre (l.map (·.2)) (l.map keyOf)
 |[],_=>.nil
 |e::r,h=>by
  obtain⟨k,t,rfl⟩:=h e YL;exact .cons k t (EN fun x hx=>h x (YB _ hx))
def LK{vs us:List Value}(p:vs.Perm us):∀{ns:List Int},IntsAre us ns->∃ms,IntsAre vs ms/\ms.Perm ns:=by
 induction p with
 |nil=>intro ns h;cases h;exact⟨[],.nil,List.Perm.refl _⟩
 |cons x _ ih=>
  intro ns h;cases h with
  |cons n t r=>
   obtain⟨ms,h1,h2⟩:=ih r;exact⟨n::ms,.cons n t h1,List.Perm.cons _ h2⟩
 |swap x y l=>
  intro ns h;cases h with
  |cons n t r=>
   cases r with
   |cons n' t' r'=>exact⟨n'::n::_,.cons n' t' (.cons n t r'),List.Perm.swap _ _ _⟩
 |trans _ _ ih1 ih2=>
  intro ns h;obtain⟨ms,h1,h2⟩:=ih2 h;obtain⟨ks,h3,h4⟩:=ih1 h1;exact⟨ks,h3,h4.trans h2⟩
def Zay{Q:Value->Shared->Prop}(hh:A.handled=none)(B:SetB w s.heap a js)(h64:js.length<64)
  (fin:∀(l:Addr) (h':Heap) (tk:Nat) (d:Drawn) (out:List Value) (ns:List Int) (e:Nat),IntsAre out ns->ns.Perm js->ns.Pairwise (·<=·)->s.heap.get? l=none->s.heap.objs.size<=l->h'.get? l=some {cls:=.type "list",data:=.seq out.toArray e}->
   (∀b o,s.heap.get? b=some o->h'.get? b=some o)->Q (.ref l) {s with heap:=h',toks:=tk,drawn:=d}) :
  wpAny (model prog w) A (call (.builtin "sorted") [.ref a]) Q E s:=by
 obtain⟨es,ep,t,S⟩:=B;refine Calls.call_function_entry kind_sorted plain_sorted entry_sorted (args_sorted1 _) ?_;unfold Builtin.«sorted»;refine Yk (m:=checkCount "sorted" 1 1 _) (Ys (Yk (HI (A:=A.in1) hh S fun h1 tk d vs hp keep big=>?_)));obtain⟨ms,hI,hms⟩:=LK hp (EN S.ent);have hms2:ms.Perm js:=hms.trans S.per;have hl:vs.length<64:=by rw[IntsAre.length hI,hms2.length_eq];exact h64
 refine Yk (wpAny_newList ?_ (by have:(64:Nat)<=sizeLine:=(by decide);omega));have g1:(h1.push (seqObj "list" vs.toArray 0)).get? h1.objs.size=some (seqObj "list" vs.toArray 0):=Y3 _ rfl;refine Yk (Wx (Qv slot_list_sort ⟨_,g1,rfl⟩ entry_list_sort (list_sort_tree g1 hI hl fun out ns a1 a2 a3=>⟨_,rfl,?_⟩) (args_list_sort _)));obtain⟨e,he⟩:=sortedHeap_at (out:=out) g1;have hsz:s.heap.objs.size<=h1.objs.size:=Q1 big;refine Ys ⟨_,rfl,fin h1.objs.size _ tk d out.toList ns e a1 (a2.trans hms2) a3 ?_ hsz (by simpa [seqObj]using he) fun b o q=>?_⟩
 ·cases q:s.heap.get? h1.objs.size with
  |none=>rfl
  |some o=>exact absurd (Yu (keep _ _ q)) (Wq _)
 ·have hlt:=Yu (keep b o q);rw[sortedHeap_old (YA hlt) (by rw[size_push'];exact WT hlt)];exact Yq _ (keep b o q)
end
end SetR
namespace Own
open PySem PySem.Spec PyProof.Rows L2
def SetH(w:World)(l:Addr)(js:List Int):HO:=.ext fun h=>SetR.SetB w h l js
section
variable {X:Cx}
def Lk{P:Program}{w:World}{H:Hp}{h:Heap}{l:Addr}{js:List Int}(B:SetR.SetB w h l js):ObjOk P w H h l (SetH w l js):=by
 refine⟨B,?_,fun h1 h2 B1 k=>B1.at k⟩;obtain⟨es,ep,t,S⟩:=B;obtain⟨o,ho,_⟩:=S.obj;exact⟨o,ho⟩
def Zc3(hc:X.calm=true):UJ X (.type "set") (fun xs H Q=>∃(p:Addr) (ns:List Int),xs=[.ref p]/\SqL X.K H p (ns.map V.int)/\ns.length+1<4096/\∀l,H l=none->Q (.ref l) (upd H l (SetH X.w l (ns.foldl SetR.addJ [])))):=by
 intro pins s σ H xs us Q I rv h;obtain⟨p,ns,rfl,hS,hz,q⟩:=h;obtain⟨u,rfl,ru⟩:=rv.one;obtain rfl:u=Value.ref p:=ru;obtain⟨its,r,pl,_⟩:=I.list hS;refine SetR.HP (I.ok.hd hc) pl.isList (by simpa using N4 r) hz fun h' tk B keep=>?_;have hf:H s.heap.objs.size=none:=I.hok.fresh (Yr _);exact⟨.ref s.heap.objs.size,upd H s.heap.objs.size (SetH X.w s.heap.objs.size _),I.laid (t':=tk) (fun b o e=>keep b o (Yu e) e) (Yr _) (Lk B),rfl,q _ hf⟩
def E8(hc:X.calm=true):UJ X (.builtin "sorted") (fun xs H Q=>∃(p:Addr) (js:List Int),xs=[.ref p]/\js.length<64/\(SqL X.K H p (js.map V.int)\/H p=some (SetH X.w p js))/\
  ∀(l:Addr) (ns:List Int),H l=none->ns.Perm js->ns.Pairwise (·<=·)->Q (.ref l) (upd H l (.lst (ns.map V.int)))):=by
 intro pins s σ H xs us Q I rv h;obtain⟨p,js,rfl,hz,hS,q⟩:=h;obtain⟨u,rfl,ru⟩:=rv.one;obtain rfl:u=Value.ref p:=ru
 have big:∀{ns:List Int},ns.Perm js->(ns.map V.int).length<=sizeLine:=fun hp=>by
  rw[Yi,hp.length_eq]
  have:(64:Nat)<=sizeLine:=by decide
  omega
 rcases hS with hS|hS
 ·obtain⟨its,r,pl,_⟩:=I.list hS;have hI:IntsAre its js:=by simpa using N4 r
  refine sorted_ints pl.isList hI (by rw[IntsAre.length hI];exact hz) fun out ns a1 a2 a3=>?_;obtain⟨e,he⟩:=sortedAll_at s.heap its out;have hf:H (s.heap.objs.size+1)=none:=I.hok.fresh (WH _);refine⟨.ref (s.heap.objs.size+1),upd H (s.heap.objs.size+1) (.lst (ns.map V.int)),I.laid (t':=s.toks) (fun b o e=>sortedAll_old e) (WH _) ⟨big a2,out.toList,e,N6 a1,?_⟩,rfl,q _ ns hf a2 a3⟩;simpa [seqObj]using he
 ·have B:SetR.SetB X.w s.heap p js:=(show ObjOk X.prog X.w H s.heap p (SetH X.w p js)from I.hok p _ hS).1
  refine SetR.Zay (I.ok.hd hc) B hz fun l h' tk d out ns e a1 a2 a3 nl hl he keep=>?_;have hf:H l=none:=I.hok.fresh hl;refine⟨.ref l,upd H l (.lst (ns.map V.int)),?_,rfl,q l ns hf a2 a3⟩;have ok:HOk X.prog X.w (upd H l (.lst (ns.map V.int))) h':=I.hok.laid keep hl ⟨big a2,out,e,N6 a1,he⟩;exact I.call (ch:=[]) (h':=h') (g':=s.gens) (d':=d) (t':=tk) (Un.laid keep hl hf) ok I.bare (fun b z=>absurd z (by simp))
end
section
variable {X:Cx}{K:Za}
def CK(hK:X.K=K:=by rfl):IxR X (fun x y H Q=>rIxL K x y H Q\/rIxT K x y H Q):=by subst hK;exact IF
def R7(hK:X.K=K:=by rfl):UJ X (.builtin "len") (fun xs H Q=>∃x n,xs=[x]/\LenV K x H n/\Q (.int n) H):=by subst hK;exact Zbw
def Zag(hK:X.K=K:=by rfl):OpR X (compareOp .In) (rIn K false):=by subst hK;exact RW
def Zah(hK:X.K=K:=by rfl):OpR X (compareOp .NotIn) (rIn K true):=by subst hK;exact Zd1
def Kr{pos:Pos}{es:List Expr}{k:Nat}{t:TGs}{n:Nat}(hc:X.calm=true)(h:PGs X es t)(hK:X.K=K:=by rfl)(hn:(assignEach es X.env).length=n:=by rfl)(hst:(assignEach es X.env).findIdx? (·.1)=none:=by rfl):PG X (.Tuple es k pos) (gTup K n t):=by subst hK;exact Zct hc h hn hst
end
section
variable {α:Type}{R:Hp->V->α->Prop}{φ:List (Option Nat)}{g:TG}{tc:TT}{te:TE}{σ:L2.St}{H1:Hp}{F:Hp->Prop}{D:Addr}
def OP{K:Za}{a:Addr}{xs:List V}{ds:List α}(f:α->Option V)(hS:SqL K H1 a xs)(hd:xs.length=ds.length)(hD:H1 D=none)(hz:ds.length<=sizeLine)(turn:∀(i:Nat) (x:V) (d:α) (H2:Hp),xs[i]?=some x->ds[i]?=some d->Same H1 H2->∀k:Option V->Hp->Prop,k (f d) H2->g x (atStart φ σ) H2 fun σ2 H4=>Sub (atStart φ σ) σ2/\tc σ2 H4 fun b H5=>if b=true then te σ2 H5 fun y H6=>k (some y) H6 else k none H5)(done:F (upd H1 D (.lst (ds.filterMap f)))) :
  ∃W:Nat->Nat->List V->Hp->Prop,(∃m,W 0 m [] (upd H1 D (.lst [])))/\
   ∀i m ys H2,W i m ys H2->((Itl K a).stop i H2/\F H2)\/((Itl K a).go i H2/\∀x H3,(Itl K a).yld i H2 x H3->g x (atStart φ σ) H3 fun σ2 H4=>Sub (atStart φ σ) σ2/\tc σ2 H4 fun b H5=>
    if b=true then te σ2 H5 fun y H6=>H6 D=some (.lst ys)/\ys.length<sizeLine/\∃m',m'<m/\W (i+1) m' (ys++[y]) (upd H6 D (.lst (ys++[y])))else ∃m',m'<m/\W (i+1) m' ys H5):=by
 refine⟨fun i m ys H2=>m=ds.length-i/\i<=ds.length/\ys=(ds.take i).filterMap f/\H2=upd H1 D (.lst ys),⟨ds.length,by simp,Wr _,by simp,rfl⟩,?_⟩;rintro i m ys H2 ⟨rfl,hi,rfl,rfl⟩;have S2:Same H1 (upd H1 D (.lst ((ds.take i).filterMap f))):=U0 hD;by_cases hlt:i<ds.length
 ·refine .inr ⟨⟨xs,xs[i]'(by omega),S2.seq hS,by simp[hd,hlt]⟩,fun x H3 y=>?_⟩;obtain⟨e,y⟩:=y;subst e;have hx:=y xs (S2.seq hS);have ed:ds[i]?=some ds[i]:=Yj hlt
  refine turn i x ds[i] _ hx ed S2 (fun o H'=>match o with
   |some y=>H' D=some (.lst ((ds.take i).filterMap f))/\((ds.take i).filterMap f).length<sizeLine/\∃m',m'<ds.length-i/\(m'=ds.length-(i+1)/\i+1<=ds.length/\(ds.take i).filterMap f++[y]=(ds.take (i+1)).filterMap f/\upd H' D (.lst ((ds.take i).filterMap f++[y]))=upd H1 D (.lst ((ds.take i).filterMap f++[y])))
   |none=>∃m',m'<ds.length-i/\(m'=ds.length-(i+1)/\i+1<=ds.length/\(ds.take i).filterMap f=(ds.take (i+1)).filterMap f/\H'=upd H1 D (.lst ((ds.take i).filterMap f)))) ?_
  have et:ds.take (i+1)=ds.take i++[ds[i]]:=YD hlt;cases ef:f ds[i]with
  |some y=>
   refine⟨Ug,?_,ds.length-(i+1),by omega,rfl,hlt,?_,EW⟩
   ·have h1:=List.length_filterMap_le f (ds.take i);rw[YJ]at h1;omega
   ·rw[et,Qp];simp[ef]
  |none=>
   refine⟨ds.length-(i+1),by omega,rfl,hlt,?_,rfl⟩;rw[et,Qp];simp[ef]
 ·have e:i=ds.length:=by omega
  subst e;refine .inl ⟨⟨xs,S2.seq hS,by omega⟩,?_⟩;rw[Wp];exact done
end
def eqL(xs ys:List V):Bool:=decide (xs.length=ys.length)&&(List.range xs.length).all fun j=>eqV (xs.getD j .non) (ys.getD j .non)
def rEqL(K:Za)(neg:Bool):R2:=fun x y H Q=>∃(p q:Addr) (xs ys:List V),x=.ref p/\y=.ref q/\SqL K H p xs/\SqL K H q ys/\xs.all Xu=true/\ys.all Xu=true/\Q (.bl (if neg then !eqL xs ys else eqL xs ys)) H
section
variable {X:Cx}
def Bi{A:Around}{s:Shared}{xs ys:List V}{us ws:List Value}(r1:Vals xs us)(r2:Vals ys ws)(f1:xs.all Xu=true)(f2:ys.all Xu=true)(j:Nat)(h1:j<us.toArray.size)(h2:j<ws.toArray.size) :
  SeqAt.EqAt A s us.toArray[j] ws.toArray[j] (eqV (xs.getD j .non) (ys.getD j .non)):=by
 have l1:=r1.length;have l2:=r2.length;have g1:j<us.length:=by simpa using h1
 have g2:j<ws.length:=by simpa using h2
 have k1:xs[j]?=some (xs[j]'(by omega)):=Yj _;have k2:ys[j]?=some (ys[j]'(by omega)):=Yj _;obtain⟨u,eu,ru⟩:=r1.get k1;obtain⟨w,ew,rw'⟩:=r2.get k2
 have e1:us.toArray[j]=u:=by
  have:us[j]?=some us[j]:=Yj g1
  rw[this]at eu;simpa using Yv eu
 have e2:ws.toArray[j]=w:=by
  have:ws[j]?=some ws[j]:=Yj g2
  rw[this]at ew;simpa using Yv ew
 have d1:xs.getD j .non=xs[j]'(by omega):=by rw[Y1,k1];rfl
 have d2:ys.getD j .non=ys[j]'(by omega):=by rw[Y1,k2];rfl
 rw[e1,e2,d1,d2];exact Cm ru rw' (Qd.mp f1 _ (YC _)) (Qd.mp f2 _ (YC _))
def Zbf(hu:X.A.units<cLine):OpR X (compareOp .Eq) (rEqL X.K false):=by
 intro pins s σ H x y v u Q I rx ry h;obtain⟨p,q,xs,ys,rfl,rfl,hp,hq,f1,f2,k⟩:=h;obtain rfl:v=Value.ref p:=rx;obtain rfl:u=Value.ref q:=ry;obtain⟨us,r1,p1,_⟩:=I.list hp;obtain⟨ws,r2,p2,_⟩:=I.list hq;have l1:=r1.length;have l2:=r2.length;have k':Q (.bl (eqL xs ys)) H:=k;by_cases e:xs.length=ys.length
 ·refine SeqAt.eq_listAt p1.isList p2.isList (by simp;omega) hu (fun j h1 h2=>Bi r1 r2 f1 f2 j h1 h2) ⟨.bl (eqL xs ys),H,I,?_,k'⟩;show _=Value.bool (eqL xs ys);unfold eqL;rw[Yl e,WO,Yz,←l1]
 ·refine SeqAt.eq_list_lengthsAt p1.isList p2.isList (by simp;omega) hu ⟨.bl (eqL xs ys),H,I,?_,k'⟩;show _=Value.bool (eqL xs ys);unfold eqL;rw[Y0 e];rfl
def Zbj(hu:X.A.units<cLine):OpR X (compareOp .NotEq) (rEqL X.K true):=by
 intro pins s σ H x y v u Q I rx ry h;obtain⟨p,q,xs,ys,rfl,rfl,hp,hq,f1,f2,k⟩:=h;obtain rfl:v=Value.ref p:=rx;obtain rfl:u=Value.ref q:=ry;obtain⟨us,r1,p1,_⟩:=I.list hp;obtain⟨ws,r2,p2,_⟩:=I.list hq;have l1:=r1.length;have l2:=r2.length;have k':Q (.bl (!eqL xs ys)) H:=k;by_cases e:xs.length=ys.length
 ·refine SeqAt.RcNeAt.lists p1.isList p2.isList (by simp;omega) hu (fun j h1 h2=>Bi r1 r2 f1 f2 j h1 h2) _ _ _ _ ⟨.bl (!eqL xs ys),H,I,?_,k'⟩;show _=Value.bool (!eqL xs ys);unfold eqL;rw[Yl e,WO,Yz,←l1]
 ·refine SeqAt.RcNeAt.lists_lengths p1.isList p2.isList (by simp;omega) hu _ _ _ _ ⟨.bl (!eqL xs ys),H,I,?_,k'⟩;show _=Value.bool (!eqL xs ys);unfold eqL;rw[Y0 e];rfl
def BM{xs:List Int}{us:List Value}(r:Vals (xs.map V.int) us)(z:Int):∀(j:Nat) (h1:j<us.length) (h2:j<xs.length),Value.isInt z us[j]=(xs[j]==z):=by
 intro j h1 h2;obtain⟨u,eu,t,rfl⟩:=r.get (x:=V.int xs[j]) (i:=j) (by rw[Yw,Yj h2];rfl);rw[Yj h1]at eu;rw[Yv eu];simp[Value.isInt]
def Li{xs:List Int}{us:List Value}(r:Vals (xs.map V.int) us)(z:Int)(t:Tok):∀y,y∈us.toArray->MeetsSeq.EqGives y (.int z t) (Value.isInt z y):=by
 intro y hy;obtain⟨j,hj,rfl⟩:=YE.mp (by simpa using hy:y∈us);have l1:=r.length;rw[Yi]at l1;rw[BM r z j hj (by omega)];obtain⟨u,eu,t',rfl⟩:=r.get (x:=V.int (xs[j]'(by omega))) (i:=j) (by rw[Yw,Yj (show j<xs.length by omega)];rfl);rw[Yj hj]at eu;rw[Yv eu];exact MeetsSeq.EqGives.int _ _ _ _
def B7(K:Za):V->List V->Hp->VK->Prop:=fun x vs H Q=>∃(l:Addr) (xs:List Int) (z:Int),x=.ref l/\vs=[.int z]/\SqL K H l (xs.map V.int)/\z∈xs/\Q (.int (xs.idxOf z:Nat)) H
def IZ:MtM X "list.index" (B7 X.K):=by
 intro pins s σ H x vs v us Q I rx rv h;obtain⟨l,xs,z,rfl,rfl,hS,hz,q⟩:=h;cases rx
 obtain⟨u,rfl,t,rfl⟩:=rv.one;obtain⟨its,r,p1,hsz⟩:=I.list hS;obtain⟨o,n,ho,hc,hdn,hd⟩:=p1;obtain⟨c1,d1,dt1,sl1⟩:=o;simp only at hc hdn hd;subst hc hdn hd;have l1:=r.length;rw[Yi]at l1;have hj:xs.idxOf z<xs.length:=Qe.mpr hz;have hb:xs.length<=2 ^ 24:=by rw[Yi]at hsz;exact hsz
 refine call_meets QD ⟨_,ho,rfl⟩ PySem.F.entry_list_index (PySem.F.args_list_index_2 _ _)
  (SeqAt.list_indexAt l its.toArray n none sl1 (.int z t) (Value.isInt z) (xs.idxOf z) (by simpa [←l1]using hj) (by omega) ?_ ?_) ⟨ho,fun y hy=>(Li r z t y hy).at _ _,⟨.int (xs.idxOf z:Nat),H,I.tok _,⟨_,rfl⟩,q⟩⟩
 ·have e:=BM r z (xs.idxOf z) (by omega) hj;show Value.isInt z its[xs.idxOf z]=true;rw[e];simpa using Q6 hj
 ·intro m hm hlt;have hm':m<its.length:=by simpa using hm
  have e:=BM r z m hm' (by omega);show Value.isInt z its[m]=false;rw[e]
  have:=List.not_of_lt_findIdx (p:=(· == z)) (xs:=xs) (i:=m) hlt
  simpa using this
end
def Ite(K:Za)(a:Addr):It:=
 ⟨fun i H=>∃xs x,SqL K H a xs/\xs[i]?=some x,fun i H x H'=>∃T v,H T=none/\(∀xs,SqL K H a xs->xs[i]?=some v)/\x=.ref T/\H'=upd H T (.tup [.int i,v]),fun i H=>∃xs,SqL K H a xs/\xs.length<=i⟩
def Mc{P:Program}{w:World}{K:Za}{elts:List Expr}{k1:Nat}{tp:Pos}(a e it:Addr)(hne:e≠it) :
  Turn P w K (.Tuple elts k1 tp) (Ite K a) [e,it] e (fun i h=>∃old,IsEnum h e it i old/\h.IsListIter it a i) where
 mem:=by simp
 obj:=fun i h st b hb=>by
  obtain⟨old,h1,o,h2,_,h3⟩:=st;rcases Yx.mp hb with rfl|hb
  ·exact⟨_,h1,fun v z=>by cases z⟩
  ·rw[Ym.mp hb];exact⟨o,h2,fun v z=>by rw[h3]at z;cases z⟩
 keep:=fun i h h' st k=>by
  obtain⟨old,h1,h2⟩:=st;exact⟨old,k e (by simp) _ h1,h2.at fun o q=>k it (by simp) o q⟩
 item:=by
  intro X hP hw hK hc i pins s σ H E I hf st hg;subst hP hw hK;obtain⟨old,he,hit⟩:=st;obtain⟨xs,x,hq,hx⟩:=hg;obtain⟨its,rv,p,hz⟩:=I.list hq;obtain⟨u,hu,ru⟩:=rv.get hx;obtain⟨a0,a1,a2,a3,a4,a5⟩:=hf e (by simp);obtain⟨b0,b1,b2,b3,b4,b5⟩:=hf it (by simp);have hfr:H s.heap.objs.size=none:=I.hok.fresh (Yr _);have heL:e<s.heap.objs.size:=Yu he;have hiL:it<s.heap.objs.size:=by obtain⟨o,ho,_⟩:=hit;exact Yu ho
  refine wpAny_pyNext_enum_item he hit p.isList (x:=u) (by simpa using hu) hne fun h1 eo it1 ht1 hz1 k1=>⟨_,rfl,?_⟩;refine wpAny_letOwnedTupleGo_enum eo fun h2 e2 sb2=>?_;have keep2:∀b o,b∉[e,it]->s.heap.get? b=some o->h2.get? b=some o:=fun b o hb q=>sb2.extBut b o (fun z=>hb (by simp[z])) (k1 b o (fun z=>hb (by simp[z])) (fun z=>hb (by simp[z])) q);have hT2:h2.get? s.heap.objs.size=some {cls:=.type "tuple",data:=.seq #[.int i s.toks,u]}:=sb2.extBut _ _ (QP heL) ht1
  have n0:∀b,b∈[e,it]->H b=none:=fun b hb=>by
   rcases Yx.mp hb with rfl|hb
   ·exact a0
   ·rw[Ym.mp hb];exact b0
  have un:Un (frs X.stack) [e,it] H (upd H s.heap.objs.size (.tup [.int i,x])) s.heap h2:=by
   refine⟨fun b o q _ _ hx'=>keep2 b o hx' q,fun b o q _ _ hx'=>⟨o.slots,keep2 b o hx' q⟩,fun b o q n _=>by rw[JI (YA (Yu q))];exact n,fun b o q hx'=>⟨o,keep2 b o hx' q⟩,
    fun b ys q=>by rw[JI (U8 q hfr)];exact q,fun b o ys q=>by rw[JI (U8 q hfr)];exact q,fun b ps q=>⟨#[],by rw[JI (U8 q hfr),q];simp⟩⟩
  have ok2:HOk X.prog X.w (upd H s.heap.objs.size (.tup [.int i,x])) h2:=fun b o q=>by
   by_cases hb:b=s.heap.objs.size
   ·subst hb;rw[Ug]at q;cases q
    exact⟨by show 2<=sizeLine;decide,[.int i s.toks,u],.cons ⟨_,rfl⟩ (.cons ru .nil),_,hT2,rfl,_,rfl⟩
   ·rw[JI hb]at q;refine(I.hok b o q).stay (fun c v hc' r=>keep2 c v (fun z=>?_) r) (fun c r=>by rw[JI (U8 r hfr)];exact r) fun c ys r=>by rw[JI (U8 r hfr)];exact r
    have hcn:=n0 c z;rcases hc' with rfl|hc'
    ·rw[hcn]at q;cases q
    ·rw[hcn]at hc';cases hc'
  have I2:Inv X pins σ (upd H s.heap.objs.size (.tup [.int i,x])) {s with heap:=h2,toks:=s.toks+1}:=I.call (ch:=[e,it]) (h':=h2) (g':=s.gens) (d':=s.drawn) (t':=s.toks+1) un ok2 I.bare fun b hb=>by
   rcases Yx.mp hb with rfl|hb
   ·exact⟨a3,a1,a4,a5⟩
   ·rw[Ym.mp hb];exact⟨b3,b1,b4,b5⟩
  refine⟨.ref s.heap.objs.size,_,I2,rfl,⟨_,x,hfr,fun ys hy=>by rw[I.list_inj hy hq];exact hx,rfl,rfl⟩,⟨u,?_,it1.at fun o q=>sb2.extBut it o (Ne.symm hne) q⟩,fun b hb=>?_⟩
  ·have:((i+1:Nat):Int)=(i:Int)+1:=by omega
   rw[this];exact e2
  ·rw[JI]
   ·exact n0 b hb
   ·rcases Yx.mp hb with rfl|hb
    ·exact YA heL
    ·rw[Ym.mp hb];exact YA hiL
 done:=by
  intro X hP hw hK hc i pins s σ H E I hf st hg;subst hP hw hK;obtain⟨old,he,hit⟩:=st;obtain⟨xs,hq,hx⟩:=hg;obtain⟨its,rv,p,hz⟩:=I.list hq;obtain⟨b0,b1,b2,b3,b4,b5⟩:=hf it (by simp);have l1:=rv.length;refine wpAny_pyNext_enum_end (I.ok.hd hc) he hit p.isList (by simp;omega) fun h' eb=>⟨rfl,?_⟩;exact I.turned (it:=it) (t':=s.toks) (fun b o hb q=>eb b o hb q) b0 b1 b3 b4 b5
 self:=by
  intro A i s Q E st q;obtain⟨old,he,hit⟩:=st;have hT:s.TypeIs (.ref e) "enumerate":=⟨_,he,rfl⟩;refine wpAny_pyIter_slot hT F.slot_enumerate_iter (Qv F.slot_enumerate_iter hT F.entry_enumerate_iter ?_ (F.args_enumerate_iter_1 _));show wpAny _ _ (ret (.ref e)) _ _ s;exact Ys ⟨_,rfl, "enumerate",_,hT,F.slot_enumerate_next.lookup,q⟩
def Di(K:Za)(ta:TA):TI:=fun σ H R=>ta σ H fun vs H1=>∃a,vs=[.ref a]/\(∃xs,SqL K H1 a xs)/\R (Ite K a) H1
def Zdf{X:Cx}{elts:List Expr}{k1:Nat}{tp:Pos}{a:Expr}{ta:TA}{p pos:Pos}(hg:Gl X "enumerate")(hm:X.mg "enumerate"=none)(ha:PA X [a] ta)(hs:starEach [a] X.env=[(false,eval a X.env)]:=by rfl) :
  PI X (.Tuple elts k1 tp) (.Call (.Name "enumerate" p) [a] [] pos) (Di X.K ta):=by
 intro pins s σ H R I h;refine Call_ (PK I hg hm boot_enumerate (WI (thn (ha pos pins s σ H _ I h) fun us s1 ⟨vs,H1,I1,r1,q1⟩=>?_) hs rfl));obtain⟨l,e1,⟨xs,hq⟩,q⟩:=q1;subst e1;obtain⟨u,rfl,ru⟩:=r1.one;obtain rfl:u=Value.ref l:=ru;obtain⟨its,rv,pl,hz⟩:=I1.list hq;refine call_enumerate_list pl.isList fun h' he hit hsz keep=>?_;have I2:Inv X pins σ H1 {s1 with heap:=h'}:=I1.kept (t':=s1.toks) keep
 have hne:s1.heap.objs.size+1≠s1.heap.objs.size:=Nat.succ_ne_self _;have tn:∃old,IsEnum h' (s1.heap.objs.size+1) s1.heap.objs.size ((0:Nat):Int) old/\h'.IsListIter s1.heap.objs.size l 0:=⟨_,he,hit⟩;have T:=Mc (P:=X.prog) (w:=X.w) (K:=X.K) (elts:=elts) (k1:=k1) (tp:=tp) l (s1.heap.objs.size+1) s1.heap.objs.size hne;refine T.self X.A 0 {s1 with heap:=h'} _ _ tn ⟨_,_,_,_,H1,rfl,I2,T,tn,fun b hb=>?_,q⟩
 rcases Yx.mp hb with rfl|hb
 ·exact I1.fpOk (WH _) (I1.hok.fresh (WH _))
 ·rw[Ym.mp hb];exact I1.fpOk (Yr _) (I1.hok.fresh (Yr _))
section
variable {X:Cx}{K:Za}
def Ax(hK:X.K=K:=by rfl):MtM X "list.index" (B7 K):=by subst hK;exact IZ
def Ei{o e:Expr}{es:List Expr}{to:TE}{t:TA}{name:Str}{apos cpos:Pos}{T id:String}{r:V->List V->Hp->VK->Prop}(pa:PlainAttrs T)(slot:Slot T name id)(hty:typeOf (.builtin id)=pure (.type "method_descriptor"))(hm:MtM X id r)(ho:PE X o to)(ha:PA X (e::es) t)(hK:X.K=K:=by rfl)(hbase:attributeBase o name X.env (eval o X.env)=eval o X.env:=by rfl)
  (hfew:((backTo cpos (starEach (e::es) X.env)).all (fun x=>!x.1)&&(backToKw cpos (keywordEach [] X.env)).all (fun x=>x.1.isSome)
   && decide ((e::es).length+([]:List Keyword).length+(if ([]:List Keyword).isEmpty then 0 else 1)<30))=true:=by rfl)
  (hline:(apos.endLine==cpos.line)=true:=by rfl) (hs:starEach (e::es) X.env=(false,eval e X.env)::starEach es X.env:=by rfl) (hplain:(backTo cpos (starEach es X.env)).any (·.1)=false:=by rfl) :
  PE X (.Call (.Attribute o name apos) (e::es) [] cpos) (tBM K T r to t):=by
 subst hK;exact Ku pa slot hty hm ho ha hbase hfew hline hs hplain
end
def Ft(xs ys:List Int):eqL (xs.map V.int) (ys.map V.int)=decide (xs=ys):=by
 unfold eqL;rw[Yi,Yi];by_cases e:xs=ys
 ·subst e;rw[Yl rfl,Yl rfl,WO,Qd];intro j hj;have hj':j<xs.length:=by simpa using hj
  rw[Y1,Yw,Yj hj'];show(xs[j]==xs[j])=true;simp
 ·rw[Y0 e];by_cases hl:xs.length=ys.length
  ·rw[Yl hl,WO,WA];intro hall;apply e;apply List.ext_getElem hl;intro j h1 h2
   have:=Qd.mp hall j (by simpa using h1)
   rw[Y1,Yw,Yj h1,Y1,Yw,Yj h2]at this;have h3:(xs[j]==ys[j])=true:=this;simpa using h3
  ·rw[Y0 hl];rfl
def Ky(xs:List Int):(xs.map V.int).all Xu=true:=by
 rw[List.all_map];exact Qd.mpr fun _ _=>rfl
end Own
namespace M
open PySem PySem.Spec PyProof.Rows L2 Own
def LV{α:Type}(R:Hp->V->α->Prop)(H:Hp)(vs:List V)(xs:List α):Prop:=
 vs.length=xs.length/\∀(i:Nat) (x:α),xs[i]?=some x->∃v,vs[i]?=some v/\R H v x
def LAt{α:Type}(R:Hp->V->α->Prop)(H:Hp)(l:Addr)(xs:List α):Prop:=∃vs,H l=some (.lst vs)/\LV R H vs xs
def Xz(H:Hp)(v:V)(q:Int×Int):Prop:=∃a,v=.ref a/\H a=some (.tup [.int q.1,.int q.2])
section
variable {α:Type}{R:Hp->V->α->Prop}{H H':Hp}{vs:List V}{xs:List α}{l:Addr}
def LV.get {i:Nat}{v:V} (h:LV R H vs xs) (e:vs[i]?=some v):∃x,xs[i]?=some x/\R H v x:=by
 have hi:i<xs.length:=by rw[←h.1];exact(Y2.mp e).1
 obtain⟨v',e',r⟩:=h.2 i xs[i] (by simp[hi]);rw[e]at e';cases e';exact⟨_,by simp[hi],r⟩
end
def Menu(m:List Int):Prop:=∃a b c d e:Int,m=[a,b,c,d,e]/\(1<=a/\a<=10)/\(1<=b/\b<=9/\(b=1\/b=3\/b=7\/b=9))/\(0<=c/\c<=9)/\(1<=d/\d<=1000)/\(1<=e/\e+d<=1001)
def Field(ps:List (Int×Int)):Prop:=∀q∈ps,1<=q.1/\q.1<=10/\1<=q.2/\q.2<=1000
def Ls(js:List Int)(k z:Int):z∈SetR.addJ js k↔z∈js\/z=k:=by
 unfold SetR.addJ;split
 ·rename_i h;constructor
  ·exact fun x=>.inl x
  ·rintro(x|rfl)
   ·exact x
   ·exact h
 ·simp
def D5:∀(ns js:List Int) (z:Int),z∈ns.foldl SetR.addJ js↔z∈js\/z∈ns
 |[],js,z=>by simp
 |n::r,js,z=>by
  rw[List.foldl_cons,D5 r,Ls,Yx];constructor
  ·rintro((h|h)|h)
   ·exact .inl h
   ·exact .inr (.inl h)
   ·exact .inr (.inr h)
  ·rintro(h|h|h)
   ·exact .inl (.inl h)
   ·exact .inl (.inr h)
   ·exact .inr h
def Ly{js:List Int}(k:Int)(h:js.Nodup):(SetR.addJ js k).Nodup:=by
 unfold SetR.addJ;split
 ·exact h
 ·rename_i hk;exact W1.mpr ⟨h,by simp,fun x hx y hy=>by rw[Ym.mp hy];rintro rfl;exact hk hx⟩
def D6:∀(ns:List Int) {js:List Int},js.Nodup->(ns.foldl SetR.addJ js).Nodup
 |[],_,h=>h
 |n::r,js,h=>D6 r (Ly n h)
def Az:∀(ns js:List Int),(ns.foldl SetR.addJ js).length<=js.length+ns.length
 |[],js=>by simp
 |n::r,js=>by
  have h1:=Az r (SetR.addJ js n)
  have h2:(SetR.addJ js n).length<=js.length+1:=by
   unfold SetR.addJ;split
   ·omega
   ·simp
  rw[List.foldl_cons,Y6];omega
def T4{l:List Int}(h:l.Pairwise (·<=·))(n:l.Nodup):l.Pairwise (· < ·):=by
 have:=h.and n
 exact this.imp fun {a b} h=>by have:=h.1;have:=h.2;omega
def Bz{l₁ l₂:List Int}(h1:l₁.Pairwise (· < ·))(h2:l₂.Pairwise (· < ·))(h:∀z,z∈l₁↔z∈l₂):l₁=l₂:=by
 have n1:l₁.Nodup:=h1.imp fun {a b} h=>by omega
 have n2:l₂.Nodup:=h2.imp fun {a b} h=>by omega
 have p:l₁.Perm l₂:=(List.perm_ext_iff_of_nodup n1 n2).mpr h;exact p.eq_of_pairwise (le:=(· < ·)) (fun a b _ _ x y=>by omega) h1 h2
def tenL:List Int:=[1,2,3,4,5,6,7,8,9,10]
def Zcn{z:Int}:z∈tenL↔1<=z/\z<=10:=by
 unfold tenL;constructor
 ·intro h;simp only[Yx,QM,or_false]at h;omega
 ·rintro⟨h1,h2⟩;simp only[Yx,QM,or_false];omega
def JX(ps:List (Int×Int)):List Int:=tenL.filter fun h=>decide (h∈ps.map (·.1))
def Ke(ps:List (Int×Int)):(JX ps).Pairwise (· < ·):=List.Pairwise.filter _ (by unfold tenL;decide)
def Mu{ps:List (Int×Int)}(hF:Field ps){z:Int}:z∈JX ps↔z∈ps.map (·.1):=by
 unfold JX;rw[YG,W2,Zcn];constructor
 ·exact fun h=>h.2
 ·intro h;obtain⟨q,hq,rfl⟩:=YU.mp h
  have:=hF q hq
  exact⟨⟨this.1,this.2.1⟩,h⟩
def Kt(ps:List (Int×Int)):(JX ps).length<=10:=by
 have:=Wc (fun h=>decide (h∈ps.map (·.1))) tenL
 exact this
def Zal{ps:List (Int×Int)}{ns:List Int}(hF:Field ps)(p:ns.Perm ((ps.map (·.1)).foldl SetR.addJ []))(h:ns.Pairwise (·<=·)):ns=JX ps:=by
 have nd:ns.Nodup:=p.symm.nodup (D6 _ WZ);refine Bz (T4 h nd) (Ke ps) fun z=>?_;rw[p.mem_iff,D5,Mu hF];simp
def Gj(z:Int)(xs:List Int):inV (.int z) (xs.map V.int)=decide (z∈xs):=by
 unfold inV;rw[List.any_map]
 induction xs with
 |nil=>simp
 |cons x r ih=>
  rw[Qg,ih];show((x==z) || _)=_;by_cases e:x=z
  ·subst e;simp
  ·have:(x==z)=false:=by simpa using e
   rw[this];simp only[Bool.false_or];by_cases h:z∈r
   ·rw[Yl h,Yl (YB _ h)]
   ·rw[Y0 h,Y0];intro hz;rcases Yx.mp hz with hz|hz
    ·exact e hz.symm
    ·exact h hz
def R3:tenL=(List.range 10).map fun(i:Nat)=>(1:Int)+(i:Int):=by decide
def Zew{ps:List (Int×Int)}{os ns:List Int}(hp:os.Perm (JX ps))(h1:ns.Perm os)(h2:ns.Pairwise (·<=·)):ns=JX ps:=by
 have nd:(JX ps).Nodup:=(Ke ps).imp fun {a b} h=>by omega
 have p:=h1.trans hp;have nd2:ns.Nodup:=p.symm.nodup nd;exact Bz (T4 h2 nd2) (Ke ps) fun z=>p.mem_iff
section
variable (ps:List (Int×Int))
def tpM(y:Int):Nat->Int
 | 0=>0
 |j+1=>tpM y j+(if (ps.getD j (0,0)).1=y then(ps.getD j (0,0)).2 else 0)
def pcM(x y:Int):Nat->Int
 | 0=>0
 |k+1=>pcM x y k+(if x≠y/\(ps.getD k (0,0)).1=x then tpM ps y k*(ps.getD k (0,0)).2 else 0)
end
end M
namespace ExcR
open PySem PySem.Spec PyProof.Rows L2
structure KeepX (fs ex:List Addr) (h h':Heap):Prop where
 keep:∀b o,h.get? b=some o->b∉fs->b∉ex->h'.get? b=some o
 slot:∀b o,h.get? b=some o->b∉ex->∃sl,h'.get? b=some {o with slots:=sl}
 size:h.objs.size<=h'.objs.size
def KeepX.trans {fs ex:List Addr}{h1 h2 h3:Heap} (a:KeepX fs ex h1 h2) (b:KeepX fs ex h2 h3):KeepX fs ex h1 h3:=
 ⟨fun c o e n m=>b.keep c o (a.keep c o e n m) n m,fun c o e m=>by
  obtain⟨s1,e1⟩:=a.slot c o e m;obtain⟨s2,e2⟩:=b.slot c _ e1 m;exact⟨s2,e2⟩,Yy a.size b.size⟩
def KeepX.mono {fs fs' ex ex':List Addr}{h1 h2:Heap} (a:KeepX fs ex h1 h2) (hf:∀b∈fs,b∈fs') (hx:∀b∈ex,b∈ex'):KeepX fs' ex' h1 h2:=
 ⟨fun c o e n m=>a.keep c o e (fun z=>n (hf c z)) (fun z=>m (hx c z)),fun c o e m=>a.slot c o e fun z=>m (hx c z),a.size⟩
def HQ(o:Obj)(f):(o.mapFields f).dict=o.dict:=by
 obtain⟨c,d,dt,sl⟩:=o;cases dt<;>rfl
structure Trc (h:Heap) (e T:Addr) (cls:Value×Option Addr) (fl:Value):Prop where
 ne:T≠e
 exc:∃oe vs,h.get? e=some oe/\(oe.cls,oe.dict)=cls/\oe.data=.fields vs/\vs[1]?=some (.ref T)
 ent:∃oT ts,h.get? T=some oT/\oT.data=.fields ts/\ts[3]?=some fl
section
variable {M:Model}{A:Around}{E:Value->Shared->Prop}{s:Shared}{base:Heap}{env:Env}{outer:List Env}{L e:Addr}
def AO{oe:Obj}{vs:Array Value}{head:Value}{hadNext:Bool}{Q:Unit->Shared->Prop}(hfr:A.frames=some (env::outer))(hl:s.heap.FunFrames base (env::outer))(hf:env.frame=some L)(he:s.heap.get? e=some oe)(hd:oe.data=.fields vs)(hsz:1<vs.size)(h:∀h' T,s.heap.objs.size<=T->Trc h' e T (oe.cls,oe.dict) (rawInt L)->KeepX (frs (env::outer)) [e] s.heap h'->Q () {s with heap:=h'}) :
  wpAny M A (do let a ←frameOf env;let pl ←entryPlaceOf L hadNext;let b ←EntryCells.newEntry head a .none (rawInt L) .none pl;setField (.ref e) 1 b) Q E s:=by
 have hene:e∉frs (env::outer):=fun hm=>by
  obtain⟨_,o,ho,hnf⟩:=hl.mem hm;rw[he]at ho;cases ho
  exact hnf vs hd
 refine Yk (wpAny_frameOf_fun hfr hl hf fun h1 s1=>Yk (wpAny_entryPlaceOf fun pl hpl=>?_));unfold EntryCells.newEntry newFields;refine Yk (Wz ?_ (hpl.sizeOk5 _ _ _ _ _));have he1:h1.get? e=some oe:=(s1.2.1 e hene).trans he;generalize eo:({cls:=.type "traceback",dict:=none,data:=.fields ([head,.ref L,.none,rawInt L,.none]++(if pl.isEmpty then List.replicate 6 Value.none else pl)).toArray}:Obj)=ot;have he2:=Yq (h:=h1) ot he1;refine Qa he2 hd hsz (h _ h1.objs.size (W8 s1.1.symm) ?_ ?_)
 ·have ne1:h1.objs.size≠e:=QP (Yu he1);have d3:=Ww hd (·.setIfInBounds 1 (Value.ref h1.objs.size));refine⟨ne1,⟨_,_,Wb _ he2 (WN d3),by rw[Obj.cls_mapFields,HQ],d3,by simp[hsz]⟩,ot,_,?_,by rw[←eo],?_⟩
  ·exact(We _ _ (Ne.symm ne1)).trans (Y3 h1 (by rw[←eo];rfl))
  ·first
    |(simp;done)
    |(rcases hpl with rfl|⟨_,_,_,_,_,_,_,rfl⟩<;>simp)
 ·refine⟨fun b o q nb nx=>?_,fun b o q nx=>?_,?_⟩
  ·have hbe:b≠e:=fun z=>nx (by simp[z]);rw[We _ _ (Ne.symm hbe)];exact Yq _ ((s1.2.1 b nb).trans q)
  ·have hbe:b≠e:=fun z=>nx (by simp[z]);obtain⟨sl,q1⟩:=s1.2.2 b o q;exact⟨sl,by rw[We _ _ (Ne.symm hbe)];exact Yq _ q1⟩
  ·rw[Heap.size_update,WE,s1.1];exact WH _
def OT{oe:Obj}{vs:Array Value}{Q:Unit->Shared->Prop}(hfr:A.frames=some (env::outer))(hl:s.heap.FunFrames base (env::outer))(hf:env.frame=some L)(he:s.heap.get? e=some oe)(hd:oe.data=.fields vs)(h1:vs[1]?=some .none)(h:∀h' T,s.heap.objs.size<=T->Trc h' e T (oe.cls,oe.dict) (rawInt L)->KeepX (frs (env::outer)) [e] s.heap h'->Q () {s with heap:=h'}):wpAny M A (noteFrame (.ref e) env) Q E s:=by
 unfold noteFrame;simp only[hf];refine Yk (wpAny_field he hd h1 ?_);rw[Yo (by decide)];exact AO hfr hl hf he hd (Qx.mp h1).1 h
def GV{T:Addr}{cls:Value×Option Addr}{fl:Value}{Q:Unit->Shared->Prop}(x:Trc s.heap e T cls fl)(h:∀h',Trc h' e T cls .none->KeepX [] [T] s.heap h'->Q () {s with heap:=h'}) :
  wpAny M A (setField (.ref T) 3 .none) Q E s:=by
 obtain⟨ne,⟨oe,vs,g1,g2,g3,g4⟩,oT,ts,k1,k2,k3⟩:=x;have hz:=(Qx.mp k3).1;refine Qa k1 k2 hz (h _ ?_ ?_)
 ·have d3:=Ww k2 (·.setIfInBounds 3 Value.none);exact⟨ne,⟨oe,vs,(We _ _ ne).trans g1,g2,g3,g4⟩,_,_,Wb _ k1 (WN d3),d3,by simp[hz]⟩
 ·have ot:∀b,b≠T->(s.heap.update T (Obj.mapFields (·.setIfInBounds 3 Value.none))).get? b=s.heap.get? b:=fun b hb=>We _ _ (Ne.symm hb);exact⟨fun b o q _ nx=>(ot b fun z=>nx (by simp[z])).trans q,fun b o q nx=>⟨o.slots,(ot b fun z=>nx (by simp[z])).trans q⟩,W8 (Heap.size_update ..).symm⟩
def AA{T:Addr}{cls:Value×Option Addr}{Q:Unit->Shared->Prop}(hfr:A.frames=some (env::outer))(hl:s.heap.FunFrames base (env::outer))(hf:env.frame=some L)(x:Trc s.heap e T cls .none)(h:∀h' T',s.heap.objs.size<=T'->Trc h' e T' cls (rawInt L)->KeepX (frs (env::outer)) [e,T] s.heap h'->Q () {s with heap:=h'}):wpAny M A (noteFrame (.ref e) env) Q E s:=by
 obtain⟨ne,⟨oe,vs,g1,g2,g3,g4⟩,oT,ts,k1,k2,k3⟩:=id x;unfold noteFrame;simp only[hf];refine Yk (wpAny_field g1 g3 g4 ?_);rw[Yn (show(Value.ref T != Value.none)=true from by simp)]
 refine Yk (wpAny_field k1 k2 k3 ?_);rw[Yo (show ¬((Value.none==rawInt L)=true)from by simp[rawInt])]
 refine Yk (GV x fun h1 x1 K1=>?_)
 have hTf:T∉frs (env::outer):=fun hm=>by
  obtain⟨_,o,ho,hnf⟩:=hl.mem hm;rw[k1]at ho;cases ho
  exact hnf ts k2
 have hl1:h1.FunFrames base (env::outer):=hl.of_keeps fun b o q hnf=>⟨o,K1.keep b o q (by simp) (fun z=>by
  rw[Ym.mp z,k1]at q;cases q
  exact hnf ts k2),rfl⟩
 obtain⟨_,⟨oe1,vs1,p1,p2,p3,p4⟩,_⟩:=id x1;refine AO (s:={s with heap:=h1}) hfr hl1 hf p1 p3 (Qx.mp p4).1 fun h2 T' hT' x2 K2=>h h2 T' (Yy K1.size hT') (by rw[←p2];exact x2) ?_
 exact(K1.mono (by simp) (by simp)).trans (K2.mono (fun _ z=>z) (by simp))
def Nw{T:Addr}{cls:Value×Option Addr}{fl:Value}{Q:Unit->Shared->Prop}(x:Trc s.heap e T cls fl)(h:∀h',Trc h' e T cls .none->KeepX [] [T] s.heap h'->Q () {s with heap:=h'}) :
  wpAny M A (setFlight (.ref e) none) Q E s:=by
 obtain⟨ne,⟨oe,vs,g1,g2,g3,g4⟩,_⟩:=id x;unfold setFlight;refine Yk (wpAny_field g1 g3 g4 ?_);rw[Yn (show(Value.ref T != Value.none)=true from by simp)]
 exact GV x h
def IC{oe:Obj}{vs:Array Value}{Q:Unit->Shared->Prop}(hfr:A.frames=some (env::outer))(hl:s.heap.FunFrames base (env::outer))(hf:env.frame=some L)(he:s.heap.get? e=some oe)(hd:oe.data=.fields vs)(h1:vs[1]?=some .none)(h:∀h' T,s.heap.objs.size<=T->Trc h' e T (oe.cls,oe.dict) .none->KeepX (frs (env::outer)) [e] s.heap h'->Q () {s with heap:=h'}):wpAny M A (leaving env (.ref e)) Q E s:=by
 unfold leaving;refine Yk (OT hfr hl hf he hd h1 fun h2 T hT x K=>Nw x fun h3 x3 K3=>h h3 T hT x3 ?_);refine⟨fun b o q nb nx=>K3.keep b o (K.keep b o q nb nx) (by simp) (fun z=>?_),fun b o q nx=>?_,Yy K.size K3.size⟩
 ·rw[Ym.mp z]at q;exact absurd (Yu q) (QA.mpr hT)
 ·obtain⟨sl,q2⟩:=K.slot b o q nx;exact⟨sl,K3.keep b _ q2 (by simp) (fun z=>by rw[Ym.mp z]at q;exact absurd (Yu q) (QA.mpr hT))⟩
def L7{T:Addr}{cls:Value×Option Addr}{Q:Unit->Shared->Prop}(hfr:A.frames=some (env::outer))(hl:s.heap.FunFrames base (env::outer))(hf:env.frame=some L)(x:Trc s.heap e T cls .none)(h:∀h' T',s.heap.objs.size<=T'->Trc h' e T' cls .none->KeepX (frs (env::outer)) [e,T] s.heap h'->Q () {s with heap:=h'}):wpAny M A (leaving env (.ref e)) Q E s:=by
 unfold leaving;refine Yk (AA hfr hl hf x fun h2 T' hT x2 K=>Nw x2 fun h3 x3 K3=>h h3 T' hT x3 ?_);refine⟨fun b o q nb nx=>K3.keep b o (K.keep b o q nb nx) (by simp) (fun z=>?_),fun b o q nx=>?_,Yy K.size K3.size⟩
 ·rw[Ym.mp z]at q;exact absurd (Yu q) (QA.mpr hT)
 ·obtain⟨sl,q2⟩:=K.slot b o q nx;exact⟨sl,K3.keep b _ q2 (by simp) (fun z=>by rw[Ym.mp z]at q;exact absurd (Yu q) (QA.mpr hT))⟩
end
section
variable {P:Program}{w:World}{H H':Hp}{h h':Heap}{a:Addr}{o:HO}{fs ex:List Addr}
def has(x:ObjOk P w H h a o):∃u,h.get? a=some u:=by
 cases o with
 |lst xs=>exact let ⟨_,_,_,_,e⟩:=x;⟨_,e⟩
 |tup xs=>exact let ⟨_,_,_,u,e,_⟩:=x;⟨u,e⟩
 |dK kvs=>exact let ⟨_,_,_,_,u,_,_,e,_⟩:=x;⟨u,e⟩
 |dT kvs=>exact let ⟨_,_,_,_,u,_,_,e,_⟩:=x;⟨u,e⟩
 |set S n=>exact let ⟨u,_,_,_,e,_⟩:=x;⟨u,e⟩
 |ins C dx fs=>exact let ⟨_,_,_,e,_⟩:=x;⟨_,e⟩
 |own y=>exact x
 |xd fs=>exact let ⟨_,⟨u,_,_,e,_⟩,_⟩:=x;⟨u,e⟩
 |rng lo hi=>exact let ⟨_,_,_,e⟩:=x;⟨_,e⟩
 |frz ob u=>exact⟨_,x.1⟩
 |tbl ps=>exact⟨_,x⟩
 |met f y=>exact⟨_,x⟩
 |ext φ=>exact x.2.1
def NI(ok:HOk P w H h)(e:h.get? a=none):H a=none:=by
 cases q:H a with
 |none=>rfl
 |some o=>
  obtain⟨u,z⟩:=has (ok a o q);rw[e]at z;cases z
def Np(ok:HOk P w H h)(k:KeepX fs ex h h')(hf:∀b∈fs,H b=none)(hx:∀b∈ex,H b=none):HOk P w H h':=fun a o e=>by
 refine(ok a o e).stay (fun b u hb q=>?_) (fun _ q=>q) (fun _ _ q=>q)
 have hn:H b≠none:=by
  rcases hb with rfl|hb
  ·rw[e];simp
  ·rw[hb];simp
 exact k.keep b u q (fun z=>hn (hf b z)) fun z=>hn (hx b z)
end
structure XAt (P:Program) (w:World) (outer:List Env) (H H':Hp) (s s':Shared) (a T C:Addr) (dx:Option Addr):Prop where
 os:s'.os=s.os
 bare:AllBare s'.gens
 un:Un (frs outer) [] H H' s.heap s'.heap
 hok:HOk P w H' s'.heap
 na:s.heap.get? a=none
 nT:s.heap.get? T=none
 fa:H' a=none
 fT:H' T=none
 tr:Trc s'.heap a T (.ref C,dx) .none
def CXe(P:Program)(w:World):CXT:=fun outer H s E e s'=>∃a T C dx H',e=.ref a/\XAt P w outer H H' s s' a T C dx/\E (.ref C) dx H'
section
variable {X:Cx}{pins:List (Addr×Obj)}{σ:L2.St}{H H':Hp}{s s':Shared}{a T C:Addr}{dx:Option Addr}
def CL{ex:List Addr}{h':Heap}(I:Inv X pins σ H s)(hex:X.ex=[])(k:KeepX (frs X.stack) ex s.heap h')(hx:∀b∈ex,X.s₀.heap.get? b=none):Un X.fs [] X.H₀ H X.s₀.heap h':=by
 have B:=I.base;rw[hex]at B;have out:∀b o,X.s₀.heap.get? b=some o->b∉ex:=fun b o q z=>by rw[hx b z]at q;cases q
 have nl:∀b o,X.s₀.heap.get? b=some o->b∉X.fs->b∉frs X.stack:=fun b o q nf z=>by
  rcases Yx.mp (I.stkSub b z)with e|e
  ·have h1:=Yu q;have h2:=I.ok.above;rw[e]at h1;exact absurd h1 (QA.mpr h2)
  ·exact nf e
 refine⟨fun b o q n nf ne=>k.keep b o (B.keep b o q n nf ne) (nl b o q nf) (out b o q),fun b o q n hf ne=>?_,fun b o q n ne=>B.free b o q n ne,fun b o q ne=>?_,B.tups,B.frzs,B.tbls⟩
 ·obtain⟨sl,q1⟩:=B.slot b o q n hf ne;obtain⟨sl2,q2⟩:=k.slot b _ q1 (out b o q);exact⟨sl2,q2⟩
 ·obtain⟨o1,q1⟩:=B.there b o q ne;obtain⟨sl2,q2⟩:=k.slot b _ q1 (out b o q);exact⟨_,q2⟩
def Nq{b:Addr}(I:Inv X pins σ H s)(hex:X.ex=[])(e:s.heap.get? b=none):X.s₀.heap.get? b=none:=by
 cases q:X.s₀.heap.get? b with
 |none=>rfl
 |some o=>
  obtain⟨u,z⟩:=I.base.there b o q (by rw[hex];simp);rw[e]at z;cases z
variable {E:Value->Shared->Prop}
def Zd9(I:Inv X pins σ H s)(hex:X.ex=[])(hst:X.stack=X.env::X.outer)(hfr:X.env.frame=some X.env.locals)(x:XAt X.prog X.w X.stack H H' s s' a T C dx) :
  wpAny (model X.prog X.w) X.A (leaving X.env (.ref a)) (fun _ s2=>∃T2,XAt X.prog X.w X.outer X.H₀ H' X.s₀ s2 a T2 C dx) E s':=by
 have J:Inv X pins σ H' s':=I.call' (ch:=[]) x.os x.un x.hok x.bare fun b z=>absurd z (by simp);have hF:=J.stack;have hA:=J.ok.frames;rw[hst]at hF hA;refine L7 hA hF hfr x.tr fun h2 T2 hT2 tr k=>⟨T2,J.os,J.bare,?_,?_,Nq I hex x.na,?_,x.fa,x.hok.fresh hT2,tr⟩
 ·exact CL J hex (by rw[hst];exact k) fun b hb=>by
   rcases Yx.mp hb with rfl|hb
   ·exact Nq I hex x.na
   ·rw[Ym.mp hb];exact Nq I hex x.nT
 ·refine Np x.hok k (fun b hb=>J.stkFree b (by rw[hst];exact hb)) fun b hb=>?_;rcases Yx.mp hb with rfl|hb
  ·exact x.fa
  ·rw[Ym.mp hb];exact x.fT
 ·exact WU (Yy J.sz hT2)
def D1{oe:Obj}{vs:Array Value}(J:Inv X pins σ H s)(hex:X.ex=[])(hst:X.stack=X.env::X.outer)(hfr:X.env.frame=some X.env.locals)(na:X.s₀.heap.get? a=none)(fa:H a=none)(he:s.heap.get? a=some oe)(hc:oe.cls=.ref C)(hdx:oe.dict=dx)(hd:oe.data=.fields vs)(h1:vs[1]?=some .none) :
  wpAny (model X.prog X.w) X.A (leaving X.env (.ref a)) (fun _ s2=>∃T2,XAt X.prog X.w X.outer X.H₀ H X.s₀ s2 a T2 C dx) E s:=by
 have hF:=J.stack;have hA:=J.ok.frames;rw[hst]at hF hA;refine IC hA hF hfr he hd h1 fun h2 T2 hT2 tr k=>⟨T2,J.os,J.bare,?_,?_,na,?_,fa,J.hok.fresh hT2,by rw[←hc,←hdx];exact tr⟩
 ·exact CL J hex (by rw[hst];exact k) fun b hb=>by rw[Ym.mp hb];exact na
 ·exact Np J.hok k (fun b hb=>J.stkFree b (by rw[hst];exact hb)) fun b hb=>by rw[Ym.mp hb];exact fa
 ·exact WU (Yy J.sz hT2)
def L9{h':Heap}{oe:Obj}{vs:Array Value}(I:Inv X pins σ H s)(hex:X.ex=[])(hst:X.stack=X.env::X.outer)(hfr:X.env.frame=some X.env.locals)(keeps:∀b o,s.heap.get? b=some o->h'.get? b=some o)(new:s.heap.get? a=none)(he:h'.get? a=some oe)(hc:oe.cls=.ref C)(hdx:oe.dict=dx)(hd:oe.data=.fields vs)(h1:vs[1]?=some .none) :
  wpAny (model X.prog X.w) X.A (leaving X.env (.ref a)) (fun _ s2=>∃T2,XAt X.prog X.w X.outer X.H₀ H X.s₀ s2 a T2 C dx) E {s with heap:=h'}:=
 D1 (s:={s with heap:=h'}) (I.call' (s':={s with heap:=h'}) (ch:=[]) rfl (Un.kept keeps) (I.hok.kept keeps) I.bare fun b z=>absurd z (by simp)) hex hst hfr (Nq I hex new) (NI I.hok new) he hc hdx hd h1
end
structure ErrCls (K:Za) (C:Addr):Prop where
 q:PySem.W.excIn K C [.type "ValueError",.type "Exception",.type "BaseException",.type "object"] "ValueError.__new__"=true
def ErrCls.obj {K:Za}{C:Addr}{h:Heap} (c:ErrCls K C) (k:K.In h):∃bm N nm q bs hdct sn sub ab col dd k0 k1 k2 k3 k5 mN,h.get? C=some (excClassObj nm q C N bs bm hdct sn sub ab col dd k0 k1 k2 k3 k5 "ValueError.__new__")/\h.Ns N mN/\mN "__init__"=none/\
  OwnTail h [.type "ValueError",.type "Exception",.type "BaseException",.type "object"] bm:=by
 have e:=c.q;unfold PySem.W.excIn at e;split at e
 next dd cd sl ho=>
  split at e
  next C1 bm k0 k1 k2 k3 n k5 hm hs=>
   simp only[Y9,beq_iff_eq,QG]at e;obtain⟨⟨⟨⟨⟨e1,e2⟩,e3⟩,e4⟩,e5⟩,e6⟩:=e;subst e1 e2;have hg:=k _ _ ho;cases cd with
   |mk nm bs mro ns qn hd sn sub ab col del=>
    simp only at hm e3 e5 e6
    have hsl:sl=#[k0,k1,k2,k3,some (.builtin "ValueError.__new__"),k5]:=by
     cases sl with
     |mk l=>simp only at hs;rw[hs]
    rw[hm,e3,hsl]at hg;exact⟨bm,ns,nm,qn,bs,hd,sn,sub,ab,col,dd,k0,k1,k2,k3,k5,_,hg,.of_isNs (Vj k e5),PySem.W.nsMap_none_of_in k e5 e6,PySem.W.tail_of_in k e4⟩
  next=>cases e
 next=>cases e
abbrev TF:=L2.St->Hp->Str->(Str->Hp->Prop)->Prop
def PF(X:Cx)(es:List Expr)(t:TF):Prop:=
 ∀(pins:List (Addr×Obj)) (s:Shared) (σ:L2.St) (H:Hp) (out:Str) (Q:Str->Hp->Prop),Inv X pins σ H s->t σ H out Q->
  wpAny (model X.prog X.w) X.A (joinParts out (evalEach es X.env)) (fun u s'=>∃x H',Inv X pins σ H' s'/\RelV (.str x) u/\Q x H') X.xe s
section
variable {X:Cx}{e e1 e2:Expr}{es:List Expr}{t:TF}{tv:TE}{pos:Pos}
def fNil:TF:=fun _ H out Q=>out.length<=sizeLine/\Q out H
def fStr(x:Str)(t:TF):TF:=fun σ H out Q=>(out++x).length<=sizeLine/\t σ H (out++x) Q
def fVal(tv:TE)(t:TF):TF:=fun σ H out Q=>tv σ H fun v H1=>(∃i:Int,v=.int i/\i.natAbs.log2<1920/\(out++(Str.ofString (toString i))).length<=sizeLine/\t σ H1 (out++Str.ofString (toString i)) Q)\/
 ∃x:Str,v=.str x/\x.length<=sizeLine/\(out++x).length<=sizeLine/\t σ H1 (out++x) Q
def Pj:PF X [] fNil:=fun pins s σ H out Q I h=>joinParts_nilE (joinParts_nil ⟨out,H,I.tok _,⟨_,rfl⟩,h.2⟩ h.1)
def XM{x:Str}{j}(h:PF X es t):PF X (.Constant (.str x) j pos::es) (fStr x t):=fun pins s σ H out Q I q=>
 joinParts_consE (joinParts_cons (Calls.Constant_str ⟨q.1,h pins _ σ H _ Q (I.tok _) q.2⟩))
def Pa(hv:PE X e tv)(h:PF X es t):PF X (.FormattedValue e (-1) none pos::es) (fVal tv t):=fun pins s σ H out Q I q=>by
 refine joinParts_consE (joinParts_cons (FormattedValue_plain (thn (hv pins s σ H _ I q) fun u s1 ⟨v,H1,I1,r,q1⟩=>?_)));rcases q1 with⟨i,rfl,hs,hz,q2⟩|⟨x,rfl,hx,hz,q2⟩
 ·obtain⟨tk,rfl⟩:=r;exact formatField_int_small hs ⟨hz,h pins _ σ H1 _ Q (I1.tok _) q2⟩
 ·obtain⟨tk,rfl⟩:=r;exact formatField_str (fun t' tk'=>⟨hz,h pins _ σ H1 _ Q (I1.tok _) q2⟩) hx
def tF(t:TF):TE:=fun σ H Q=>t σ H Str.empty fun x H'=>Q (.str x) H'
def pe_f(h:PF X (e1::e2::es) t):PE X (.JoinedStr (e1::e2::es) pos) (tF t):=fun pins s σ H Q I q=>
 JoinedStr_many (thn (h pins s σ H _ _ I q) fun u s1 ⟨x,H1,I1,r,q1⟩=>⟨.str x,H1,I1,r,q1⟩)
end
def EL(X:Cx)(E:XK):Prop:=∀(pins:List (Addr×Obj)) (σ:L2.St) (H:Hp) (s:Shared) (C a:Addr) (h':Heap) (args:List Value),Inv X pins σ H s->Heap.MadeExcOf s.heap h' a (.ref C) args->E (.ref C) none H->X.xe (.ref a) {s with heap:=h'}
def G3(C:Addr)(E:XK)(t:TA):TS:=fun _ σ H=>t σ H fun vs H1=>vs.length<=sizeLine/\E (.ref C) none H1
section
variable {X:Cx}{x:Str}{C:Addr}{E:XK}{e:Expr}{es:List Expr}{t:TA}{p cpos pos:Pos}
def Xe(c:ErrCls X.K C)(hm:X.mg x=some (.ref C))(hR:EL X E)(hc:X.calm=true)(ha:PA X (e::es) t)(hg:Gl X x:=by rfl)(hdb:(x==("__debug__" : Str))=false:=by decide)(he:starEach (e::es) X.env=(false,eval e X.env)::starEach es X.env:=by rfl)(hpl:(backTo cpos (starEach es X.env)).any (·.1)=false:=by rfl):PS X (.Raise (some (.Call (.Name x p) (e::es) [] cpos)) none pos) (G3 C E t):=by
 intro pins s σ H D I h;obtain⟨bm,N,nm,q,bs,hdct,sn,sub,ab,col,dd,k0,k1,k2,k3,k5,mN,hC,hN,hni,hT⟩:=c.obj I.ok.mod.kin
 have hpl':(backTo cpos (starEach (e::es) X.env)).any (·.1)=false:=by
  rw[he];show(false || (backTo cpos (starEach es X.env)).any (·.1))=false;rw[hpl];rfl
 refine wpAny_Raise_call_subU (C:=C) (nm:=nm) (q:=q) (N:=N) (bs:=bs) (bm:=bm) (hdct:=hdct) (sn:=sn) (sub:=sub) (ab:=ab) (col:=col) (dd:=dd) (k0:=k0) (k1:=k1) (k2:=k2) (k3:=k3) (k5:=k5)
  WQ (by decide +kernel) WQ (hT.hasType (by decide +kernel)) (I.ok.hd hc) hpl' hni (PD I hg hm ⟨rfl,?_⟩ hdb)
 have hA:=ha cpos pins s σ H _ I h;rw[he]at hA ⊢;refine QT (thn hA fun us s2 ⟨vs,H2,I2,r2,q1,q2⟩=>⟨rfl,by rw[←r2.length];exact q1,I2.bk _ _ hC,hN.keeps I2.bk,hT.keeps I2.bk,fun h' a hm'=>?_⟩);exact hR pins σ H2 s2 C a h' us I2 hm' q2
end
section
variable {P:Program}{w:World}{K:Za}{mg:Str->Option Value}{base:Heap}{N ps:List Str}{qual x:Str}{scope:Scope}{f:Addr}{cd:Value}{A:Around}{outer:List Env}{s:Shared}{H:Hp}{E:XK}
def Xb:EL (cxOf (CXe P w) P w K mg base N qual scope f cd A outer s H E) E:=by
 intro pins σ H1 s1 C a h' args I m q;obtain⟨t,ht,_,_⟩:=m.there;exact YS (L9 I rfl rfl rfl m.keeps m.new ht rfl rfl rfl rfl) (fun _ s3 ⟨T2,y⟩=>⟨a,T2,C,none,H1,rfl,y,q⟩) fun _ _ z=>z
def Ux:X8 (CXe P w) (cxOf (CXe P w) P w K mg base N qual scope f cd A outer s H E) E:=by
 rintro pins σ H1 s1 e s2 I ⟨a,T,C,dx,H',rfl,y,q⟩;exact YS (Zd9 I rfl rfl rfl y) (fun _ s3 ⟨T2,z⟩=>⟨a,T2,C,dx,H',rfl,z,q⟩) fun _ _ z=>z
def Gz:PassesOwn (model P w) (cxOf (CXe P w) P w K mg base N qual scope f cd A outer s H E).A (cxOf (CXe P w) P w K mg base N qual scope f cd A outer s H E).env (cxOf (CXe P w) P w K mg base N qual scope f cd A outer s H E).xe:=PassesOwn.leaving
def Def.okX {st:Stmt}{k:Nat}{sp:Sp} (D:Own.Def K mg x st ps) (S:FnScope N ps (JE st)) (len:∀vs H Q E,sp vs H Q E->vs.length=ps.length)
  (hbody:∀(f:Addr) (cdv:Value) (A:Around) (outer:List Env) (s:Shared) (H:Hp) (vs:List V) (Q:VK) (E:XK),Room k (A.deeper (envOfC x (JE st) s.heap.objs.size f cdv))->sp vs H Q E->
   ∃t,PSs (cxOf (CXe P w) P w K mg base N x (JE st) f cdv A outer s H E) (UA st) t/\t {nx:=fun _ H'=>Q .non H',rt:=Q} (start N vs) H):Own.Callee P w K mg base (CXe P w) (k+1) x ps sp:=by
 obtain⟨f,fd,F,hm,hb⟩:=D.ex;have kp:=F.kp;obtain⟨oc,od,kV,doc,pm,an,cdv,ct,osl,rfl,lk,hcd⟩:=F.ex;exact⟨f,_,Fs lk hcd S len fun A outer s H vs Q E hr hsp=>hbody f cdv A outer s H vs Q E hr hsp,hm,kp,⟨_,lk,rfl⟩,hb⟩
end
end ExcR
namespace ExcR
open PySem PySem.Spec PyProof.Rows L2
open Sem (wp)
structure ErrGet (K:Za) (C:Addr):Prop where
 c:ErrCls K C
 ga:PySem.W.findIn K (.ref C) "__getattribute__"=some (some (.builtin "BaseException.__getattribute__"))
 gt:PySem.W.findIn K (.ref C) "__getattr__"=some none
 cl:PySem.W.findIn K (.ref C) "__class__"=some (some (.builtin "object.__class__"))
 is:(PySem.W.clsIn K C).isSome=true
end ExcR
namespace ExcR
open PySem PySem.Spec PyProof.Rows L2
def ErrD(a C:Addr)(dx:Option Addr):HO:=.ext fun h=>∃o,h.get? a=some o/\(o.cls,o.dict)=(.ref C,dx)/\∃vs,o.data=.fields vs
abbrev ErrH(a C:Addr):HO:=ErrD a C none
def Zax{P:Program}{w:World}{H:Hp}{h:Heap}{a T C:Addr}{dx:Option Addr}{fl:Value}(x:Trc h a T (.ref C,dx) fl):ObjOk P w H h a (ErrD a C dx):=by
 obtain⟨_,⟨o,vs,e1,e2,e3,_⟩,_⟩:=x;exact⟨⟨o,e1,e2,vs,e3⟩,⟨o,e1⟩,fun h1 h2 ⟨o1,q1,q2⟩ k=>⟨o1,k o1 q1,q2⟩⟩
def Fm{fs ex:List Addr}{H H':Hp}{h h1 h2:Heap}(u:Un fs [] H H' h h1)(k:KeepX fs ex h1 h2)(hx:∀b∈ex,h.get? b=none):Un fs [] H H' h h2:=by
 have out:∀b o,h.get? b=some o->b∉ex:=fun b o q z=>by rw[hx b z]at q;cases q
 refine⟨fun b o q n nf ne=>k.keep b o (u.keep b o q n nf ne) nf (out b o q),fun b o q n hf ne=>?_,u.free,fun b o q ne=>?_,u.tups,u.frzs,u.tbls⟩
 ·obtain⟨sl,q1⟩:=u.slot b o q n hf ne;obtain⟨sl2,q2⟩:=k.slot b _ q1 (out b o q);exact⟨sl2,q2⟩
 ·obtain⟨o1,q1⟩:=u.there b o q ne;obtain⟨sl2,q2⟩:=k.slot b _ q1 (out b o q);exact⟨_,q2⟩
def sufX(X:Cx)(a:Addr):Cx:={X with A:=X.A.mark (some (.ref a)),calm:=false,xe:=fun _ _=>False}
def tryX(X:Cx)(pins:List (Addr×Obj))(D:Ends)(h0:ExceptHandler):Cx:=
 {X with pn:=X.pn++pins,xe:=fun e s1=>wpAny (model X.prog X.w) X.A (noteFrame e X.env) (fun _ s2=>wpAny (model X.prog X.w) X.A (setFlight e none) (fun _ s3=>wpAny (model X.prog X.w) X.A (handleBy e X.env [h0]) (SP X pins D) X.xe s3) X.xe s2) X.xe s1}
section
variable {X:Cx}{pins pins1:List (Addr×Obj)}{σ:L2.St}{H H':Hp}{s s':Shared}{a T C:Addr}{D:Ends}{h0:ExceptHandler}
def HK(o:X.Ok):(sufX X a).Ok:=⟨o.mod,o.kind,o.glob,o.blt,o.above,o.inj,o.has,o.cab,(fun z=>nomatch z),o.frames,o.stk,o.exf,o.bs,o.bsz,o.noex,o.exfs,o.funs,o.frf⟩
def Et(I:Inv X pins σ H s):Inv (sufX X a) pins σ H s:=⟨HK I.ok,I.os,I.bare,I.base,I.loc,I.cell,I.free,I.freeC,I.pin,I.hok,I.len⟩
def Ho(o:X.Ok)(I:Inv (sufX X a) pins σ H s):Inv X pins σ H s:=⟨o,I.os,I.bare,I.base,I.loc,I.cell,I.free,I.freeC,I.pin,I.hok,I.len⟩
def Ow(o:X.Ok):(tryX X pins D h0).Ok:=⟨o.mod,o.kind,o.glob,o.blt,o.above,o.inj,o.has,o.cab,o.hd,o.frames,o.stk,o.exf,o.bs,o.bsz,o.noex,o.exfs,o.funs,o.frf⟩
def Mh(o:(tryX X pins D h0).Ok):X.Ok:=⟨o.mod,o.kind,o.glob,o.blt,o.above,o.inj,o.has,o.cab,o.hd,o.frames,o.stk,o.exf,o.bs,o.bsz,o.noex,o.exfs,o.funs,o.frf⟩
def Zae(I:Inv X pins σ H s):Inv (tryX X pins D h0) [] σ H s:=⟨Ow I.ok,I.os,I.bare,I.base,I.loc,I.cell,I.free,I.freeC,fun p hp=>I.pin p (by simpa [tryX]using hp),I.hok,I.len⟩
def T6(I:Inv (tryX X pins D h0) pins1 σ H s):Inv X pins σ H s:=⟨Mh I.ok,I.os,I.bare,I.base,I.loc,I.cell,I.free,I.freeC,fun p hp=>I.pin p (Wo _ hp),I.hok,I.len⟩
def Zcs{i:Nat}{n:Str}{m:Str->Option Value}{v:Option Value}{h':Heap}{tk:Nat}(I:Inv X pins σ H s)(hN:X.N.Nodup)(hi:X.N[i]?=some n)(hk:X.env.scope.names.lookup n=some .local)(hm:∀(i:Nat) (x:Str) (v:V),X.N[i]?=some x->σ[i]?=some (some v)->Vis X.env.scope x->∃u,RelV v u/\Look X.env s.heap m x u)(hn:s.heap.Ns X.env.locals m)(hn':h'.Ns X.env.locals (fun x=>if x=n then v else m x))(hs:Heap.SameBut X.env.locals s.heap h'):Inv X pins (σ.set i none) H {s with heap:=h',toks:=tk}:=by
 have cne:=I.cne;have nl:∀{b o},X.s₀.heap.get? b=some o->b≠X.env.locals:=fun e=>YA (YK (Yu e) I.ok.above);refine⟨I.ok,I.os,I.bare,⟨fun b o e n hb hx=>(hs.2 b (nl e)).trans (I.base.keep b o e n hb hx),fun b o e n hb hx=>?_,I.base.free,fun b o e hx=>?_,I.base.tups,I.base.frzs,I.base.tbls⟩,⟨_,hn',fun j y v' e1 e2 e3=>?_⟩,fun y c e=>?_,I.free,I.freeC,fun p hp=>?_,fun b ob e=>?_,by simpa using I.len⟩
 ·obtain⟨sl,e1⟩:=I.base.slot b o e n hb hx;exact⟨sl,(hs.2 b (nl e)).trans e1⟩
 ·obtain⟨o',e1⟩:=I.base.there b o e hx;exact⟨o',(hs.2 b (nl e)).trans e1⟩
 ·by_cases hj:j=i
  ·subst hj;have hz:j<σ.length:=by rw[I.len];exact(Y2.mp hi).1
   rw[Qj hz]at e2;cases e2
  ·rw[Qt (Ne.symm hj)]at e2;obtain⟨u',r',q⟩:=hm j y v' e1 e2 e3;refine⟨u',r',?_⟩;rcases q with⟨k,e⟩|⟨k,c,e,z⟩
   ·have hy:y≠n:=fun z=>hj (SA hN e1 (z▸hi));exact .inl ⟨k,by simp[hy,e]⟩
   ·exact .inr ⟨k,c,e,z.sameBut hs (cne y c e)⟩
 ·obtain⟨w',z⟩:=I.cell y c e;exact⟨w',z.sameBut hs (cne y c e)⟩
 ·obtain⟨e,n,ne,nf,d⟩:=I.pin p hp;exact⟨(hs.2 p.1 ne).trans e,n,ne,nf,d⟩
 ·refine(I.hok b ob e).stay (fun c u hc q=>(hs.2 c ?_).trans q) (fun _ q=>q) fun _ _ q=>q;rintro rfl;have hf:=I.free;rcases hc with z|z
  ·rw[←z,hf]at e;cases e
  ·rw[hf]at z;cases z
end
def sufD(i:Nat)(D:Ends):Ends:={nx:=fun σ H=>D.nx (σ.set i none) H,rt:=D.rt,bk:=fun σ H=>D.bk (σ.set i none) H,ct:=fun σ H=>D.ct (σ.set i none) H}
def hx(K:Za)(C0:Addr)(i:Nat)(ts:TS)(D:Ends):L2.St->XK:=fun σ c dx H=>∃C,c=.ref C/\PySem.W.exmOne K (.ref C) (.ref C0)=some true/\
 ∀a,H a=none->ts (sufD i D) (σ.set i (some (.ref a))) (upd H a (ErrD a C dx))
def F4(CX:CXT)(X:Cx)(E:L2.St->XK):Prop:=∀(pins:List (Addr×Obj)) (σ:L2.St) (H:Hp) (s:Shared) (e:Value) (s':Shared),Inv X pins σ H s->CX X.stack H s (E σ) e s'->X.xe e s'
section
variable {X:Cx}{pins:List (Addr×Obj)}{D:Ends}{x n:Str}{np hpos pos:Pos}{b0:Stmt}{suite body:List Stmt}{C0:Addr}{i:Nat}{ts:TS}
def MV(hst:X.stack=X.env::X.outer)(hfr:X.env.frame=some X.env.locals)(hN:X.N.Nodup)(hi:X.N[i]?=some n)(hk:X.env.scope.names.lookup n=some .local)(hg:Gl X x)(hm:X.mg x=some (.ref C0))(hdb:(x==("__debug__" : Str))=false)(hs:∀a,PSs (sufX X a) (b0::suite) ts):F4 (CXe X.prog X.w) (tryX X pins D (.ExceptHandler (some (.Name x np)) (some n) (b0::suite) hpos)) (hx X.K C0 i ts D):=by
 rintro pins1 σ H s e s' I ⟨a,T,C,dx,H',rfl,y,C',ec,em,q⟩;obtain rfl:C=C':=Value.ref.inj ec;have I:=T6 I;have J:Inv X pins σ H' s':=I.call' (ch:=[]) y.os y.un y.hok y.bare fun b z=>absurd z (by simp);have hF:=J.stack;have hA:=J.ok.frames;rw[hst]at hF hA;refine AA hA hF hfr y.tr fun h2 T2 hT2 tr2 k2=>?_
 have nT2:s.heap.get? T2=none:=by
  cases z:s.heap.get? T2 with
  |none=>rfl
  |some o=>
   obtain⟨o1,z1⟩:=y.un.there T2 o z (by simp);exact absurd (Yu z1) (QA.mpr hT2)
 have fT2:H' T2=none:=y.hok.fresh hT2
 have u2:Un (frs X.stack) [] H H' s.heap h2:=Fm y.un (by rw[hst];exact k2) fun b hb=>by
  rcases Yx.mp hb with rfl|hb
  ·exact y.na
  ·rw[Ym.mp hb];exact y.nT
 have ok2:HOk X.prog X.w H' h2:=Np y.hok k2 (fun b hb=>J.stkFree b (by rw[hst];exact hb)) fun b hb=>by
  rcases Yx.mp hb with rfl|hb
  ·exact y.fa
  ·rw[Ym.mp hb];exact y.fT
 refine Nw (s:={s' with heap:=h2}) tr2 fun h3 tr3 k3=>?_
 have u3:Un (frs X.stack) [] H H' s.heap h3:=Fm u2 (k3.mono (by simp) fun _ z=>z) fun b hb=>by rw[Ym.mp hb];exact nT2
 have ok3:HOk X.prog X.w H' h3:=Np ok2 k3 (by simp) fun b hb=>by rw[Ym.mp hb];exact fT2
 have J3:Inv X pins σ H' {s' with heap:=h3}:=I.call' (s':={s' with heap:=h3}) (ch:=[]) y.os u3 ok3 y.bare fun b z=>absurd z (by simp)
 have S3:Inv (sufX X a) pins σ H' {s' with heap:=h3}:=Et J3
 refine wpAny_handleBy_cons (codeAny_handlers_test (PD S3 hg hm ?_ hdb)) (by intro z;cases z);obtain⟨_,⟨oe,vs,g1,g2,g3,g4⟩,_⟩:=id tr3;refine(PySem.W.exm_one (M:=model X.prog X.w) (cls:=.ref C) J3.kIn ((show oe.cls=Value.ref C from YQ Prod.fst g2)▸(PySem.W.Looks.ld g1).andThen .now) em).here ?_
 refine codeAny_handlers_suite_as (Nw (s:={s' with heap:=h3}) tr3 fun h4 tr4 k4=>?_)
 have u4:Un (frs X.stack) [] H H' s.heap h4:=Fm u3 (k4.mono (by simp) fun _ z=>z) fun b hb=>by rw[Ym.mp hb];exact nT2
 have ok4:HOk X.prog X.w H' h4:=Np ok3 k4 (by simp) fun b hb=>by rw[Ym.mp hb];exact fT2
 have fr4:∀b,b=a->H b=none:=fun b z=>by rw[z];exact NI I.hok y.na
 have u5:Un (frs X.stack) [] H (upd H' a (ErrD a C dx)) s.heap h4:=by
  have ne:∀b o,s.heap.get? b=some o->b≠a:=fun b o z w=>by rw[w,y.na]at z;cases z
  have ne2:∀b o,H' b=some o->b≠a:=fun b o z w=>by rw[w,y.fa]at z;cases z
  refine⟨u4.keep,u4.slot,fun b o z n m=>by rw[JI (ne b o z)];exact u4.free b o z n m,u4.there,fun b xs z=>?_,fun b o u z=>?_,fun b ps z=>?_⟩
  ·rw[JI (ne2 b _ (u4.tups b xs z))];exact u4.tups b xs z
  ·rw[JI (ne2 b _ (u4.frzs b o u z))];exact u4.frzs b o u z
  ·obtain⟨more,z1⟩:=u4.tbls b ps z;exact⟨more,by rw[JI (ne2 b _ z1)];exact z1⟩
 have ok5:HOk X.prog X.w (upd H' a (ErrD a C dx)) h4:=fun b ob e=>by
  by_cases hb:b=a
  ·subst hb;rw[Ug]at e;cases e
   exact Zax tr4
  ·rw[JI hb]at e;refine(ok4 b ob e).stay (fun _ _ _ z=>z) (fun c z=>?_) fun c xs z=>?_
   ·rw[JI fun w=>by rw[w,y.fa]at z;cases z];exact z
   ·rw[JI fun w=>by rw[w,y.fa]at z;cases z];exact z
 have J5:Inv X pins σ (upd H' a (ErrD a C dx)) {s' with heap:=h4}:=I.call' (s':={s' with heap:=h4}) (ch:=[]) y.os u5 ok5 y.bare fun b z=>absurd z (by simp)
 have S5:Inv (sufX X a) pins σ (upd H' a (ErrD a C dx)) {s' with heap:=h4}:=Et J5
 refine Nh (X:=sufX X a) S5 hN hi (.inl hk) (v:=.ref a) rfl (fun s6 S6=>?_) (.inr hk);refine YS (hs a pins s6 _ _ _ S6 (q a y.fa)) (fun f s7 h7=>?_) fun _ _ z=>z.elim
 have gone:∀{σ':L2.St} {H7:Hp} {R:Unit->Shared->Prop},Inv (sufX X a) pins σ' H7 s7->(∀s8,Inv X pins (σ'.set i none) H7 s8->R () s8)->wpAny (model X.prog X.w) X.A (do bindName X.env n .none;unbindBehindTheSuite X.env n hpos) R X.xe s7:=fun {σ' H7 R} S7 hR=>by
  obtain⟨m,hn,hl⟩:=id S7.loc;exact wpAny_nameGoes_keeps hk hn (by rw[show X.env.scope.kind=.function from J5.ok.kind];rfl) fun h8 v hn8 hs8=>hR _ (Zcs (Ho J5.ok S7) hN hi hk hl hn hn8 hs8)
 cases f with
 |next=>obtain⟨σ',H7,S7,q7⟩:=h7;exact gone S7 fun s8 I8=>⟨_,_,I8,q7⟩
 |brk=>obtain⟨σ',H7,S7,q7⟩:=h7;exact gone S7 fun s8 I8=>⟨_,_,I8,q7⟩
 |cont=>obtain⟨σ',H7,S7,q7⟩:=h7;exact gone S7 fun s8 I8=>⟨_,_,I8,q7⟩
 |ret u=>obtain⟨v,σ',H7,S7,rv,q7⟩:=h7;exact gone S7 fun s8 I8=>⟨v,_,_,I8,rv,q7⟩
def Zdm{tb:Ends->TS}(hb:∀pins D,PSs (tryX X pins D (.ExceptHandler (some (.Name x np)) (some n) (b0::suite) hpos)) body (tb D)) :
  PS X (.Try body [.ExceptHandler (some (.Name x np)) (some n) (b0::suite) hpos] [] [] pos) (fun D σ H=>tb D D σ H):=by
 intro pins s σ H D I h;refine wpAny_Try_except (YS (hb pins D [] s σ H D (Zae I) h) (fun f s1 h1=>?_) fun _ _ z=>z);cases f with
 |next=>
  obtain⟨σ',H',J,q⟩:=h1;exact Ys ⟨σ',H',T6 J,q⟩
 |brk=>obtain⟨σ',H',J,q⟩:=h1;exact⟨σ',H',T6 J,q⟩
 |cont=>obtain⟨σ',H',J,q⟩:=h1;exact⟨σ',H',T6 J,q⟩
 |ret u=>obtain⟨v,σ',H',J,r,q⟩:=h1;exact⟨v,σ',H',T6 J,r,q⟩
end
def JD(mg:Str->Option Value)(x:Str):Addr:=match mg x with
 |some (.ref C)=>C
 |_=>0
def FX{mg:Str->Option Value}{x:Str}{C:Addr}(h:mg x=some (.ref C)):JD mg x=C:=by unfold JD;rw[h]
def X4{X:Cx}{x:Str}{v:V}{pos:Pos}(h:∃u,X.mg x=some u/\RelV v u)(hg:Gl X x:=by rfl)(hd:(x==("__debug__" : Str))=false:=by decide):PE X (.Name x pos) (tC v):=by
 obtain⟨u,h1,h2⟩:=h;exact R4 hg h1 h2 hd
end ExcR
namespace Own
open PySem PySem.Spec PyProof.Rows L2 M
section
variable {X:Cx}{pins:List (Addr×Obj)}{σ:L2.St}{H:Hp}{s:Shared}
def DH{p:Int×Int}{its:List Value}(r:Vals [V.int p.1,V.int p.2] its):∃t1 t2,its=[.int p.1 t1,.int p.2 t2]:=by
 cases r with
 |cons r1 rr=>
  cases rr with
  |cons r2 r3=>
   cases r3
   obtain⟨t1,rfl⟩:=r1;obtain⟨t2,rfl⟩:=r2;exact⟨t1,t2,rfl⟩
def L4{A:Around}{x y:V}{p q:Int×Int}{u v:Value}(I:Inv X pins σ H s)(hu:A.units<cLine)(rx:RelV x u)(ry:RelV y v)(hp:Xz H x p)(hq:Xz H y q):SeqAt.EqAt A s u v (decide (p=q)):=by
 obtain⟨a,rfl,ha⟩:=hp;obtain⟨b,rfl,hb⟩:=hq;obtain rfl:u=Value.ref a:=rx;obtain rfl:v=Value.ref b:=ry;by_cases hab:a=b
 ·subst hab;rw[ha]at hb
  have e:p=q:=by
   injection hb with hb;injection hb with hb;injection hb with h1 h2;injection h2 with h2 _;exact Prod.ext (V.int.inj h1) (V.int.inj h2)
  rw[Yl e];exact SeqAt.EqAt.same _
 ·obtain⟨_,its,r1,t1⟩:=(show ObjOk X.prog X.w H s.heap a (.tup [.int p.1,.int p.2])from I.hok a _ ha)
  obtain⟨_,jts,r2,t2⟩:=(show ObjOk X.prog X.w H s.heap b (.tup [.int q.1,.int q.2])from I.hok b _ hb)
  obtain⟨k1,k2,rfl⟩:=DH r1;obtain⟨k3,k4,rfl⟩:=DH r2
  have h:=SeqAt.RcAt.tuples (A:=A) (s:=s) (e:=fun j=>if j=0 then p.1==q.1 else p.2==q.2) t1 t2 hu (fun j h1 h2=>by
   have hj:j=0\/j=1:=by
    have h1':j<2:=h1;omega
   rcases hj with rfl|rfl
   ·exact SeqAt.EqAt.int_int _ _ _ _
   ·exact SeqAt.EqAt.int_int _ _ _ _)
  have e:((List.range (min ([Value.int p.1 k1,Value.int p.2 k2].toArray).size ([Value.int q.1 k3,Value.int q.2 k4].toArray).size)).all (fun j=>if j=0 then p.1==q.1 else p.2==q.2)&&([Value.int p.1 k1,Value.int p.2 k2].toArray).size==([Value.int q.1 k3,Value.int q.2 k4].toArray).size)=decide (p=q):=by
   show((List.range 2).all (fun j=>if j=0 then p.1==q.1 else p.2==q.2)&&true)=decide (p=q);rw[Bool.and_true];have e2:(List.range 2).all (fun j=>if j=0 then p.1==q.1 else p.2==q.2)=((p.1==q.1)&&(p.2==q.2)):=by simp[List.range,List.range.loop]
   rw[e2];by_cases h1:p.1=q.1
   ·by_cases h2:p.2=q.2
    ·rw[Yl (Prod.ext h1 h2)];simp[h1,h2]
    ·rw[Y0 (fun z=>h2 (by rw[z]))];simp[h2]
   ·rw[Y0 (fun z=>h1 (by rw[z]))];simp[h1]
  rw[e]at h;exact SeqAt.EqAt.of_refs hab h
def eP(H:Hp)(q:Int×Int)(u:Value):Bool:=match u with
 | .ref a=>(match H a with
  |some (.tup [.int i,.int j])=>decide ((i,j)=q)
  |_=>false)
 |_=>false
def DT{v:V}{u:Value}{p q:Int×Int}(h:Xz H v p)(r:RelV v u):eP H q u=decide (p=q):=by
 obtain⟨a,rfl,ha⟩:=h;obtain rfl:u=Value.ref a:=r;unfold eP;simp only[ha]
def SN{q:Int×Int}:∀{vs:List V}{us:List Value}{ps:List (Int×Int)},Vals vs us->LV Xz H vs ps->us.any (eP H q)=decide (q∈ps)
 |_,_,[],.nil,_=>rfl
 |_,_,_::_,.nil,h=>absurd h.1 (by simp)
 |v::vs,u::us,[],.cons _ _,h=>absurd h.1 (by simp)
 |v::vs,u::us,p::ps,.cons r t,h=>by
  obtain⟨v',e,hv⟩:=h.2 0 p rfl;cases e
  have ht:LV Xz H vs ps:=⟨by simpa using h.1,fun i x e=>h.2 (i+1) x e⟩;rw[Qg,DT hv r,SN t ht];by_cases e1:p=q
  ·subst e1;simp
  ·by_cases e2:q∈ps
   ·simp[e1,e2]
   ·have:¬q=p:=fun z=>e1 z.symm
    simp[e1,e2,this]
def rInP(neg:Bool):R2:=fun x y H Q=>∃(l:Addr) (ps:List (Int×Int)) (q:Int×Int),y=.ref l/\Xz H x q/\LAt Xz H l ps/\Q (.bl (if neg then !decide (q∈ps)else decide (q∈ps))) H
def SH{A:Around}{x:V}{v:Value}{q:Int×Int}(I:Inv X pins σ H s)(hu:A.units<cLine)(rx:RelV x v)(hx:Xz H x q):∀{vs:List V}{us:List Value}{ps:List (Int×Int)},Vals vs us->LV Xz H vs ps->∀u∈us,SeqAt.EqAt A s u v (eP H q u)
 |_,_,_,.nil,_,u,hu'=>by cases hu'
 |w::vs,u::us,[],.cons _ _,h,_,_=>absurd h.1 (by simp)
 |w::vs,u::us,p::ps,.cons r t,h,u',hu'=>by
  obtain⟨w',e,hw⟩:=h.2 0 p rfl;cases e
  have ht:LV Xz H vs ps:=⟨by simpa using h.1,fun i x e=>h.2 (i+1) x e⟩;rcases Yx.mp hu' with rfl|hu'
  ·rw[DT hw r];exact L4 I hu r rx hw hx
  ·exact SH I hu rx hx t ht u' hu'
def Zeg(hu:X.A.in1.units<cLine):OpR X (compareOp .In) (rInP false):=by
 intro pins s σ H x y v u Q I rx ry h;obtain⟨l,ps,q,rfl,hx,⟨vs,hl,hv⟩,k⟩:=h;cases ry
 obtain⟨its,r,pl,hz⟩:=I.list (SqL.of hl);refine SeqAt.in_listAt (eP H q) pl.isList (fun w hw=>SH I hu rx hx r hv w (by simpa using hw)) ⟨.bl _,H,I,rfl,?_⟩;rw[show its.toArray.any (eP H q)=its.any (eP H q) by simp,SN r hv];exact k
def Zed(hu:X.A.in1.units<cLine):OpR X (compareOp .NotIn) (rInP true):=by
 intro pins s σ H x y v u Q I rx ry h;obtain⟨l,ps,q,rfl,hx,⟨vs,hl,hv⟩,k⟩:=h;cases ry
 obtain⟨its,r,pl,hz⟩:=I.list (SqL.of hl);refine SeqAt.notIn_listAt (eP H q) pl.isList (fun w hw=>SH I hu rx hx r hv w (by simpa using hw)) ⟨.bl _,H,I,rfl,?_⟩;rw[show its.toArray.any (eP H q)=its.any (eP H q) by simp,SN r hv];exact k
end
end Own
namespace M
open PySem PySem.Spec PyProof.Rows L2 Own
section
variable {α:Type}{R:Hp->V->α->Prop}{H:Hp}
def pick(c:α->Bool)(d:V×α):Option V:=if c d.2=true then some d.1 else none
end
end M
namespace Own
open PySem PySem.Spec PyProof.Rows L2
section
variable {X:Cx}{K:Za}
def EZ(hc:X.calm=true)(hK:X.K=K:=by rfl):UJ X (.builtin "sum") (fun xs H Q=>∃(p:Addr) (ns:List Int),xs=[.ref p]/\SqL K H p (ns.map V.int)/\Q (.int ns.sum) H):=by
 subst hK;intro pins s σ H xs us Q I rv h;obtain⟨p,ns,rfl,hS,q⟩:=h;obtain⟨u,rfl,ru⟩:=rv.one;obtain rfl:u=Value.ref p:=ru;obtain⟨its,r,pl,_⟩:=I.list hS;have hi:IntsAre its ns:=by simpa using N4 r
 obtain⟨ys,hx⟩:=hi.allInts.items;have hl:=pl.isList;rw[hx]at hl;refine sum_intListG (I.ok.hd hc) hl fun h' tk t' hk=>?_
 have e1:ns=ys.toList.map (·.1):=by
  rw[←nums_intItems,←hx];exact(show numsOf its.toArray.toList=ns from hi.numsOf).symm
 have e2:preSum (numAt ys) ys.size=ns.sum:=by
  rw[preSum_eq,Qk (by simp),e1]
 rw[e2];exact⟨.int ns.sum,H,I.kept (t':=tk) hk,⟨_,rfl⟩,q⟩
def M0(hc:X.calm=true)(hK:X.K=K:=by rfl):UJ X (.builtin "min") (fun xs H Q=>∃(p:Addr) (ns:List Int),xs=[.ref p]/\SqL K H p (ns.map V.int)/\0<ns.length/\∀M,M∈ns->(∀a∈ns,M<=a)->Q (.int M) H):=by
 subst hK;intro pins s σ H xs us Q I rv h;obtain⟨p,ns,rfl,hS,hne,q⟩:=h;obtain⟨u,rfl,ru⟩:=rv.one;obtain rfl:u=Value.ref p:=ru;obtain⟨its,r,pl,_⟩:=I.list hS;have hi:IntsAre its ns:=by simpa using N4 r
 obtain⟨ys,e⟩:=hi.allInts.items;have hl:=pl.isList;rw[e]at hl;have hns:ns=ys.toList.map (·.1):=by rw[←hi.numsOf,←nums_intItems,←e]
 have hsz:0<ys.size:=by
  have h3:=hne;rw[hns,Yi,YY]at h3;exact h3
 refine min_intList (I.ok.hd hc) hl hsz fun v h' tk hv hk=>?_;obtain⟨t,rfl⟩:=intItems_at hv;obtain⟨h1,h2⟩:=argBest_lt (numAt ys) (ys.size-1);refine⟨.int _,H,I.kept (t':=tk) hk,⟨_,rfl⟩,q _ ?_ fun a ha=>?_⟩
 ·rw[hns,numAt_eq];exact getD_mem (by rw[Yi,YY];omega)
 ·rw[hns]at ha;obtain⟨j,hj,rfl⟩:=YE.mp ha;rw[Yi,YY]at hj
  have:=h2 j (by omega)
  rw[numAt_eq ys j]at this;rw[Y1,Yj (by rw[Yi,YY];exact hj)]at this;exact this
def GL:∀{bs:List Bool}{us:List Value},Vals (bs.map V.bl) us->LSm.BoolsAre us bs
 |[],_,.nil=>.nil
 |b::r,_,.cons h t=>by
  cases (show _=Value.bool b from h)
  exact .cons b (GL t)
def Dl(hc:X.calm=true)(hK:X.K=K:=by rfl):UJ X (.builtin "any") (fun xs H Q=>∃(p:Addr) (bs:List Bool),xs=[.ref p]/\SqL K H p (bs.map V.bl)/\Q (.bl (bs.any id)) H):=by
 subst hK;intro pins s σ H xs us Q I rv h;obtain⟨p,bs,rfl,hS,q⟩:=h;obtain⟨u,rfl,ru⟩:=rv.one;obtain rfl:u=Value.ref p:=ru;obtain⟨its,r,pl,_⟩:=I.list hS;have hb:=GL r;have hl:=pl.isList;have hlt:p<s.heap.objs.size:=by obtain⟨_,e,_⟩:=hl;exact Yu e
 refine call_any_walk (wpAny_pyIter_list hl ?_)
 refine⟨s.heap.objs.size,[s.heap.objs.size,p],[s.heap.objs.size],its.toArray.size,_,_,fun i=>(bs[i]?).getD false,rfl,Walks.list (A:=X.A.in1) (I.ok.hd hc) _ p (YA hlt) its.toArray,
  ⟨⟨_,Y3 _ rfl,rfl,rfl⟩,hl.push _⟩,fun i v s' Q' E' hP hQ=>?_,fun h' tk hk=>?_⟩
 ·obtain⟨b,e,rfl⟩:=hb.get i v (by simpa using hP);simp only[e,Option.getD_some]at hQ;exact WR hQ
 ·have e:((List.range its.toArray.size).any fun i=>(bs[i]?).getD false)=bs.any id:=by
   rw[Yz,hb.length];exact LSm.range_any bs
  rw[e];exact⟨.bl (bs.any id),H,I.kept (t':=tk) (LSm.kept_iter hk),rfl,q⟩
def rEqE(K:Za)(neg:Bool):R2:=fun x y H Q=>∃(p q:Addr) (xs:List V),x=.ref p/\y=.ref q/\SqL K H p xs/\SqL K H q []/\Q (.bl (if neg then !xs.isEmpty else xs.isEmpty)) H
def Cg(hu:X.A.units<cLine)(hK:X.K=K:=by rfl):OpR X (compareOp .Eq) (rEqE K false):=by
 subst hK;intro pins s σ H x y v u Q I rx ry h;obtain⟨p,q,xs,rfl,rfl,hp,hq,k⟩:=h;obtain rfl:v=Value.ref p:=rx;obtain rfl:u=Value.ref q:=ry;obtain⟨us,r1,p1,_⟩:=I.list hp;obtain⟨ws,r2,p2,_⟩:=I.list hq;have l1:=r1.length;have l2:0=ws.length:=r2.length;have k':Q (.bl xs.isEmpty) H:=k;by_cases e:xs.length=0
 ·refine SeqAt.eq_listAt (e:=fun _=>true) p1.isList p2.isList (by simp;omega) hu (fun j h1 h2=>by simp at h2;omega) ⟨.bl xs.isEmpty,H,I,?_,k'⟩;show _=Value.bool xs.isEmpty
  have:xs=[]:=Wy.mp e
  subst this;rw[Yz,←l1];rfl
 ·refine SeqAt.eq_list_lengthsAt p1.isList p2.isList (by simp;omega) hu ⟨.bl xs.isEmpty,H,I,?_,k'⟩;show _=Value.bool xs.isEmpty;cases xs with
  |nil=>exact absurd rfl e
  |cons a r=>rfl
def Mg(hu:X.A.units<cLine)(hK:X.K=K:=by rfl):OpR X (compareOp .NotEq) (rEqE K true):=by
 subst hK;intro pins s σ H x y v u Q I rx ry h;obtain⟨p,q,xs,rfl,rfl,hp,hq,k⟩:=h;obtain rfl:v=Value.ref p:=rx;obtain rfl:u=Value.ref q:=ry;obtain⟨us,r1,p1,_⟩:=I.list hp;obtain⟨ws,r2,p2,_⟩:=I.list hq;have l1:=r1.length;have l2:0=ws.length:=r2.length;have k':Q (.bl (!xs.isEmpty)) H:=k;by_cases e:xs.length=0
 ·refine SeqAt.RcNeAt.lists (e:=fun _=>true) p1.isList p2.isList (by simp;omega) hu (fun j h1 h2=>by simp at h2;omega) _ _ _ _ ⟨.bl (!xs.isEmpty),H,I,?_,k'⟩;show _=Value.bool (!xs.isEmpty)
  have:xs=[]:=Wy.mp e
  subst this;rw[Yz,←l1];rfl
 ·refine SeqAt.RcNeAt.lists_lengths p1.isList p2.isList (by simp;omega) hu _ _ _ _ ⟨.bl (!xs.isEmpty),H,I,?_,k'⟩;show _=Value.bool (!xs.isEmpty);cases xs with
  |nil=>exact absurd rfl e
  |cons a r=>rfl
end
end Own
namespace M
open PySem PySem.Spec PyProof.Rows L2 Own
def K4(ws:List (Int×Int))(ls:List Int):List (Int×Int):=ws.filter fun q=>decide (q.1∈ls)&&decide (q.2∈ls)
def XD(ws:List (Int×Int))(ls:List Int):List Int:=ls.filter fun h=>decide (h∈(K4 ws ls).map (·.2))
def Uk(ws:List (Int×Int))(ls:List Int):Nat->List Int
 | 0=>ls
 |n+1=>XD ws (Uk ws ls n)
def TN(ws:List (Int×Int))(r:List Int):Prop:=∀(i:Nat) (x y:Int),r[i]?=some x->r[i+1]?=some y->(x,y)∈ws
structure Ring (hs:List Int) (ws:List (Int×Int)) (r:List Int):Prop where
 two:2<=r.length
 nodup:r.Nodup
 sub:∀x∈r,x∈hs
 chain:TN ws r
 last:∀x y,r[0]?=some x->r[r.length-1]?=some y->(y,x)∈ws
def Ring.ahead {hs:List Int}{ws:List (Int×Int)}{r:List Int} (R:Ring hs ws r) {x:Int} (hx:x∈r):∃y∈r,(y,x)∈ws:=by
 obtain⟨i,hi,e⟩:=YE.mp hx;have two:=R.two;cases i with
 |zero=>
  have hl:r.length-1<r.length:=by omega
  exact⟨r[r.length-1],YC hl,R.last x _ (by rw[Yj hi,e]) (Yj hl)⟩
 |succ i=>
  have hl:i<r.length:=by omega
  exact⟨r[i],YC hl,R.chain i _ x (Yj hl) (by rw[Yj hi,e])⟩
def mem_peel{ws:List (Int×Int)}{ls:List Int}{x:Int}:x∈XD ws ls↔x∈ls/\∃y∈ls,(y,x)∈ws:=by
 unfold XD K4;rw[YG];constructor
 ·rintro⟨h1,h2⟩;obtain⟨q,hq,e⟩:=YU.mp (Yp h2);obtain⟨h3,h4⟩:=YG.mp hq;rw[Y9]at h4;refine⟨h1,q.1,Yp h4.1,?_⟩;rw[←e];exact h3
 ·rintro⟨h1,y,h2,h3⟩;refine⟨h1,Yl (YU.mpr ⟨(y,x),YG.mpr ⟨h3,?_⟩,rfl⟩)⟩;rw[Yl h2,Yl h1];rfl
def Bg{hs:List Int}{ws:List (Int×Int)}{r:List Int}(R:Ring hs ws r):∀(n:Nat) (x:Int),x∈r->x∈Uk ws hs n
 | 0,x,hx=>R.sub x hx
 |n+1,x,hx=>by
  obtain⟨y,hy,h⟩:=R.ahead hx;exact mem_peel.mpr ⟨Bg R n x hx,y,Bg R n y hy,h⟩
def SU(ws:List (Int×Int))(ls:List Int):(XD ws ls).Sublist ls:=Vb
def GF(ws:List (Int×Int))(hs:List Int):∀n,(Uk ws hs n).Sublist hs
 | 0=>List.Sublist.refl _
 |n+1=>(SU ws _).trans (GF ws hs n)
def AU(ws:List (Int×Int))(hs:List Int):∀n,(∃k,k<n/\XD ws (Uk ws hs k)=Uk ws hs k)\/(Uk ws hs n).length+n<=hs.length
 | 0=>.inr (Yr _)
 |n+1=>by
  rcases AU ws hs n with⟨k,hk,e⟩|h
  ·exact .inl ⟨k,by omega,e⟩
  ·by_cases e:XD ws (Uk ws hs n)=Uk ws hs n
   ·exact .inl ⟨n,by omega,e⟩
   ·have hl:(XD ws (Uk ws hs n)).length<(Uk ws hs n).length:=by
     have h1:=(SU ws (Uk ws hs n)).length_le;rcases Nat.lt_or_ge (XD ws (Uk ws hs n)).length (Uk ws hs n).length with h2|h2
     ·exact h2
     ·exact absurd ((SU ws (Uk ws hs n)).eq_of_length (by omega)) e
    refine .inr ?_;show(XD ws (Uk ws hs n)).length+(n+1)<=hs.length;omega
def Dk(ws:List (Int×Int))(hs:List Int){k:Nat}(e:XD ws (Uk ws hs k)=Uk ws hs k):∀n,Uk ws hs (k+n)=Uk ws hs k
 | 0=>rfl
 |n+1=>by
  show XD ws (Uk ws hs (k+n))=_;rw[Dk ws hs e n,e]
def TZ:∀{xs ys:List Int},xs.Nodup->(∀x∈xs,x∈ys)->xs.length<=ys.length
 |[],_,_,_=>Wr _
 |x::xs,ys,nd,h=>by
  obtain⟨h1,h2⟩:=Wa.mp nd;have hx:x∈ys:=h x (YL ..);have ih:=TZ (ys:=ys.erase x) h2 fun z hz=>(List.mem_erase_of_ne (fun e:z=x=>h1 (e▸hz))).mpr (h z (YB _ hz));rw[List.length_erase_of_mem hx]at ih
  have:0<ys.length:=List.length_pos_of_mem hx
  rw[Y6];omega
def Ds{ws:List (Int×Int)}{ls:List Int}(hu:∀q∈ws,q.1≠q.2)(hne:ls≠[])(h:∀x∈ls,∃y∈ls,(y,x)∈ws):∃r,Ring ls ws r:=by
 have grow:∀(n:Nat) (r:List Int),r≠[]->r.Nodup->(∀x∈r,x∈ls)->TN ws r->ls.length<r.length+n->∃r,Ring ls ws r:=by
  intro n
  induction n with
  |zero=>
   intro r hr nd sub ch hl
   have:=TZ nd sub
   omega
  |succ n ih=>
   intro r hr nd sub ch hl;cases r with
   |nil=>exact absurd rfl hr
   |cons x t=>
    obtain⟨y,hy,hw⟩:=h x (sub x (YL ..));by_cases hm:y∈x::t
    ·obtain⟨i,hi,e⟩:=YE.mp hm
     have hi0:i≠0:=fun z=>by
      subst z;have e':x=y:=e;exact hu _ hw e'.symm
     have hlen:((x::t).take (i+1)).length=i+1:=by
      rw[YJ];omega
     refine⟨(x::t).take (i+1),by omega,nd.sublist (QE _ _),fun z hz=>sub z (WX hz),fun k a b h1 h2=>?_,fun a b h1 h2=>?_⟩
     ·have hk:k+1<i+1:=by
       have:=(Y2.mp h2).1
       omega
      rw[Wv (by omega)]at h1;rw[Wv hk]at h2;exact ch k a b h1 h2
     ·rw[hlen,Q7,Wv (by omega),Yj hi,e]at h2;rw[Wv (by omega)]at h1;cases h1
      cases h2
      exact hw
    ·refine ih (y::x::t) (by simp) (Wa.mpr ⟨hm,nd⟩) (fun z hz=>?_) (fun k a b h1 h2=>?_) (by rw[Y6];omega)
     ·rcases Yx.mp hz with rfl|hz
      ·exact hy
      ·exact sub z hz
     ·cases k with
      |zero=>
       cases h1
       cases h2
       exact hw
      |succ k=>exact ch k a b h1 h2
 obtain⟨x,hx⟩:=List.exists_mem_of_ne_nil ls hne;exact grow (ls.length+1) [x] (by simp) (by simp) (fun y hy=>by rw[Ym.mp hy];exact hx) (fun i a b h1 h2=>by simp at h2) (by show ls.length<1+(ls.length+1);omega)
def Ny{ws:List (Int×Int)}{hs:List Int}(hu:∀q∈ws,q.1≠q.2):Uk ws hs hs.length=[]↔¬ ∃r,Ring hs ws r:=by
 constructor
 ·rintro h ⟨r,R⟩;have two:=R.two;have h0:0<r.length:=by omega
  have:=Bg R hs.length r[0] (YC h0)
  rw[h]at this;cases this
 ·intro h;rcases AU ws hs hs.length with⟨k,hk,e⟩|hl
  ·have e2:=Dk ws hs e (hs.length-k);rw[show k+(hs.length-k)=hs.length by omega]at e2;rw[e2];by_cases hne:Uk ws hs k=[]
   ·exact hne
   ·obtain⟨r,R⟩:=Ds hu hne (fun x hx=>by
     rw[←e]at hx;exact(mem_peel.mp hx).2)
    exact absurd ⟨r,R.two,R.nodup,fun x hx=>(GF ws hs k).subset (R.sub x hx),R.chain,R.last⟩ h
  ·exact Wy.mp (by omega)
end M
namespace M
def sl:List Int->List Int->Prop
 |x::xs,y::ys=>x<y\/(x=y/\sl xs ys)
 |_,_=>False
def sl_cons{l:Int}{a b:List Int}:sl (l::a) (l::b)↔sl a b:=by
 show(l<l\/(l=l/\sl a b))↔sl a b;constructor
 ·rintro(h|⟨_,h⟩)
  ·omega
  ·exact h
 ·exact fun h=>.inr ⟨rfl,h⟩
def Sx:∀{a b:List Int} (x y:Int),sl a b->sl (a++[x]) (b++[y])
 |[],[],_,_,h=>by unfold sl at h;exact h.elim
 |[],_::_,_,_,h=>by unfold sl at h;exact h.elim
 |_::_,[],_,_,h=>by unfold sl at h;exact h.elim
 |p::a,q::b,x,y,h=>by
  rw[W5,W5];unfold sl at h ⊢;rcases h with h|⟨h1,h2⟩
  ·exact .inl h
  ·exact .inr ⟨h1,Sx x y h2⟩
def D8:∀{a:List Int}{x y:Int},x<y->sl (a++[x]) (a++[y])
 |[],x,y,h=>.inl h
 |p::a,x,y,h=>by
  rw[W5,W5];exact .inr ⟨rfl,D8 h⟩
def Fz:∀{a b c:List Int},sl a b->sl b c->sl a c
 |[],b,c,h,_=>by unfold sl at h;exact h.elim
 |_::_,[],_,h,_=>by unfold sl at h;exact h.elim
 |_::_,_::_,[],_,h=>by unfold sl at h;exact h.elim
 |x::a,y::b,z::c,h1,h2=>by
  unfold sl at h1 h2 ⊢;rcases h1 with h1|⟨h1,k1⟩
  ·rcases h2 with h2|⟨h2,k2⟩
   ·exact .inl (by omega)
   ·exact .inl (by omega)
  ·rcases h2 with h2|⟨h2,k2⟩
   ·exact .inl (by omega)
   ·exact .inr ⟨by omega,Fz k1 k2⟩
def JU(g:Int):List Int->Int
 |[]=>g
 |x::t=>JU x t
def Xw(g:Int):∀(a b:List Int),JU g (a++b)=JU (JU g a) b
 |[],b=>rfl
 |x::a,b=>Xw x a b
def Sn(g:Int):∀(t:List Int),(g::t)[t.length]?=some (JU g t)
 |[]=>rfl
 |x::t=>by
  rw[Y6,Wd];exact Sn x t
def Path(C:Int->Prop)(ws:List (Int×Int)):Int->List Int->Prop
 |_,[]=>True
 |g,x::t=>C x/\(g,x)∈ws/\Path C ws x t
section
variable {C:Int->Prop}{ws:List (Int×Int)}
def path_app:∀{g:Int}{a b:List Int},Path C ws g (a++b)↔Path C ws g a/\Path C ws (JU g a) b
 |g,[],b=>⟨fun h=>⟨trivial,h⟩,fun h=>h.2⟩
 |g,x::a,b=>by
  rw[W5];constructor
  ·rintro⟨h1,h2,h3⟩
   have:=path_app.mp h3
   exact⟨⟨h1,h2,this.1⟩,this.2⟩
  ·rintro⟨⟨h1,h2,h3⟩,h4⟩;exact⟨h1,h2,path_app.mpr ⟨h3,h4⟩⟩
def FO:∀{g:Int}{t:List Int},Path C ws g t->∀x∈t,C x
 |g,[],_,x,h=>by cases h
 |g,y::t,⟨h1,_,h3⟩,x,h=>by
  rcases Yx.mp h with rfl|h
  ·exact h1
  ·exact FO h3 x h
def ED:∀{g:Int}{t:List Int},Path C ws g t->TN ws (g::t)
 |g,[],_=>fun i x y h1 h2=>by simp at h2
 |g,z::t,⟨h1,h2,h3⟩=>fun i x y k1 k2=>by
  cases i with
  |zero=>
   cases k1
   cases k2
   exact h2
  |succ i=>exact ED h3 i x y k1 k2
def Ay:∀{g:Int}{t:List Int},TN ws (g::t)->(∀x∈t,C x)->Path C ws g t
 |g,[],_,_=>trivial
 |g,z::t,h,hc=>⟨hc z YL,h 0 g z rfl rfl,Ay (fun i x y k1 k2=>h (i+1) x y k1 k2) fun x hx=>hc x (YB _ hx)⟩
end
def Gr(hs:List Int)(l:Int):Int->Prop:=fun x=>x∈hs/\l<x
def Xs(hs:List Int)(ws:List (Int×Int))(l:Int)(t:List Int):Prop:=Path (Gr hs l) ws l t/\(JU l t,l)∈ws
def RF(hs:List Int)(ws:List (Int×Int))(l:Int)(r:List Int):Prop:=
 (r=[]/\∀t,¬Xs hs ws l t)\/∃t,r=l::t/\Xs hs ws l t/\∀u,Xs hs ws l u->t.length<u.length\/(t.length=u.length/\(t=u\/sl t u))
structure Lev (hs:List Int) (ws:List (Int×Int)) (l:Int) (k:Nat) (ps:List (List Int)) (ls:List Int):Prop where
 way:∀p∈ps,p.length=k/\Path (Gr hs l) ws l p
 srt:ps.Pairwise sl
 lin:∀h∈ls,Gr hs l h
 lsrt:ls.Pairwise (· < ·)
 cover:∀t,t.length<=k->Path (Gr hs l) ws l t->JU l t∉ls
 first:∀t,t.length=k->Path (Gr hs l) ws l t->(∃p∈ps,JU l p=JU l t/\(p=t\/sl p t))\/∃u,u.length<k/\Path (Gr hs l) ws l u/\JU l u=JU l t
 none:∀t,t.length<k->¬Xs hs ws l t
 comp:∀h,Gr hs l h->h∉ls->∃t,t.length<=k/\Path (Gr hs l) ws l t/\JU l t=h
section
variable {hs:List Int}{ws:List (Int×Int)}{l:Int}{k:Nat}{ps:List (List Int)}{ls:List Int}
def Lev.start (hl:ls.Pairwise (· < ·)) (hm:∀h,h∈ls↔Gr hs l h):Lev hs ws l 0 [[]] ls:=by
 have nil:∀t:List Int,t.length=0->t=[]:=fun t h=>Wy.mp h;refine⟨fun p hp=>?_,by simp,fun h hh=>(hm h).mp hh,hl,fun t ht _ h=>?_,fun t ht _=>.inl ⟨[],by simp,by rw[nil t ht],.inl (nil t ht).symm⟩,fun t ht=>by omega,fun h hh hn=>absurd ((hm h).mpr hh) hn⟩
 ·rw[Ym.mp hp];exact⟨rfl,trivial⟩
 ·rw[nil t (by omega)]at h
  have:=((hm _).mp h).2
  exact absurd this (by show ¬l<l;omega)
def Lev.found (L:Lev hs ws l k ps ls) {p:List Int}{i:Nat} (hi:i<ps.length) (ep:ps[i]=p) (hc:(JU l p,l)∈ws) (hf:∀j (hj:j<ps.length),j<i->(JU l ps[j],l)∉ws):RF hs ws l (l::p):=by
 have hp:p∈ps:=by rw[←ep];exact YC hi
 obtain⟨w1,w2⟩:=L.way p hp;refine .inr ⟨p,rfl,⟨w2,hc⟩,fun u hu=>?_⟩;by_cases h1:u.length<k
 ·exact absurd hu (L.none u h1)
 ·by_cases h2:u.length=k
  ·rcases L.first u h2 hu.1 with⟨q,hq,e1,e2⟩|⟨v,v1,v2,v3⟩
   ·refine .inr ⟨by omega,?_⟩;obtain⟨j,hj,ej⟩:=YE.mp hq;have hcq:(JU l ps[j],l)∈ws:=by rw[ej,e1];exact hu.2
    have hij:i<=j:=Nat.le_of_not_lt fun z=>hf j hj z hcq
    have hpq:p=q\/sl p q:=by
     by_cases e:i=j
     ·subst e;exact .inl (ep.symm.trans ej)
     ·have:=YZ.mp L.srt i j hi hj (by omega)
      rw[ep,ej]at this;exact .inr this
    rcases hpq with rfl|hpq
    ·exact e2
    ·rcases e2 with rfl|e2
     ·exact .inr hpq
     ·exact .inr (Fz hpq e2)
   ·exact absurd ⟨v2,by rw[v3];exact hu.2⟩ (L.none v v1)
  ·exact .inl (by omega)
def Lev.none_here (L:Lev hs ws l k ps ls) (h:∀p∈ps,(JU l p,l)∉ws):∀t,t.length<k+1->¬Xs hs ws l t:=fun t ht hc=>by
 by_cases h1:t.length<k
 ·exact L.none t h1 hc
 ·rcases L.first t (by omega) hc.1 with⟨q,hq,e1,e2⟩|⟨v,v1,v2,v3⟩
  ·exact h q hq (by rw[e1];exact hc.2)
  ·exact L.none v v1 ⟨v2,by rw[v3];exact hc.2⟩
def Lev.over (L:Lev hs ws l k [] ls):RF hs ws l []:=by
 refine .inl ⟨rfl,?_⟩
 have early:∀(n:Nat) (t:List Int),t.length=n->Path (Gr hs l) ws l t->∃u,u.length<k/\Path (Gr hs l) ws l u/\JU l u=JU l t:=by
  intro n
  induction n with
  |zero=>
   intro t ht hp;by_cases hk:0<k
   ·exact⟨t,by omega,hp,rfl⟩
   ·rcases L.first t (by omega) hp with⟨q,hq,_⟩|⟨v,v1,_⟩
    ·cases hq
    ·omega
  |succ n ih=>
   intro t ht hp;have ne:t≠[]:=fun z=>by rw[z]at ht;cases ht
   have et:t=t.dropLast++[t.getLast ne]:=(WG ne).symm;generalize t.getLast ne=x at et;generalize t.dropLast=s at et;subst et;obtain⟨p1,p2⟩:=path_app.mp hp;obtain⟨u,u1,u2,u3⟩:=ih s (by simpa using ht) p1;have pu:Path (Gr hs l) ws l (u++[x]):=path_app.mpr ⟨u2,by rw[u3];exact p2⟩;have lu:JU l (u++[x])=JU l (s++[x]):=by rw[Xw,Xw];rfl
   by_cases h1:(u++[x]).length<k
   ·exact⟨_,h1,pu,lu⟩
   ·rcases L.first (u++[x]) (by rw[Yt]at h1 ⊢;simp at h1 ⊢;omega) pu with⟨q,hq,_⟩|⟨v,v1,v2,v3⟩
    ·cases hq
    ·exact⟨v,v1,v2,v3.trans lu⟩
 intro t hc;obtain⟨u,u1,u2,u3⟩:=early t.length t rfl hc.1;exact L.none u u1 ⟨u2,by rw[u3];exact hc.2⟩
structure LG (ws:List (Int×Int)) (l:Int) (P:List Int->Int->Prop) (lg:List (List Int)):Prop where
 mem:∀q∈lg,∃p h,P p h/\q=p++[h]/\(JU l p,h)∈ws
 srt:lg.Pairwise sl
 has:∀p h,P p h->(JU l p,h)∈ws->∃p',p'++[h]∈lg/\(p'=p\/sl p' p)
def Lev.next {lg:List (List Int)}{ls':List Int} (L:Lev hs ws l k ps ls) (hn:∀p∈ps,(JU l p,l)∉ws) (G:LG ws l (fun p h=>p∈ps/\h∈ls) lg)
  (e:ls'=ls.filter fun h=>decide (¬h∈lg.map (JU l))):Lev hs ws l (k+1) lg ls':=by
 have mem':∀h,h∈ls'↔h∈ls/\¬h∈lg.map (JU l):=fun h=>by rw[e,YG,W2]
 have way':∀q∈lg,q.length=k+1/\Path (Gr hs l) ws l q:=fun q hq=>by
  obtain⟨p,h,⟨h1,h2⟩,rfl,h3⟩:=G.mem q hq;obtain⟨w1,w2⟩:=L.way p h1;exact⟨by simp[w1],path_app.mpr ⟨w2,L.lin h h2,h3,trivial⟩⟩
 have reach:∀(s:List Int) (x:Int),s.length=k->Path (Gr hs l) ws l s->Gr hs l x->(JU l s,x)∈ws->x∈ls->∃p∈ps,JU l p=JU l s/\(p=s\/sl p s):=fun s x h1 h2 h3 h4 h5=>by
  rcases L.first s h1 h2 with z|⟨v,v1,v2,v3⟩
  ·exact z
  ·have:=L.cover (v++[x]) (by simp;omega) (path_app.mpr ⟨v2,h3,by rw[v3];exact h4,trivial⟩)
   rw[Xw]at this;exact absurd h5 this
 refine⟨way',G.srt,fun h hh=>L.lin h ((mem' h).mp hh).1,?_,fun t ht hp hl=>?_,fun t ht hp=>?_,L.none_here hn,fun h hg hnl=>?_⟩
 ·rw[e];exact L.lsrt.filter _
 ·obtain⟨m1,m2⟩:=(mem' _).mp hl;by_cases h1:t.length<=k
  ·exact L.cover t h1 hp m1
  ·have ne:t≠[]:=fun z=>by rw[z]at h1;simp at h1
   have et:t=t.dropLast++[t.getLast ne]:=(WG ne).symm;generalize t.getLast ne=x at et;generalize t.dropLast=s at et;subst et;obtain⟨p1,p2,p3,_⟩:=path_app.mp hp;rw[Xw]at m1 m2;obtain⟨p,hp',e1,_⟩:=reach s x (by simp at ht h1;omega) p1 p2 p3 m1;obtain⟨p',k1,_⟩:=G.has p x ⟨hp',m1⟩ (by rw[e1];exact p3);exact m2 (YU.mpr ⟨_,k1,by rw[Xw];rfl⟩)
 ·have ne:t≠[]:=fun z=>by rw[z]at ht;simp at ht
  have et:t=t.dropLast++[t.getLast ne]:=(WG ne).symm;generalize t.getLast ne=x at et;generalize t.dropLast=s at et;subst et;obtain⟨p1,p2,p3,_⟩:=path_app.mp hp;have hs':s.length=k:=by simpa using ht
  by_cases hx:x∈ls
  ·obtain⟨p,hp',e1,e2⟩:=reach s x hs' p1 p2 p3 hx;obtain⟨p',k1,k2⟩:=G.has p x ⟨hp',hx⟩ (by rw[e1];exact p3);refine .inl ⟨_,k1,by rw[Xw,Xw];rfl,?_⟩
   have:p'=s\/sl p' s:=by
    rcases k2 with rfl|k2
    ·exact e2
    ·rcases e2 with rfl|e2
     ·exact .inr k2
     ·exact .inr (Fz k2 e2)
   rcases this with rfl|h
   ·exact .inl rfl
   ·exact .inr (Sx x x h)
  ·obtain⟨u,u1,u2,u3⟩:=L.comp x p2 hx;exact .inr ⟨u,by omega,u2,by rw[u3,Xw];rfl⟩
 ·by_cases hx:h∈ls
  ·have:h∈lg.map (JU l):=YN fun z=>hnl ((mem' h).mpr ⟨hx,z⟩)
   obtain⟨q,hq,e1⟩:=YU.mp this;obtain⟨w1,w2⟩:=way' q hq;exact⟨q,by omega,w2,e1⟩
  ·obtain⟨u,u1,u2,u3⟩:=L.comp h hg hx;exact⟨u,by omega,u2,u3⟩
end
def FR(hs:List Int)(ws:List (Int×Int))(r:List Int):Prop:=
 (r=[]/\∀l∈hs,∀t,¬Xs hs ws l t)\/∃l t,r=l::t/\l∈hs/\Xs hs ws l t/\∀m∈hs,∀u,Xs hs ws m u->t.length<u.length\/(t.length=u.length/\(l<m\/(l=m/\(t=u\/sl t u))))
def Dm:∀(r:List Int),r≠[]->∃i,∃h:i<r.length,∀x∈r,r[i]<=x
 |[],h=>absurd rfl h
 |[a],_=>⟨0,by simp,fun x hx=>by rw[Ym.mp hx];exact Int.le_refl _⟩
 |a::b::r,_=>by
  obtain⟨i,hi,h⟩:=Dm (b::r) (by simp);by_cases c:a<=(b::r)[i]
  ·refine⟨0,by simp,fun x hx=>?_⟩;rcases Yx.mp hx with rfl|hx
   ·exact Int.le_refl _
   ·exact Int.le_trans c (h x hx)
  ·refine⟨i+1,by simpa using hi,fun x hx=>?_⟩;have e:(a::b::r)[i+1]'(by simpa using hi)=(b::r)[i]:=rfl;rw[e];rcases Yx.mp hx with rfl|hx
   ·omega
   ·exact h x hx
def Cu(r:List Int){i j:Nat}(hi:i<=r.length):(r.drop i++r.take i)[j]?=if i+j<r.length then r[i+j]? else if j<r.length then r[i+j-r.length]? else none:=by
 rw[List.getElem?_append,Qc,List.getElem?_drop];by_cases h:i+j<r.length
 ·rw[Yn (by omega),Yn h]
 ·rw[Yo (by omega),Yo h,List.getElem?_take];by_cases h2:j<r.length
  ·rw[Yn (by omega),Yn h2];congr 1;omega
  ·rw[Yo (by omega),Yo h2]
def Iu{hs:List Int}{ws:List (Int×Int)}{r:List Int}(R:Ring hs ws r):∃l∈hs,∃t,Xs hs ws l t/\t.length+1=r.length:=by
 have two:=R.two;obtain⟨i,hi,hmin⟩:=Dm r (fun z=>by rw[z]at two;simp at two);have erot:r.drop i++r.take i=r[i]::(r.drop (i+1)++r.take i):=by rw[Qy hi];rfl
 have hlen:(r.drop (i+1)++r.take i).length+1=r.length:=by rw[Yt,Qc,YJ];omega
 have ch:TN ws (r[i]::(r.drop (i+1)++r.take i)):=by
  rw[←erot];intro j x y h1 h2;rw[Cu r (by omega)]at h1 h2;by_cases c1:i+(j+1)<r.length
  ·rw[Yn c1]at h2;rw[Yn (by omega)]at h1;exact R.chain (i+j) x y h1 h2
  ·rw[Yo c1]at h2;by_cases c2:j+1<r.length
   ·rw[Yn c2]at h2;by_cases c3:i+j<r.length
    ·rw[Yn c3]at h1;have e1:i+j=r.length-1:=by omega
     have e2:i+(j+1)-r.length=0:=by omega
     rw[e1]at h1;rw[e2]at h2;exact R.last y x h2 h1
    ·rw[Yo c3,Yn (by omega)]at h1;have e:i+(j+1)-r.length=(i+j-r.length)+1:=by omega
     rw[e]at h2;exact R.chain _ x y h1 h2
   ·rw[Yo c2]at h2;cases h2
 refine⟨r[i],R.sub _ (YC hi),r.drop (i+1)++r.take i,⟨Ay ch fun x hx=>?_,?_⟩,hlen⟩
 ·have hxr:x∈r:=(Y4.mp hx).elim QY WX;refine⟨R.sub x hxr,Int.lt_iff_le_and_ne.mpr ⟨hmin x hxr,fun z=>?_⟩⟩
  have nd:(r.drop i++r.take i).Nodup:=by
   have:(r.take i++r.drop i).Perm (r.drop i++r.take i):=List.perm_append_comm
   rw[←this.nodup_iff,List.take_append_drop];exact R.nodup
  rw[erot]at nd;exact(Wa.mp nd).1 (by rw[z];exact hx)
 ·have e1:=Sn r[i] (r.drop (i+1)++r.take i);rw[←erot,Cu r (by omega)]at e1;have e2:(r.drop (i+1)++r.take i).length=r.length-1:=by omega
  rw[e2]at e1;by_cases c:i=0
  ·subst c;rw[Yn (by omega)]at e1;exact R.last _ _ (Yj hi) (by simpa using e1)
  ·rw[Yo (by omega),Yn (by omega)]at e1;have e3:i+(r.length-1)-r.length=i-1:=by omega
   rw[e3]at e1;exact R.chain (i-1) _ _ e1 (by rw[show i-1+1=i by omega];exact Yj hi)
def Ex:∀{t:List Int},¬t.Nodup->∃a x b c,t=a++x::(b++x::c)
 |[],h=>absurd WZ h
 |y::t,h=>by
  by_cases hy:y∈t
  ·obtain⟨b,c,e⟩:=List.append_of_mem hy;exact⟨[],y,b,c,by rw[e];rfl⟩
  ·obtain⟨a,x,b,c,e⟩:=Ex (t:=t) fun z=>h (Wa.mpr ⟨hy,z⟩);exact⟨y::a,x,b,c,by rw[e];rfl⟩
def Af{hs:List Int}{ws:List (Int×Int)}{l:Int}{t:List Int}(hu:∀q∈ws,q.1≠q.2)(hl:l∈hs)(hc:Xs hs ws l t)(hmin:∀u,Xs hs ws l u->t.length<=u.length):Ring hs ws (l::t):=by
 have hne:t≠[]:=fun z=>by
  have h2:=hc.2;rw[z]at h2;exact hu _ h2 rfl
 have hg:=FO hc.1;refine⟨by have:=Qf.mpr hne;simp;omega,Wa.mpr ⟨fun z=>absurd (hg l z).2 (by omega),?_⟩,fun x hx=>?_,ED hc.1,fun x y h1 h2=>?_⟩
 ·refine YN fun z=>?_;obtain⟨a,x,b,c,e⟩:=Ex z;have h1:=hc.1;rw[e]at h1;obtain⟨p1,p2⟩:=path_app.mp h1;have p3:=(path_app (a:=x::b) (b:=x::c) (g:=JU l a)).mp p2
  have cl:Xs hs ws l (a++x::c):=by
   refine⟨path_app.mpr ⟨p1,p2.1,p2.2.1,p3.2.2.2⟩,?_⟩
   have e2:JU l (a++x::c)=JU l t:=by
    rw[e,Xw,Xw];show JU x c=JU x (b++x::c);rw[Xw];rfl
   rw[e2];exact hc.2
  have:=hmin _ cl
  rw[e]at this;simp at this;omega
 ·rcases Yx.mp hx with rfl|hx
  ·exact hl
  ·exact(hg x hx).1
 ·cases h1
  have e:=Sn l t;simp only[Y6,Q7]at h2;rw[e]at h2;cases h2
  exact hc.2
def FR.none_iff {hs:List Int}{ws:List (Int×Int)}{r:List Int} (hu:∀q∈ws,q.1≠q.2) (F:FR hs ws r):r=[]↔¬ ∃r,Ring hs ws r:=by
 constructor
 ·rintro rfl ⟨r,R⟩;obtain⟨l,hl,t,hc,_⟩:=Iu R;rcases F with⟨_,F⟩|⟨_,_,e,_⟩
  ·exact F l hl t hc
  ·cases e
 ·intro h;rcases F with⟨e,_⟩|⟨l,t,rfl,hl,hc,hm⟩
  ·exact e
  ·refine absurd ⟨_,Af hu hl hc fun u hu'=>?_⟩ h;rcases hm l hl u hu' with z|⟨z,_⟩<;>omega
def FR.ring {hs:List Int}{ws:List (Int×Int)}{r:List Int} (hu:∀q∈ws,q.1≠q.2) (F:FR hs ws r) (h:r≠[]):Ring hs ws r/\∃l t,r=l::t/\∀x∈t,l<x:=by
 rcases F with⟨e,_⟩|⟨l,t,rfl,hl,hc,hm⟩
 ·exact absurd e h
 ·refine⟨Af hu hl hc fun u hu'=>?_,l,t,rfl,fun x hx=>(FO hc.1 x hx).2⟩;rcases hm l hl u hu' with z|⟨z,_⟩<;>omega
def Kf(ws:List (Int×Int)):Prop:=ws.length<=20/\ws.Nodup/\∀q∈ws,(1<=q.1/\q.1<=10/\1<=q.2/\q.2<=10)/\q.1≠q.2
end M
namespace Pu
open PySem PySem.Spec PyProof.Rows L2 Own
inductive D where
 |int (i:Int)|bl (b:Bool)|non|str (x:Str)|ty (n:String)|tup (ds:List D)|lst (ds:List D)|scr (ns:List Int)|dK (kvs:List (Key×V))|dT (kvs:List (List Key×V))|loc (a:Addr) (d:D)|err (C:Addr)|ref (a:Addr)|ins (C:Addr) (xs:List Str) (ds:List D)|dF (kvs:List (List Key×V))|erM (C:Addr) (r:List Int)|fL (ns:List Int)
mutual
inductive Rp (K:Za) (H:Hp):D->V->Prop
 |int (i:Int):Rp K H (.int i) (.int i)
 |bl (b:Bool):Rp K H (.bl b) (.bl b)
 |non:Rp K H .non .non
 |str (x:Str):Rp K H (.str x) (.str x)
 |ty (n:String):Rp K H (.ty n) (.ty n)
 |tup {ds:List D} {vs:List V} {a:Addr}:H a=some (.tup vs)->Rps K H ds vs->Rp K H (.tup ds) (.ref a)
 |lst {ds:List D} {vs:List V} {a:Addr}:H a=some (.lst vs)->Rps K H ds vs->Rp K H (.lst ds) (.ref a)
 |scr {ns:List Int} {a:Addr}:SqL K H a (ns.map V.int)->Rp K H (.scr ns) (.ref a)
 |dK {kvs:List (Key×V)} {a:Addr}:H a=some (.dK kvs)->Rp K H (.dK kvs) (.ref a)
 |dT {kvs:List (List Key×V)} {a:Addr}:H a=some (.dT kvs)->Rp K H (.dT kvs) (.ref a)
 |dF {kvs:List (List Key×V)} {o:Obj} {a:Addr}:H a=some (.frz o (.dT kvs))->Rp K H (.dF kvs) (.ref a)
 |loc {d:D} {a:Addr}:Rp K H d (.ref a)->Rp K H (.loc a d) (.ref a)
 |err {C a:Addr}:H a=some (ExcR.ErrH a C)->Rp K H (.err C) (.ref a)
 |ref (a:Addr):Rp K H (.ref a) (.ref a)
 |erM {C a dx l:Addr} {o:Obj} {r:List Int}:H a=some (ExcR.ErrD a C (some dx))->H dx=some (.xd [("members",.ref l)])->H l=some (.frz o (.lst (r.map V.int)))->Rp K H (.erM C r) (.ref a)
 |fL {a:Addr} {o:Obj} {ns:List Int}:H a=some (.frz o (.lst (ns.map V.int)))->Rp K H (.fL ns) (.ref a)
 |ins {C a dx:Addr} {xs:List Str} {ds:List D} {vs:List V}:H a=some (.ins C dx (xs.zip vs))->xs.length=vs.length->Rps K H ds vs->Rp K H (.ins C xs ds) (.ref a)
inductive Rps (K:Za) (H:Hp):List D->List V->Prop
 |nil:Rps K H [] []
 |cons {d:D} {v:V} {ds:List D} {vs:List V}:Rp K H d v->Rps K H ds vs->Rps K H (d::ds) (v::vs)
end
section
variable {K:Za}{H H':Hp}
mutual
def Rp.mono (S:Same H H'):∀{d:D}{v:V},Rp K H d v->Rp K H' d v
 |_,_,.int i=>.int i
 |_,_,.bl b=>.bl b
 |_,_,.non=>.non
 |_,_,.str x=>.str x
 |_,_,.ty n=>.ty n
 |_,_,.tup h r=>.tup (S _ _ h) (Rps.mono S r)
 |_,_,.lst h r=>.lst (S _ _ h) (Rps.mono S r)
 |_,_,.scr h=>.scr (S.seq h)
 |_,_,.dK h=>.dK (S _ _ h)
 |_,_,.dT h=>.dT (S _ _ h)
 |_,_,.loc h=>.loc (Rp.mono S h)
 |_,_,.dF h=>.dF (S _ _ h)
 |_,_,.err h=>.err (S _ _ h)
 |_,_,.ref a=>.ref a
 |_,_,.erM h1 h2 h3=>.erM (S _ _ h1) (S _ _ h2) (S _ _ h3)
 |_,_,.fL h=>.fL (S _ _ h)
 |_,_,.ins h e r=>.ins (S _ _ h) e (Rps.mono S r)
def Rps.mono (S:Same H H'):∀{ds:List D}{vs:List V},Rps K H ds vs->Rps K H' ds vs
 |_,_,.nil=>.nil
 |_,_,.cons h r=>.cons (Rp.mono S h) (Rps.mono S r)
end
def Rps.len:∀{ds:List D}{vs:List V},Rps K H ds vs->vs.length=ds.length
 |_,_,.nil=>rfl
 |_,_,.cons _ r=>YQ (· + 1) (Rps.len r)
def Rps.get:∀{ds:List D}{vs:List V}{i:Nat}{d:D},Rps K H ds vs->ds[i]?=some d->∃v,vs[i]?=some v/\Rp K H d v
 |_,_,_,_,.nil,e=>by simp at e
 |_,_,0,_,.cons h _,e=>by simp at e;subst e;exact⟨_,rfl,h⟩
 |_,_,i+1,d,.cons _ r,e=>by
  obtain⟨v,h1,h2⟩:=Rps.get (i:=i) (d:=d) r (by simpa using e);exact⟨v,by simpa using h1,h2⟩
def Rps.append:∀{ds es:List D}{vs us:List V},Rps K H ds vs->Rps K H es us->Rps K H (ds++es) (vs++us)
 |_,_,_,_,.nil,s=>s
 |_,_,_,_,.cons h r,s=>.cons h (Rps.append r s)
def Rps.drop:∀{ds:List D}{vs:List V} (n:Nat),Rps K H ds vs->Rps K H (ds.drop n) (vs.drop n)
 |_,_,0,r=>r
 |_,_,_+1,.nil=>.nil
 |_,_,n+1,.cons _ r=>Rps.drop n r
def Rps.take:∀{ds:List D}{vs:List V} (n:Nat),Rps K H ds vs->Rps K H (ds.take n) (vs.take n)
 |_,_,0,_=>.nil
 |_,_,_+1,.nil=>.nil
 |_,_,n+1,.cons h r=>.cons h (Rps.take n r)
end
mutual
def imm:D->Bool
 | .tup ds=>imms ds
 | .lst _=>false
 | .scr _=>false
 | .dK _=>false
 | .dT _=>false
 | .loc _ _=>false
 | .err _=>false
 | .erM _ _=>false
 | .ins _ _ _=>false
 |_=>true
def imms:List D->Bool
 |[]=>true
 |d::r=>imm d&&imms r
end
open Classical in
noncomputable def off(Z:Addr->Prop)(H:Hp):Hp:=fun b=>if Z b then none else H b
section
variable {K:Za}{H H':Hp}{Z Z':Addr->Prop}
def XJ{b:Addr}{o:HO}(h:off Z H b=some o):H b=some o/\¬Z b:=by
 unfold off at h;by_cases z:Z b
 ·rw[Yn z]at h;cases h
 ·rw[Yo z]at h;exact⟨h,z⟩
def Ur{b:Addr}{o:HO}(h:H b=some o)(z:¬Z b):off Z H b=some o:=by
 unfold off;rw[Yo z];exact h
def JV(S:Same H H')(hz:∀b o,H b=some o->¬Z b->¬Z' b):Same (off Z H) (off Z' H'):=fun b o h=>by
 obtain⟨h1,h2⟩:=XJ h;exact Ur (S b o h1) (hz b o h1 h2)
def off_sub:Same (off Z H) H:=fun _ _ h=>(XJ h).1
mutual
def Rp.off (hm:∀b,Z b->Mut (H b)):∀{d:D}{v:V},Rp K H d v->imm d=true->Rp K (off Z H) d v
 |_,_,.int i,_=>.int i
 |_,_,.bl b,_=>.bl b
 |_,_,.non,_=>.non
 |_,_,.str x,_=>.str x
 |_,_,.ty n,_=>.ty n
 |_,_,.tup h r,e=>.tup (Ur h fun z=>by have:=hm _ z;rw[h]at this;exact this) (Rps.off hm r (by unfold imm at e;exact e))
 |_,_,.lst _ _,e=>by unfold imm at e;cases e
 |_,_,.scr _,e=>by unfold imm at e;cases e
 |_,_,.dK _,e=>by unfold imm at e;cases e
 |_,_,.dT _,e=>by unfold imm at e;cases e
 |_,_,.loc _,e=>by unfold imm at e;cases e
 |_,_,.dF h,_=>.dF (Ur h fun z=>by have:=hm _ z;rw[h]at this;exact this)
 |_,_,.err _,e=>by unfold imm at e;cases e
 |_,_,.ref a,_=>.ref a
 |_,_,.erM _ _ _,e=>by unfold imm at e;cases e
 |_,_,.fL h,_=>.fL (Ur h fun z=>by have:=hm _ z;rw[h]at this;exact this)
 |_,_,.ins _ _ _,e=>by unfold imm at e;cases e
def Rps.off (hm:∀b,Z b->Mut (H b)):∀{ds:List D}{vs:List V},Rps K H ds vs->imms ds=true->Rps K (off Z H) ds vs
 |_,_,.nil,_=>.nil
 |_,_,.cons h r,e=>by
  unfold imms at e;rw[Y9]at e;exact .cons (Rp.off hm h e.1) (Rps.off hm r e.2)
end
end
inductive O where
 |lst (ds:List D)|dK (kvs:List (Key×V))|dT (kvs:List (List Key×V))|ins (a C:Addr) (xs:List Str) (cs:List (Addr×List D))|lsA (a:Addr) (ds:List D)|nst (cs:List (Addr×List D))|nsl (a:Addr) (cs:List (Addr×List D))
instance:Coe (List D) O:=⟨O.lst⟩
def O.d:O->D
 | .lst ds=>.lst ds | .dK kvs=>.dK kvs | .dT kvs=>.dT kvs | .ins _ C xs cs=>.ins C xs (cs.map fun c=>.lst c.2) | .lsA _ ds=>.lst ds | .nst cs=>.tup (cs.map fun c=>.lst c.2) | .nsl _ cs=>.lst (cs.map fun c=>.lst c.2)
def O.adr (a:Addr):O->Addr->Prop
 | .lst _=>fun b=>b=a
 | .dK _=>fun b=>b=a
 | .dT _=>fun b=>b=a
 | .ins x _ _ cs=>fun b=>b=x\/∃c∈cs,b=c.1
 | .lsA x _=>fun b=>b=x
 | .nst cs=>fun b=>∃c∈cs,b=c.1
 | .nsl x cs=>fun b=>b=x\/∃c∈cs,b=c.1
def OR(K:Za)(F H:Hp)(a:Addr):O->Prop
 | .lst ds=>∃vs,H a=some (.lst vs)/\Rps K F ds vs
 | .dK kvs=>H a=some (.dK kvs)
 | .dT kvs=>H a=some (.dT kvs)
 | .lsA x ds=>a=x/\∃vs,H a=some (.lst vs)/\Rps K F ds vs
 | .ins x C xs cs=>a=x/\xs.length=cs.length/\(∃dx,H a=some (.ins C dx (xs.zip (cs.map fun c=>V.ref c.1))))/\(∀c∈cs,∃vs,H c.1=some (.lst vs)/\Rps K F c.2 vs)/\(cs.map (·.1)).Nodup
 | .nsl x cs=>a=x/\H a=some (.lst (cs.map fun c=>V.ref c.1))/\(∀c∈cs,∃vs,H c.1=some (.lst vs)/\Rps K F c.2 vs)/\(x::cs.map (·.1)).Nodup
 | .nst cs=>F a=some (.tup (cs.map fun c=>V.ref c.1))/\(∀c∈cs,∃vs,H c.1=some (.lst vs)/\Rps K F c.2 vs)/\(cs.map (·.1)).Nodup
def OR.mono {K:Za}{F F' H H':Hp}{a:Addr}{o:O} (S1:Same F F') (S2:∀b,o.adr a b->∀x,H b=some x->H' b=some x) (h:OR K F H a o):OR K F' H' a o:=by
 cases o with
 |lst ds=>obtain⟨vs,h1,h2⟩:=h;exact⟨vs,S2 _ rfl _ h1,Rps.mono S1 h2⟩
 |dK kvs=>exact S2 _ rfl _ h
 |dT kvs=>exact S2 _ rfl _ h
 |lsA x ds=>obtain⟨rfl,vs,h1,h2⟩:=h;exact⟨rfl,vs,S2 _ rfl _ h1,Rps.mono S1 h2⟩
 |nsl x cs=>
  obtain⟨e,h1,h2,h3⟩:=h;exact⟨e,S2 _ (.inl e) _ h1,fun c hc=>let ⟨vs,q1,q2⟩:=h2 c hc;⟨vs,S2 _ (.inr ⟨c,hc,rfl⟩) _ q1,Rps.mono S1 q2⟩,h3⟩
 |nst cs=>
  obtain⟨h1,h2,h3⟩:=h;exact⟨S1 _ _ h1,fun c hc=>let ⟨vs,q1,q2⟩:=h2 c hc;⟨vs,S2 _ ⟨c,hc,rfl⟩ _ q1,Rps.mono S1 q2⟩,h3⟩
 |ins x C xs cs=>
  obtain⟨e,l,⟨dx,h1⟩,h2,h3⟩:=h;exact⟨e,l,⟨dx,S2 _ (.inl e) _ h1⟩,fun c hc=>let ⟨vs,q1,q2⟩:=h2 c hc;⟨vs,S2 _ (.inr ⟨c,hc,rfl⟩) _ q1,Rps.mono S1 q2⟩,h3⟩
def KJ{K:Za}{F:Hp}:∀{cs:List (Addr×List D)},(∀c∈cs,∃vs,F c.1=some (.lst vs)/\Rps K F c.2 vs)->Rps K F (cs.map fun c=>.lst c.2) (cs.map fun c=>V.ref c.1)
 |[],_=>.nil
 |c::cs,h=>let ⟨_,q1,q2⟩:=h c YL;.cons (.lst q1 q2) (KJ fun c' hc=>h c' (YB _ hc))
def OR.rpIn {K:Za}{F F' H:Hp}{a:Addr}{o:O} (S1:Same F F') (S2:∀b,o.adr a b->∀x,H b=some x->F' b=some x) (h:OR K F H a o):Rp K F' o.d (.ref a):=by
 cases o with
 |lst ds=>obtain⟨vs,h1,h2⟩:=h;exact .lst (S2 _ rfl _ h1) (Rps.mono S1 h2)
 |dK kvs=>exact .dK (S2 _ rfl _ h)
 |dT kvs=>exact .dT (S2 _ rfl _ h)
 |lsA x ds=>obtain⟨rfl,vs,h1,h2⟩:=h;exact .lst (S2 _ rfl _ h1) (Rps.mono S1 h2)
 |nsl x cs=>
  obtain⟨e,h1,h2,h3⟩:=h;exact .lst (S2 _ (.inl e) _ h1) (KJ fun c hc=>let ⟨vs,q1,q2⟩:=h2 c hc;⟨vs,S2 _ (.inr ⟨c,hc,rfl⟩) _ q1,Rps.mono S1 q2⟩)
 |nst cs=>
  obtain⟨h1,h2,h3⟩:=h;exact .tup (S1 _ _ h1) (KJ fun c hc=>let ⟨vs,q1,q2⟩:=h2 c hc;⟨vs,S2 _ ⟨c,hc,rfl⟩ _ q1,Rps.mono S1 q2⟩)
 |ins x C xs cs=>
  obtain⟨e,l,⟨dx,h1⟩,h2,h3⟩:=h;exact .ins (S2 _ (.inl e) _ h1) (by rw[Yi];exact l) (KJ fun c hc=>let ⟨vs,q1,q2⟩:=h2 c hc;⟨vs,S2 _ (.inr ⟨c,hc,rfl⟩) _ q1,Rps.mono S1 q2⟩)
def OR.rp {K:Za}{F H:Hp}{a:Addr}{o:O} (S1:Same F H) (h:OR K F H a o):Rp K H o.d (.ref a):=h.rpIn S1 fun _ _ _ e=>e
def OR.mut {K:Za}{F H:Hp}{a:Addr}{o:O} (h:OR K F H a o):∀b,o.adr a b->Mut (H b):=by
 cases o with
 |lst ds=>obtain⟨vs,h1,h2⟩:=h;intro b e;rw[show b=a from e,h1];trivial
 |dK kvs=>intro b e;rw[show b=a from e,show H a=some (.dK kvs)from h];trivial
 |dT kvs=>intro b e;rw[show b=a from e,show H a=some (.dT kvs)from h];trivial
 |lsA x ds=>obtain⟨rfl,vs,h1,h2⟩:=h;intro b e;rw[show b=a from e,h1];trivial
 |nsl x cs=>
  obtain⟨e,h1,h2,h3⟩:=h;intro b hb;rcases hb with hb|⟨c,hc,hb⟩
  ·rw[show b=a from hb.trans e.symm,h1];trivial
  ·obtain⟨vs,q1,_⟩:=h2 c hc;rw[hb,q1];trivial
 |nst cs=>
  obtain⟨h1,h2,h3⟩:=h;rintro b ⟨c,hc,hb⟩;obtain⟨vs,q1,_⟩:=h2 c hc;rw[hb,q1];trivial
 |ins x C xs cs=>
  obtain⟨e,l,⟨dx,h1⟩,h2,h3⟩:=h;intro b hb;rcases hb with hb|⟨c,hc,hb⟩
  ·rw[show b=a from hb.trans e.symm,h1];trivial
  ·obtain⟨vs,q1,_⟩:=h2 c hc;rw[hb,q1];trivial
inductive S where
 |bor (d:D)|sh (d:D)|own (o:O)|view (o:O)|tmp (d:D)
abbrev Γ:=List (Option S)
def D.strip:D->D
 | .loc _ d=>d|d=>d
def Rp.strip {K:Za}{H:Hp}{d:D}{v:V} (h:Rp K H d v):Rp K H d.strip v:=by
 cases h with
 |loc h=>exact h
 |int i=>exact .int i
 |bl b=>exact .bl b
 |non=>exact .non
 |str x=>exact .str x
 |ty n=>exact .ty n
 |tup h r=>exact .tup h r
 |lst h r=>exact .lst h r
 |scr h=>exact .scr h
 |dK h=>exact .dK h
 |dT h=>exact .dT h
 |dF h=>exact .dF h
 |err h=>exact .err h
 |ref a=>exact .ref a
 |erM h1 h2 h3=>exact .erM h1 h2 h3
 |fL h=>exact .fL h
 |ins h e r=>exact .ins h e r
def S.d:S->D
 | .bor d=>d.strip | .sh d=>d | .own o=>o.d | .view o=>o.d | .tmp d=>d
def arg(d:D):S:=match imm d with|true=>.sh d|false=>.bor d
def argT(d:D):S:=match imm d with|true=>.sh d|false=>.tmp d
def S.sub:S->D->S
 | .bor _,e=>arg e | .tmp _,e=>argT e | .own (.nst _),e=>argT e | .view (.nst _),e=>argT e | .own (.nsl _ _),e=>argT e | .view (.nsl _ _),e=>argT e|_,e=>.sh e
def S.shd:S->Option D
 | .sh d=>some d | .own o=>some o.d
 | .bor d=>match imm d with|true=>some d|false=>none
 | .tmp d=>match imm d with|true=>some d|false=>none
 | .view _=>none
def S.slot:S->Option S
 | .view _=>none | .bor d=>some (.bor d) | .sh d=>some (.sh d) | .own ds=>some (.own ds)
 | .tmp d=>match imm d with|true=>some (.sh d)|false=>none
def Zap(γ:Γ)(σ:L2.St)(b:Addr):Prop:=∃(i:Nat) (ds:O) (a:Addr),γ[i]?=some (some (.own ds))/\σ[i]?=some (some (.ref a))/\ds.adr a b
def zof(B:Addr->Prop)(γ:Γ)(σ:L2.St):Addr->Prop:=fun b=>B b\/Zap γ σ b
def SV(K:Za)(Z:Addr->Prop)(H0 H:Hp):S->V->Prop
 | .bor d,v=>Rp K H0 d v
 | .sh d,v=>Rp K (off Z H) d v
 | .own o,v=>∃a,v=.ref a/\(∀b,o.adr a b->H0 b=none)/\OR K (off Z H) H a o
 |_,_=>False
def TV(K:Za)(Z:Addr->Prop)(H0 H H':Hp):S->V->Prop
 | .bor d,v=>Rp K H0 d v
 | .sh d,v=>Rp K (off Z H') d v
 | .own o,v=>∃a,v=.ref a/\(∀b,o.adr a b->H b=none)/\OR K (off (fun b=>Z b\/o.adr a b) H') H' a o
 | .view o,v=>∃a,v=.ref a/\OR K (off Z H') H' a o
 | .tmp d,v=>Rp K H' d v
structure EnvR (K:Za) (H0:Hp) (B:Addr->Prop) (H:Hp) (σ:L2.St) (γ:Γ):Prop where
 same:Same H0 H
 len:σ.length=γ.length
 bm:∀b,B b->Mut (H b)
 own:∀(i j:Nat) (a a':Addr) (ds es:O) (b:Addr),γ[i]?=some (some (.own ds))->γ[j]?=some (some (.own es))->σ[i]?=some (some (.ref a))->σ[j]?=some (some (.ref a'))->ds.adr a b->es.adr a' b->i=j
 slot:∀(i:Nat) (s:S),γ[i]?=some (some s)->∃v,σ[i]?=some (some v)/\SV K (zof B γ σ) H0 H s v
section
variable {K:Za}{H0 H H1 H':Hp}{B Z Z':Addr->Prop}{σ:L2.St}{γ:Γ}
def XT(S:Same H H'){b:Addr}(h:Mut (H b)):Mut (H' b):=by
 cases e:H b with
 |none=>rw[e]at h;exact h.elim
 |some o=>rw[S b o e,←e];exact h
def Kv{b:Addr}(h:Mut (H b)):∃o,H b=some o:=by
 cases e:H b with
 |none=>rw[e]at h;exact h.elim
 |some o=>exact⟨o,rfl⟩
def EnvR.grow (E:EnvR K H0 B H σ γ) (S:Same H H'):EnvR K H0 B H' σ γ where
 same:=E.same.trans S
 len:=E.len
 bm b h:=XT S (E.bm b h)
 own:=E.own
 slot i s h:=by
  obtain⟨v,h1,h2⟩:=E.slot i s h;refine⟨v,h1,?_⟩;cases s with
  |bor d=>exact h2
  |sh d=>exact Rp.mono (JV S fun _ _ _ z=>z) h2
  |own ds=>
   obtain⟨a,e1,e3,e4⟩:=h2;exact⟨a,e1,e3,e4.mono (JV S fun _ _ _ z=>z) fun b _ x=>S b x⟩
  |view ds=>exact h2
  |tmp d=>exact h2
def EnvR.zm (E:EnvR K H0 B H σ γ):∀b,zof B γ σ b->Mut (H b):=fun b h=>by
 rcases h with h|⟨i,ds,x,h1,h2,hb⟩
 ·exact E.bm b h
 ·obtain⟨v,e1,a,e2,e3,e4⟩:=E.slot i _ h1;rw[h2]at e1;cases e1
  cases e2
  exact e4.mut b hb
def TV.rp {s:S}{v:V} (h0:Same H0 H') (h:TV K Z H0 H H' s v):Rp K H' s.d v:=by
 cases s with
 |bor d=>exact(Rp.mono h0 h).strip
 |sh d=>exact Rp.mono off_sub h
 |own ds=>
  obtain⟨a,rfl,_,r⟩:=h;exact r.rp off_sub
 |view ds=>
  obtain⟨a,rfl,r⟩:=h;exact r.rp off_sub
 |tmp d=>exact h
def TV.grow {s:S}{v:V} (S1:Same H' H1) (h:TV K Z H0 H H' s v):TV K Z H0 H H1 s v:=by
 cases s with
 |bor d=>exact h
 |sh d=>exact Rp.mono (JV S1 fun _ _ _ z=>z) h
 |own ds=>
  obtain⟨a,rfl,e0,r⟩:=h;exact⟨a,rfl,e0,r.mono (JV S1 fun _ _ _ z=>z) fun b _ x=>S1 b x⟩
 |view ds=>
  obtain⟨a,rfl,r⟩:=h;exact⟨a,rfl,r.mono (JV S1 fun _ _ _ z=>z) fun b _ x=>S1 b x⟩
 |tmp d=>exact Rp.mono S1 h
def TV.weak {s:S}{v:V} (S1:Same H H1) (hz:∀b,Z b->Z' b) (h:TV K Z' H0 H1 H' s v):TV K Z H0 H H' s v:=by
 cases s with
 |bor d=>exact h
 |sh d=>exact Rp.mono (JV (Same.refl _) fun b _ _ z y=>z (hz b y)) h
 |own ds=>
  obtain⟨a,rfl,e0,r⟩:=h;exact⟨a,rfl,fun b hb=>S1.free (e0 b hb),r.mono (JV (Same.refl _) fun b _ _ z y=>z (y.imp (hz b) id)) fun _ _ _ q=>q⟩
 |view ds=>
  obtain⟨a,rfl,r⟩:=h;exact⟨a,rfl,r.mono (JV (Same.refl _) fun b _ _ z y=>z (hz b y)) fun _ _ _ q=>q⟩
 |tmp d=>exact h
def TV.shd {s:S}{v:V}{d:D} (h0:Same H0 H') (hm:∀b,Z b->Mut (H b)) (S1:Same H H') (h:TV K Z H0 H H' s v) (e:s.shd=some d):Rp K (off Z H') d v:=by
 have hm':∀b,Z b->Mut (H' b):=fun b z=>XT S1 (hm b z);cases s with
 |bor d'=>
  unfold S.shd at e;cases q:imm d' with
  |false=>simp[q]at e
  |true=>
   simp[q]at e;subst e;exact Rp.off hm' (Rp.mono h0 h) q
 |sh d'=>cases e;exact h
 |own ds=>
  cases e
  obtain⟨a,rfl,e0,r⟩:=h;exact r.rpIn (JV (Same.refl _) fun b _ _ z y=>z (.inl y)) fun b hb x e=>Ur e fun z=>by have:=hm _ z;rw[e0 b hb]at this;exact this
 |view ds=>cases e
 |tmp d'=>
  unfold S.shd at e;cases q:imm d' with
  |false=>simp[q]at e
  |true=>
   simp[q]at e;subst e;exact Rp.off hm' h q
def argR{d:D}{v:V}(hm:∀b,Z b->Mut (H' b))(h0:Same H0 H')(h:Rp K H0 d v):TV K Z H0 H H' (arg d) v:=by
 unfold arg;cases q:imm d with
 |true=>exact Rp.off hm (Rp.mono h0 h) q
 |false=>exact h
def XX{d:D}{v:V}(hm:∀b,Z b->Mut (H' b))(h:Rp K H' d v):TV K Z H0 H H' (argT d) v:=by
 unfold argT;cases q:imm d with
 |true=>exact Rp.off hm h q
 |false=>exact h
def Rp.lst_inv {ds:List D}{v:V} (h:Rp K H (.lst ds) v):∃a vs,v=.ref a/\H a=some (.lst vs)/\Rps K H ds vs:=by
 cases h with
 |lst h r=>exact⟨_,_,rfl,h,r⟩
def Rp.tup_inv {ds:List D}{v:V} (h:Rp K H (.tup ds) v):∃a vs,v=.ref a/\H a=some (.tup vs)/\Rps K H ds vs:=by
 cases h with
 |tup h r=>exact⟨_,_,rfl,h,r⟩
def TV.part {s:S}{v:V} (h0:Same H0 H') (hm:∀b,Z b->Mut (H b)) (S1:Same H H') (h:TV K Z H0 H H' s v) :
  (∀ds,s.d=.lst ds->∃a vs,v=.ref a/\H' a=some (.lst vs)/\vs.length=ds.length/\∀(i:Nat) d,ds[i]?=some d->∃u,vs[i]?=some u/\TV K Z H0 H H' (s.sub d) u)/\
  (∀ds,s.d=.tup ds->∃a vs,v=.ref a/\H' a=some (.tup vs)/\vs.length=ds.length/\∀(i:Nat) d,ds[i]?=some d->∃u,vs[i]?=some u/\TV K Z H0 H H' (s.sub d) u):=by
 have hm':∀b,Z b->Mut (H' b):=fun b z=>XT S1 (hm b z);cases s with
 |bor d=>
  have h:=Rp.strip h;refine⟨fun ds e=>?_,fun ds e=>?_⟩<;>rw[show d.strip=_ from e]at h
  ·obtain⟨a,vs,rfl,h,r⟩:=Rp.lst_inv h;exact⟨_,_,rfl,h0 _ _ h,r.len,fun i d e=>let ⟨u,h1,h2⟩:=r.get e;⟨u,h1,argR hm' h0 h2⟩⟩
  ·obtain⟨a,vs,rfl,h,r⟩:=Rp.tup_inv h;exact⟨_,_,rfl,h0 _ _ h,r.len,fun i d e=>let ⟨u,h1,h2⟩:=r.get e;⟨u,h1,argR hm' h0 h2⟩⟩
 |sh d=>
  refine⟨fun ds e=>?_,fun ds e=>?_⟩<;>(have e':d=_:=e;subst e')
  ·obtain⟨a,vs,rfl,h,r⟩:=Rp.lst_inv h;exact⟨_,_,rfl,off_sub _ _ h,r.len,fun i d e=>r.get e⟩
  ·obtain⟨a,vs,rfl,h,r⟩:=Rp.tup_inv h;exact⟨_,_,rfl,off_sub _ _ h,r.len,fun i d e=>r.get e⟩
 |own es=>
  cases es with
  |lst es=>
   refine⟨fun ds e=>?_,fun ds e=>by cases e⟩;cases e
   obtain⟨a,rfl,e0,vs,e,r⟩:=h;exact⟨a,vs,rfl,e,r.len,fun i d e=>let ⟨u,h1,h2⟩:=r.get e;⟨u,h1,Rp.mono (JV (Same.refl _) fun b _ _ z y=>z (.inl y)) h2⟩⟩
  |lsA x es=>
   refine⟨fun ds e=>?_,fun ds e=>by cases e⟩;cases e
   obtain⟨a,rfl,e0,_,vs,e,r⟩:=h;exact⟨a,vs,rfl,e,r.len,fun i d e=>let ⟨u,h1,h2⟩:=r.get e;⟨u,h1,Rp.mono (JV (Same.refl _) fun b _ _ z y=>z (.inl y)) h2⟩⟩
  |dK es=>exact⟨(fun ds e=>by cases e),(fun ds e=>by cases e)⟩
  |dT es=>exact⟨(fun ds e=>by cases e),(fun ds e=>by cases e)⟩
  |nsl x cs=>
   refine⟨fun ds e=>?_,fun ds e=>by cases e⟩;cases e
   obtain⟨a,rfl,e0,_,e1,e2,e3⟩:=h;have r:Rps K H' (cs.map fun c=>D.lst c.2) (cs.map fun c=>V.ref c.1):=KJ fun c hc=>let ⟨vs,q1,q2⟩:=e2 c hc;⟨vs,q1,Rps.mono off_sub q2⟩;exact⟨a,_,rfl,e1,r.len,fun i d e=>let ⟨u,h1,h2⟩:=r.get e;⟨u,h1,XX hm' h2⟩⟩
  |nst cs=>
   refine⟨(fun ds e=>by cases e),fun ds e=>?_⟩;cases e
   obtain⟨a,rfl,e0,e1,e2,e3⟩:=h;have r:Rps K H' (cs.map fun c=>D.lst c.2) (cs.map fun c=>V.ref c.1):=KJ fun c hc=>let ⟨vs,q1,q2⟩:=e2 c hc;⟨vs,q1,Rps.mono off_sub q2⟩;exact⟨a,_,rfl,off_sub _ _ e1,r.len,fun i d e=>let ⟨u,h1,h2⟩:=r.get e;⟨u,h1,XX hm' h2⟩⟩
  |ins x C xs cs=>exact⟨(fun ds e=>by cases e),(fun ds e=>by cases e)⟩
 |view es=>
  cases es with
  |lst es=>
   refine⟨fun ds e=>?_,fun ds e=>by cases e⟩;cases e
   obtain⟨a,rfl,vs,e,r⟩:=h;exact⟨a,vs,rfl,e,r.len,fun i d e=>r.get e⟩
  |lsA x es=>
   refine⟨fun ds e=>?_,fun ds e=>by cases e⟩;cases e
   obtain⟨a,rfl,_,vs,e,r⟩:=h;exact⟨a,vs,rfl,e,r.len,fun i d e=>r.get e⟩
  |dK es=>exact⟨(fun ds e=>by cases e),(fun ds e=>by cases e)⟩
  |dT es=>exact⟨(fun ds e=>by cases e),(fun ds e=>by cases e)⟩
  |nsl x cs=>
   refine⟨fun ds e=>?_,fun ds e=>by cases e⟩;cases e
   obtain⟨a,rfl,_,e1,e2,e3⟩:=h;have r:Rps K H' (cs.map fun c=>D.lst c.2) (cs.map fun c=>V.ref c.1):=KJ fun c hc=>let ⟨vs,q1,q2⟩:=e2 c hc;⟨vs,q1,Rps.mono off_sub q2⟩;exact⟨a,_,rfl,e1,r.len,fun i d e=>let ⟨u,h1,h2⟩:=r.get e;⟨u,h1,XX hm' h2⟩⟩
  |nst cs=>
   refine⟨(fun ds e=>by cases e),fun ds e=>?_⟩;cases e
   obtain⟨a,rfl,e1,e2,e3⟩:=h;have r:Rps K H' (cs.map fun c=>D.lst c.2) (cs.map fun c=>V.ref c.1):=KJ fun c hc=>let ⟨vs,q1,q2⟩:=e2 c hc;⟨vs,q1,Rps.mono off_sub q2⟩;exact⟨a,_,rfl,off_sub _ _ e1,r.len,fun i d e=>let ⟨u,h1,h2⟩:=r.get e;⟨u,h1,XX hm' h2⟩⟩
  |ins x C xs cs=>exact⟨(fun ds e=>by cases e),(fun ds e=>by cases e)⟩
 |tmp d=>
  refine⟨fun ds e=>?_,fun ds e=>?_⟩<;>(have e':d=_:=e;subst e')
  ·obtain⟨a,vs,rfl,h,r⟩:=Rp.lst_inv h;exact⟨_,_,rfl,h,r.len,fun i d e=>let ⟨u,h1,h2⟩:=r.get e;⟨u,h1,XX hm' h2⟩⟩
  ·obtain⟨a,vs,rfl,h,r⟩:=Rp.tup_inv h;exact⟨_,_,rfl,h,r.len,fun i d e=>let ⟨u,h1,h2⟩:=r.get e;⟨u,h1,XX hm' h2⟩⟩
def Fr(B:Addr->Prop)(H:Hp)(σ:L2.St)(γ:Γ)(H':Hp)(σ':L2.St)(γ':Γ):Prop:=∀b o,H b=some o->¬zof B γ σ b->H' b=some o/\¬zof B γ' σ' b
def Fr.refl:Fr B H σ γ H σ γ:=fun _ _ h z=>⟨h,z⟩
def Fr.trans {H1 H2:Hp}{σ1 σ2:L2.St}{γ1 γ2:Γ} (a:Fr B H σ γ H1 σ1 γ1) (b:Fr B H1 σ1 γ1 H2 σ2 γ2):Fr B H σ γ H2 σ2 γ2:=fun x o h z=>let ⟨h1,z1⟩:=a x o h z;b x o h1 z1
def Fr.grow (S1:Same H H'):Fr B H σ γ H' σ γ:=fun _ _ h z=>⟨S1 _ _ h,z⟩
def Fr.off {H':Hp}{σ':L2.St}{γ':Γ} (f:Fr B H σ γ H' σ' γ'):Same (off (zof B γ σ) H) (Pu.off (zof B γ' σ') H'):=fun b o h=>by
 obtain⟨h1,h2⟩:=XJ h;obtain⟨h3,h4⟩:=f b o h1 h2;exact Ur h3 h4
def Uu{α:Type}{l:List α}{i j:Nat}{x y:α}(h:(l.set i x)[j]?=some y):(j=i/\x=y/\i<l.length)\/(j≠i/\l[j]?=some y):=by
 rw[List.getElem?_set]at h;by_cases e:i=j
 ·subst e;rw[Yn rfl]at h;by_cases e2:i<l.length
  ·rw[Yn e2]at h;exact .inl ⟨rfl,Yv h,e2⟩
  ·rw[Yo e2]at h;cases h
 ·rw[Yo e]at h;exact .inr ⟨fun z=>e z.symm,h⟩
def NR{α:Type}{l:List α}{i:Nat}{x:α}(h:i<l.length):(l.set i x)[i]?=some x:=by rw[Qj h]
def XF{α:Type}{l:List α}{i j:Nat}{x:α}(h:j≠i):(l.set i x)[j]?=l[j]?:=Qt fun z=>h z.symm
def EnvR.drop (E:EnvR K H0 B H σ γ) (i:Nat):EnvR K H0 B H σ (γ.set i none)/\Fr B H σ γ H σ (γ.set i none):=by
 have hz:∀b,zof B (γ.set i none) σ b->zof B γ σ b:=fun b z=>z.imp id fun⟨j,ds,a,h1,h2,h3⟩=>by
  rcases Uu h1 with⟨_,e,_⟩|⟨_,e⟩
  ·cases e
  ·exact⟨j,ds,a,e,h2,h3⟩
 refine⟨⟨E.same,by rw[Wj];exact E.len,E.bm,fun k j a a' ds es b h1 h2=>?_,fun k s h=>?_⟩,fun b o h z=>⟨h,fun y=>z (hz b y)⟩⟩
 ·rcases Uu h1 with⟨_,e,_⟩|⟨_,e1⟩
  ·cases e
  ·rcases Uu h2 with⟨_,e,_⟩|⟨_,e2⟩
   ·cases e
   ·exact E.own k j a a' ds es b e1 e2
 ·rcases Uu h with⟨_,e,_⟩|⟨_,e⟩
  ·cases e
  ·obtain⟨v,h1,h2⟩:=E.slot k s e;refine⟨v,h1,?_⟩;have S1:Same (Pu.off (zof B γ σ) H) (Pu.off (zof B (γ.set i none) σ) H):=JV (Same.refl _) fun b _ _ z y=>z (hz b y);cases s with
   |bor d=>exact h2
   |sh d=>exact Rp.mono S1 h2
   |own ds=>
    obtain⟨a,e1,e3,e4⟩:=h2;exact⟨a,e1,e3,e4.mono S1 fun _ _ _ q=>q⟩
   |view ds=>exact h2
   |tmp d=>exact h2
def EnvR.put {i:Nat}{s s':S}{v:V} (E:EnvR K H0 B H σ γ) (S1:Same H H') (h:TV K (zof B γ σ) H0 H H' s v) (e:s.slot=some s') (hi:i<γ.length) :
  EnvR K H0 B H' (σ.set i (some v)) (γ.set i (some s'))/\Fr B H σ γ H' (σ.set i (some v)) (γ.set i (some s')):=by
 have hiσ:i<σ.length:=by rw[E.len];exact hi
 have E':=E.grow S1
 have isown:∀ds,s'=.own ds->s=.own ds:=fun ds q=>by
  subst q;cases s with
  |own es=>cases e;rfl
  |bor d=>cases e
  |sh d=>cases e
  |view d=>cases e
  |tmp d=>unfold S.slot at e;cases q:imm d<;>simp[q]at e
 have hown:∀b,zof B (γ.set i (some s')) (σ.set i (some v)) b->zof B γ σ b\/∃ds a,s=.own ds/\v=.ref a/\ds.adr a b:=fun b z=>by
  rcases z with z|⟨j,ds,a,h1,h2,h3⟩
  ·exact .inl (.inl z)
  ·rcases Uu h1 with⟨ej,e1,_⟩|⟨nj,e1⟩
   ·subst ej;rw[NR hiσ]at h2
    have:s'=.own ds:=Yv e1
    exact .inr ⟨ds,a,isown ds this,Yv (Yv h2),h3⟩
   ·rw[XF nj]at h2;exact .inl (.inr ⟨j,ds,a,e1,h2,h3⟩)
 have fresh:∀ds a b,s=.own ds->v=.ref a->ds.adr a b->H b=none:=fun ds a b es ev hb=>by
  subst es;obtain⟨a',e1,e0,_⟩:=h;rw[ev]at e1;cases e1
  exact e0 b hb
 have hz:∀b o,H b=some o->¬zof B γ σ b->¬zof B (γ.set i (some s')) (σ.set i (some v)) b:=fun b o hb z y=>by
  rcases hown b y with y|⟨ds,a,y1,y2,y3⟩
  ·exact z y
  ·rw[fresh ds a b y1 y2 y3]at hb;cases hb
 have So:Same (off (zof B γ σ) H) (Pu.off (zof B (γ.set i (some s')) (σ.set i (some v))) H'):=JV S1 hz;refine⟨⟨E'.same,by rw[Wj,Wj];exact E.len,E'.bm,fun k j a a' ds es b h1 h2 h3 h4 h5 h6=>?_,fun k u hk=>?_⟩,fun b o hb z=>⟨S1 b o hb,hz b o hb z⟩⟩
 ·have old:∀(k:Nat) (ds:O) (a b:Addr),γ[k]?=some (some (.own ds))->σ[k]?=some (some (.ref a))->ds.adr a b->∃o,H b=some o:=fun k ds a b e1 e2 e3=>by
   obtain⟨u,q1,a',q2,_,q3⟩:=E.slot k _ e1;rw[e2]at q1;cases q1
   cases q2
   exact Kv (q3.mut b e3)
  rcases Uu h1 with⟨ek,e1,_⟩|⟨nk,e1⟩
  ·rcases Uu h2 with⟨ej,e2,_⟩|⟨nj,e2⟩
   ·rw[ek,ej]
   ·subst ek;rw[NR hiσ]at h3;rw[XF nj]at h4;obtain⟨o,ho⟩:=old j es a' b e2 h4 h6;rw[fresh ds a b (isown ds (Yv e1)) (Yv (Yv h3)) h5]at ho;cases ho
  ·rcases Uu h2 with⟨ej,e2,_⟩|⟨nj,e2⟩
   ·subst ej;rw[NR hiσ]at h4;rw[XF nk]at h3;obtain⟨o,ho⟩:=old k ds a b e1 h3 h5;rw[fresh es a' b (isown es (Yv e2)) (Yv (Yv h4)) h6]at ho;cases ho
   ·rw[XF nk]at h3;rw[XF nj]at h4;exact E.own k j a a' ds es b e1 e2 h3 h4 h5 h6
 ·rcases Uu hk with⟨ek,e1,_⟩|⟨nk,e1⟩
  ·subst ek
   have:u=s':=(Yv e1).symm
   subst this;refine⟨v,NR hiσ,?_⟩;cases s with
   |own ds=>
    cases e
    obtain⟨a,rfl,e0,r⟩:=h;refine⟨a,rfl,fun b hb=>E.same.free (e0 b hb),r.mono (JV (Same.refl _) fun b o _ z y=>?_) fun _ _ _ q=>q⟩;rcases hown b y with y|⟨_,_,y1,y,y2⟩
    ·exact z (.inl y)
    ·cases y;cases y1;exact z (.inr y2)
   |sh d=>
    cases e
    refine Rp.mono (JV (Same.refl _) fun b o _ z y=>?_) h;rcases hown b y with y|⟨_,_,y,_⟩
    ·exact z y
    ·cases y
   |bor d=>cases e;exact h
   |view d=>cases e
   |tmp d=>
    unfold S.slot at e;cases q:imm d with
    |false=>simp[q]at e
    |true=>
     simp[q]at e;subst e;refine Rp.off (fun b y=>?_) h q;rcases hown b y with y|⟨_,_,y,_⟩
     ·exact XT S1 (E.zm b y)
     ·cases y
  ·obtain⟨w,q1,q2⟩:=E.slot k u e1;refine⟨w,by rw[XF nk];exact q1,?_⟩;cases u with
   |bor d=>exact q2
   |sh d=>exact Rp.mono So q2
   |own ds=>
    obtain⟨a,e1,e3,e4⟩:=q2;exact⟨a,e1,e3,e4.mono So fun b _ x=>S1 b x⟩
   |view ds=>exact q2
   |tmp d=>exact q2
def frz(i:Nat)(γ:Γ):Γ:=match γ[i]? with
 |some (some (.own o))=>γ.set i (some (.sh o.d))
 |_=>γ
def EnvR.frz (E:EnvR K H0 B H σ γ) (hB:∀b,B b->∃o,H0 b=some o) (i:Nat):EnvR K H0 B H σ (frz i γ)/\Fr B H σ γ H σ (Pu.frz i γ):=by
 unfold Pu.frz;split
 ·rename_i ds hi;have hlt:i<γ.length:=(Y2.mp hi).1
  have hz:∀b,zof B (γ.set i (some (.sh ds.d))) σ b->zof B γ σ b:=fun b z=>z.imp id fun⟨j,es,a,h1,h2,h3⟩=>by
   rcases Uu h1 with⟨_,e,_⟩|⟨_,e⟩
   ·cases e
   ·exact⟨j,es,a,e,h2,h3⟩
  have S1:Same (Pu.off (zof B γ σ) H) (Pu.off (zof B (γ.set i (some (.sh ds.d))) σ) H):=JV (Same.refl _) fun b _ _ z y=>z (hz b y);refine⟨⟨E.same,by rw[Wj];exact E.len,E.bm,fun k j a a' es es' b h1 h2=>?_,fun k s h=>?_⟩,fun b o h z=>⟨h,fun y=>z (hz b y)⟩⟩
  ·rcases Uu h1 with⟨_,e,_⟩|⟨_,e1⟩
   ·cases e
   ·rcases Uu h2 with⟨_,e,_⟩|⟨_,e2⟩
    ·cases e
    ·exact E.own k j a a' es es' b e1 e2
  ·rcases Uu h with⟨ek,e,_⟩|⟨nk,e⟩
   ·subst ek
    have:=Yv e
    subst this;obtain⟨v,h1,a,rfl,h3,h4⟩:=E.slot k _ hi;refine⟨_,h1,h4.rpIn S1 fun b hb x h2=>Ur h2 fun z=>?_⟩;rcases z with z|⟨j,es,a',e1,e2,e3⟩
    ·obtain⟨o,ho⟩:=hB b z;rw[h3 b hb]at ho;cases ho
    ·rcases Uu e1 with⟨_,q,_⟩|⟨nj,q⟩
     ·cases q
     ·exact nj (E.own j k a' a es ds b q hi e2 h1 e3 hb)
   ·obtain⟨v,h1,h2⟩:=E.slot k s e;refine⟨v,h1,?_⟩;cases s with
    |bor d=>exact h2
    |sh d=>exact Rp.mono S1 h2
    |own ds=>
     obtain⟨a,e1,e3,e4⟩:=h2;exact⟨a,e1,e3,e4.mono S1 fun _ _ _ q=>q⟩
    |view ds=>exact h2
    |tmp d=>exact h2
 ·exact⟨E,Fr.refl⟩
def EnvR.change {i:Nat}{a:Addr}{o o':O} (E:EnvR K H0 B H σ γ) (hi:γ[i]?=some (some (.own o))) (ha:σ[i]?=some (some (.ref a)))
  (hH:∀b x,H b=some x->¬o.adr a b->H' b=some x) (hm:∀b,o.adr a b->Mut (H' b)) (hadr:∀b,o'.adr a b->o.adr a b\/H b=none) (r:OR K (Pu.off (zof B (γ.set i (some (.own o'))) σ) H') H' a o') :
  EnvR K H0 B H' σ (γ.set i (some (.own o')))/\Fr B H σ γ H' σ (γ.set i (some (.own o'))):=by
 have hlt:i<γ.length:=(Y2.mp hi).1;obtain⟨v,h1,a',rfl,h3,h4⟩:=E.slot i _ hi;rw[ha]at h1;cases h1
 have za:∀b,o.adr a b->zof B γ σ b:=fun b hb=>.inr ⟨i,o,a,hi,ha,hb⟩
 have hz:∀b x,H b=some x->zof B (γ.set i (some (.own o'))) σ b->zof B γ σ b:=fun b x hx z=>by
  rcases z with z|⟨j,fs,a',e1,e2,e3⟩
  ·exact .inl z
  ·rcases Uu e1 with⟨ej,q,_⟩|⟨_,e⟩
   ·subst ej;cases q
    rw[ha]at e2;cases e2
    rcases hadr b e3 with k|k
    ·exact za b k
    ·rw[k]at hx;cases hx
   ·exact .inr ⟨j,fs,a',e,e2,e3⟩
 have S1:Same (Pu.off (zof B γ σ) H) (Pu.off (zof B (γ.set i (some (.own o'))) σ) H'):=fun b x h=>by
  obtain⟨q1,q2⟩:=XJ h;exact Ur (hH b x q1 fun k=>q2 (za b k)) fun z=>q2 (hz b x q1 z)
 have old:∀(k:Nat) (ds:O) (a b:Addr),γ[k]?=some (some (.own ds))->σ[k]?=some (some (.ref a))->ds.adr a b->∃o,H b=some o:=fun k ds a b e1 e2 e3=>by
  obtain⟨u,q1,a',q2,_,q3⟩:=E.slot k _ e1;rw[e2]at q1;cases q1
  cases q2
  exact Kv (q3.mut b e3)
 refine⟨⟨fun b x h=>?_,by rw[Wj];exact E.len,fun b hb=>?_,fun k j x x' fs fs' b e1 e2 e3 e4 e5 e6=>?_,fun k s h=>?_⟩,fun b x h z=>⟨?_,fun y=>z (hz b x h y)⟩⟩
 ·exact hH b x (E.same b x h) fun k=>by rw[h3 b k]at h;cases h
 ·by_cases k:o.adr a b
  ·exact hm b k
  ·have:=E.bm b hb
   obtain⟨x,hx⟩:=Kv this;rw[hH b x hx k,←hx];exact this
 ·rcases Uu e1 with⟨ek,q1,_⟩|⟨nk,q1⟩
  ·rcases Uu e2 with⟨ej,_,_⟩|⟨nj,q2⟩
   ·rw[ek,ej]
   ·subst ek;cases q1
    rw[ha]at e3;cases e3
    rcases hadr b e5 with w|w
    ·exact E.own k j _ _ _ _ b hi q2 ha e4 w e6
    ·obtain⟨u,hu⟩:=old j fs' x' b q2 e4 e6;rw[w]at hu;cases hu
  ·rcases Uu e2 with⟨ej,q2,_⟩|⟨nj,q2⟩
   ·subst ej;cases q2
    rw[ha]at e4;cases e4
    rcases hadr b e6 with w|w
    ·exact E.own k j _ _ _ _ b q1 hi e3 ha e5 w
    ·obtain⟨u,hu⟩:=old k fs x b q1 e3 e5;rw[w]at hu;cases hu
   ·exact E.own k j x x' fs fs' b q1 q2 e3 e4 e5 e6
 ·rcases Uu h with⟨ek,e,_⟩|⟨nk,e⟩
  ·subst ek
   have:=Yv e
   subst this;exact⟨_,ha,a,rfl,fun b hb=>(hadr b hb).elim (h3 b) fun w=>E.same.free w,r⟩
  ·obtain⟨v,q1,q2⟩:=E.slot k s e;refine⟨v,q1,?_⟩;cases s with
   |bor d=>exact q2
   |sh d=>exact Rp.mono S1 q2
   |own fs=>
    obtain⟨x,rfl,e3,e4⟩:=q2;exact⟨x,rfl,e3,e4.mono S1 fun b hb y e2=>hH b y e2 fun w=>nk (E.own k i x a fs o b e hi q1 ha hb w)⟩
   |view ds=>exact q2
   |tmp d=>exact q2
 ·exact hH b x h fun k=>z (za b k)
def EnvR.mutate {i:Nat}{a:Addr}{ds es:O}{us:HO} (E:EnvR K H0 B H σ γ) (hi:γ[i]?=some (some (.own ds))) (ha:σ[i]?=some (some (.ref a))) (hu:Mut (some us)) (r:∀F H':Hp,Same (Pu.off (zof B γ σ) H) F->H' a=some us->OR K F H' a es)
  (k1:ds.adr a=fun b=>b=a:=by rfl) (k2:es.adr a=fun b=>b=a:=by rfl) :
  EnvR K H0 B (upd H a us) σ (γ.set i (some (.own es)))/\Fr B H σ γ (upd H a us) σ (γ.set i (some (.own es))):=by
 refine E.change (o:=ds) (o':=es) hi ha (fun b x h n=>by rw[JI (fun z=>n (by rw[k1];exact z))];exact h) (fun b h=>by rw[k1]at h;rw[show b=a from h,Ug];exact hu) (fun b h=>.inl (by rw[k1];rw[k2]at h;exact h)) (r _ _ ?_ Ug)
 intro b x h;obtain⟨q1,q2⟩:=XJ h;have nb:b≠a:=fun z=>q2 (.inr ⟨i,ds,a,hi,ha,by rw[k1];exact z⟩);refine Ur (by rw[JI nb];exact q1) fun z=>q2 ?_;rcases z with z|⟨j,fs,a',e1,e2,e3⟩
 ·exact .inl z
 ·rcases Uu e1 with⟨ej,q,_⟩|⟨_,e⟩
  ·subst ej;cases q
   rw[ha]at e2;cases e2
   rw[k2]at e3;exact absurd e3 nb
  ·exact .inr ⟨j,fs,a',e,e2,e3⟩
end
end Pu
namespace Pu
open PySem PySem.Spec PyProof.Rows L2 Own
abbrev XR:=Str->Prop
def eI:Int->Nat
 | .ofNat n=>2*n
 | .negSucc n=>2*n+1
def dI(n:Nat):Int:=if n % 2=0 then .ofNat (n / 2)else .negSucc (n / 2)
def OZ:∀i:Int,dI (eI i)=i
 | .ofNat n=>by
  show dI (2*n)=_;unfold dI;rw[Yn (by omega),show 2*n / 2=n by omega]
 | .negSucc n=>by
  show dI (2*n+1)=_;unfold dI;rw[Yo (by omega),show(2*n+1) / 2=n by omega]
def encR(r:List Int):Str:=⟨(0::r.map eI).toArray⟩
def decL:List Nat->Option (List Int)
 | 0::t=>some (t.map dI)
 |_=>none
def decR(x:Str):Option (List Int):=decL x.cps.toList
def De(r:List Int):decR (encR r)=some r:=by
 unfold decR encR;rw[List.toList_toArray];show some ((r.map eI).map dI)=some r;rw[Wk];congr 1
 conv=>rhs;rw[←List.map_id r]
 exact List.map_congr_left fun i _=>OZ i
def XE(mg:Str->Option Value)(E:XK)(c:Str)(H':Hp):Prop:=match decR c with
 |none=>E (.ref (ExcR.JD mg c)) none H'
 |some r=>∀(dx l:Addr) (o:Obj),H' dx=some (.xd [("members",.ref l)])->H' l=some (.frz o (.lst (r.map V.int)))->E (.ref (ExcR.JD mg "Ringed")) (some dx) H'
def XE.plain {mg:Str->Option Value}{E:XK}{c:Str}{H':Hp} (hc:decR c=none) (h:XE mg E c H'):E (.ref (ExcR.JD mg c)) none H':=by
 unfold XE at h;rw[hc]at h;exact h
def XE.mem {mg:Str->Option Value}{E:XK}{r:List Int}{H':Hp} (h:XE mg E (encR r) H') {dx l:Addr}{o:Obj} (h1:H' dx=some (.xd [("members",.ref l)])) (h2:H' l=some (.frz o (.lst (r.map V.int)))) :
  E (.ref (ExcR.JD mg "Ringed")) (some dx) H':=by
 unfold XE at h;rw[De]at h;exact h dx l o h1 h2
def XE.ofM {mg:Str->Option Value}{E:XK}{r:List Int}{H':Hp} (h:∀(dx l:Addr) (o:Obj),H' dx=some (.xd [("members",.ref l)])->H' l=some (.frz o (.lst (r.map V.int)))->E (.ref (ExcR.JD mg "Ringed")) (some dx) H'):XE mg E (encR r) H':=by
 unfold XE;rw[De];exact h
abbrev PTE:=Γ->(S->Prop)->XR->Prop
abbrev PTT:=Γ->(Bool->Prop)->XR->Prop
abbrev PTA:=Γ->(List S->Prop)->XR->Prop
abbrev PTO:=Γ->(Option Int->Prop)->XR->Prop
structure PEnds where
 nx:Γ->Prop
 rt:S->Prop
 ex:Γ->Str->Prop
 bk:Γ->Prop:=fun _=>False
 ct:Γ->Prop:=fun _=>False
 rv:Γ->D->Prop:=fun _ _=>False
abbrev PTS:=PEnds->Γ->Prop
abbrev PTG:=S->Γ->(Γ->Prop)->Prop
abbrev PTGs:=List S->Γ->(Γ->Prop)->Prop
inductive TVs (K:Za) (Z:Addr->Prop) (H0 H H':Hp):List S->List V->Prop
 |nil:TVs K Z H0 H H' [] []
 |cons {s:S} {v:V} {ss:List S} {vs:List V}:TV K Z H0 H H' s v->TVs K Z H0 H H' ss vs->TVs K Z H0 H H' (s::ss) (v::vs)
section
variable (K:Za) (mg:Str->Option Value) (E:L2.St->XK)
def SndE(t:TE)(p:PTE):Prop:=∀(H0:Hp) (B:Addr->Prop) (H:Hp) (σ:L2.St) (γ:Γ) (R:S->Prop) (X:XR) (Q:VK),EnvR K H0 B H σ γ->p γ R X->
 (∀s v H',R s->Same H H'->TV K (zof B γ σ) H0 H H' s v->Q v H')->(∀c H',X c->Same H H'->XE mg (E σ) c H')->t σ H Q
def SndT(t:TT)(p:PTT):Prop:=∀(H0:Hp) (B:Addr->Prop) (H:Hp) (σ:L2.St) (γ:Γ) (R:Bool->Prop) (X:XR) (Q:Bool->Hp->Prop),EnvR K H0 B H σ γ->p γ R X->
 (∀b H',R b->Same H H'->Q b H')->(∀c H',X c->Same H H'->XE mg (E σ) c H')->t σ H Q
def SndA(t:TA)(p:PTA):Prop:=∀(H0:Hp) (B:Addr->Prop) (H:Hp) (σ:L2.St) (γ:Γ) (R:List S->Prop) (X:XR) (Q:List V->Hp->Prop),EnvR K H0 B H σ γ->p γ R X->
 (∀ss vs H',R ss->Same H H'->TVs K (zof B γ σ) H0 H H' ss vs->Q vs H')->(∀c H',X c->Same H H'->XE mg (E σ) c H')->t σ H Q
def SndO(t:TO)(p:PTO):Prop:=∀(H0:Hp) (B:Addr->Prop) (H:Hp) (σ:L2.St) (γ:Γ) (R:Option Int->Prop) (X:XR) (Q:Option Int->Hp->Prop),EnvR K H0 B H σ γ->p γ R X->
 (∀o H',R o->Same H H'->Q o H')->(∀c H',X c->Same H H'->XE mg (E σ) c H')->t σ H Q
structure EndR (H0:Hp) (B:Addr->Prop) (H:Hp) (σ:L2.St) (γ:Γ) (R:PEnds) (D:Ends):Prop where
 nx:∀σ' γ' H',R.nx γ'->EnvR K H0 B H' σ' γ'->Fr B H σ γ H' σ' γ'->D.nx σ' H'
 rt:∀s v H',R.rt s->Same H0 H'->TV K B H0 H0 H' s v->D.rt v H'
 ex:∀σ' γ' c H',R.ex γ' c->EnvR K H0 B H' σ' γ'->Fr B H σ γ H' σ' γ'->XE mg (E σ') c H'
 bk:∀σ' γ' H',R.bk γ'->EnvR K H0 B H' σ' γ'->Fr B H σ γ H' σ' γ'->D.bk σ' H'
 ct:∀σ' γ' H',R.ct γ'->EnvR K H0 B H' σ' γ'->Fr B H σ γ H' σ' γ'->D.ct σ' H'
 rv:∀σ' γ' d v H',R.rv γ' d->EnvR K H0 B H' σ' γ'->Fr B H σ γ H' σ' γ'->Rp K (off (zof B γ' σ') H') d v->D.rt v H'
def SndS(t:TS)(p:PTS):Prop:=∀(H0:Hp) (B:Addr->Prop) (H:Hp) (σ:L2.St) (γ:Γ) (R:PEnds) (D:Ends),(∀b,B b->∃o,H0 b=some o)->EnvR K H0 B H σ γ->p R γ->EndR K mg E H0 B H σ γ R D->t D σ H
end
section
variable {K:Za}{mg:Str->Option Value}{E:L2.St->XK}{H0 H H1 H':Hp}{B Z Z':Addr->Prop}{σ:L2.St}{γ:Γ}
def TVs.weakG {H1 H2:Hp}:∀{ss:List S}{vs:List V},Same H H1->TVs K Z H0 H1 H2 ss vs->TVs K Z H0 H H2 ss vs
 |_,_,_,.nil=>.nil
 |_,_,S1,.cons h r=>.cons (TV.weak S1 (fun _ z=>z) h) (TVs.weakG S1 r)
def TVs.rps (h0:Same H0 H'):∀{ss:List S}{vs:List V},TVs K Z H0 H H' ss vs->Rps K H' (ss.map S.d) vs
 |_,_,.nil=>.nil
 |_,_,.cons h r=>.cons (h.rp h0) (TVs.rps h0 r)
def TVs.shd {ds:List D} (h0:Same H0 H') (hm:∀b,Z b->Mut (H b)) (S1:Same H H'):∀{ss:List S}{vs:List V}{ds:List D},TVs K Z H0 H H' ss vs->ss.map S.shd=ds.map some->Rps K (off Z H') ds vs
 |_,_,[],.nil,_=>.nil
 |_,_,_::_,.nil,e=>by cases e
 |_,_,[],.cons _ _,e=>by cases e
 |_,_,d::ds,.cons h r,e=>by
  rw[YH,YH,Qz]at e;exact .cons (h.shd h0 hm S1 e.1) (TVs.shd (ds:=ds) h0 hm S1 r e.2)
def Rp.int_inv {i:Int}{v:V} (h:Rp K H (.int i) v):v=.int i:=by cases h;rfl
def Rp.bl_inv {b:Bool}{v:V} (h:Rp K H (.bl b) v):v=.bl b:=by cases h;rfl
def Rp.str_inv {x:Str}{v:V} (h:Rp K H (.str x) v):v=.str x:=by cases h;rfl
def Rp.non_inv {v:V} (h:Rp K H .non v):v=.non:=by cases h;rfl
def Rp.ty_inv {n:String}{v:V} (h:Rp K H (.ty n) v):v=.ty n:=by cases h;rfl
def pVar(i:Nat):PTE:=fun γ R _=>match γ[i]? with
 |some (some (.own ds))=>R (.view ds)
 |some (some s)=>R s
 |_=>False
def J2(i:Nat):SndE K mg E (tVar i) (pVar i):=by
 intro H0 B H σ γ R X Q env h q _;unfold pVar at h;split at h
 ·rename_i ds e;obtain⟨v,h1,a,rfl,h3,h4⟩:=env.slot i _ e;exact⟨_,h1,q _ _ H h (Same.refl _) ⟨a,rfl,h4⟩⟩
 ·rename_i s ns e;obtain⟨v,h1,h2⟩:=env.slot i _ e;refine⟨v,h1,q _ _ H h (Same.refl _) ?_⟩;cases s with
  |bor d=>exact h2
  |sh d=>exact h2
  |own ds=>exact absurd rfl (ns ds)
  |view ds=>exact h2.elim
  |tmp d=>exact h2.elim
 ·exact h.elim
def pC(d:D):PTE:=fun _ R _=>R (.sh d)
def se_c{d:D}{v:V}(h:∀H,Rp K H d v):SndE K mg E (tC v) (pC d):=by
 intro H0 B H σ γ R X Q env p q _;exact q _ _ H p (Same.refl _) (h _)
def J4{i:Int}:SndE K mg E (tC (.int i)) (pC (.int i)):=se_c fun _=>.int i
def Xg{b:Bool}:SndE K mg E (tC (.bl b)) (pC (.bl b)):=se_c fun _=>.bl b
def Up{x:Str}:SndE K mg E (tC (.str x)) (pC (.str x)):=se_c fun _=>.str x
def Nn{n:String}:SndE K mg E (tC (.ty n)) (pC (.ty n)):=se_c fun _=>.ty n
def p2(a b:PTE)(f:S->S->(S->Prop)->Prop):PTE:=fun γ R X=>a γ (fun x=>b γ (fun y=>f x y R) X) X
def se_2{r:R2}{ta tb:TE}{a b:PTE}{f:S->S->(S->Prop)->Prop}(ha:SndE K mg E ta a)(hb:SndE K mg E tb b)(hr:∀(H0 H H2:Hp) (Z:Addr->Prop) (x y:S) (v u:V) (R:S->Prop) (Q:VK),Same H0 H2->Same H H2->(∀b,Z b->Mut (H b))->TV K Z H0 H H2 x v->TV K Z H0 H H2 y u->f x y R->(∀s z H',R s->Same H2 H'->TV K Z H0 H H' s z->Q z H')->r v u H2 Q) :
  SndE K mg E (tOp r ta tb) (p2 a b f):=by
 intro H0 B H σ γ R X Q env p q qx;refine ha H0 B H σ γ _ X _ env p (fun x v H1 h1 S1 t1=>?_) qx;have env1:=env.grow S1;refine hb H0 B H1 σ γ _ X _ env1 h1 (fun y u H2 h2 S2 t2=>?_) fun c H' hc S'=>qx c H' hc (S1.trans S');exact hr H0 H H2 _ x y v u R Q (env1.same.trans S2) (S1.trans S2) env.zm (t1.grow S2) (TV.weak S1 (fun _ z=>z) t2) h2 fun s z H' hs S3 t3=>q s z H' hs ((S1.trans S2).trans S3) t3
def fI0(g:Int->Int->D):S->S->(S->Prop)->Prop:=fun x y R=>match x.d,y.d with
 | .int i,.int j=>R (.sh (g i j))
 |_,_=>False
def fI(C:Int->Int->Prop)(g:Int->Int->D):S->S->(S->Prop)->Prop:=fun x y R=>match x.d,y.d with
 | .int i,.int j=>C i j/\R (.sh (g i j))
 |_,_=>False
def Tz{g:Int->Int->V}{g':Int->Int->D}{ta tb:TE}{a b:PTE}(hg:∀H i j,Rp K H (g' i j) (g i j))(ha:SndE K mg E ta a)(hb:SndE K mg E tb b):SndE K mg E (tOp (rI0 g) ta tb) (p2 a b (fI0 g')):=by
 refine se_2 ha hb fun H0 H H2 Z x y v u R Q s0 s1 hm tx ty h q=>?_;unfold fI0 at h;have rx:=tx.rp s0;have ry:=ty.rp s0;split at h
 ·rename_i i j e1 e2;rw[e1]at rx;rw[e2]at ry;exact⟨i,j,rx.int_inv,ry.int_inv,q _ _ H2 h (Same.refl _) (hg _ i j)⟩
 ·exact h.elim
def se_I{C:Int->Int->Prop}{g:Int->Int->V}{g':Int->Int->D}{ta tb:TE}{a b:PTE}(hg:∀H i j,Rp K H (g' i j) (g i j))(ha:SndE K mg E ta a)(hb:SndE K mg E tb b):SndE K mg E (tOp (rI C g) ta tb) (p2 a b (fI C g')):=by
 refine se_2 ha hb fun H0 H H2 Z x y v u R Q s0 s1 hm tx ty h q=>?_;unfold fI at h;have rx:=tx.rp s0;have ry:=ty.rp s0;split at h
 ·rename_i i j e1 e2;rw[e1]at rx;rw[e2]at ry;exact⟨i,j,rx.int_inv,ry.int_inv,h.1,q _ _ H2 h.2 (Same.refl _) (hg _ i j)⟩
 ·exact h.elim
section
variable {ta tb tc:TE}{a b c:PTE}
def Uj(ha:SndE K mg E ta a)(hb:SndE K mg E tb b):SndE K mg E (tOp (rI0 fun i j=>.int (i+j)) ta tb) (p2 a b (fI0 fun i j=>.int (i+j))):=Tz (fun _ _ _=>.int _) ha hb
def UU(ha:SndE K mg E ta a)(hb:SndE K mg E tb b):SndE K mg E (tOp (rI0 fun i j=>.int (i-j)) ta tb) (p2 a b (fI0 fun i j=>.int (i-j))):=Tz (fun _ _ _=>.int _) ha hb
def P5(ha:SndE K mg E ta a)(hb:SndE K mg E tb b):SndE K mg E (tOp (rI CMul fun i j=>.int (i*j)) ta tb) (p2 a b (fI CMul fun i j=>.int (i*j))):=se_I (fun _ _ _=>.int _) ha hb
def Uw(ha:SndE K mg E ta a)(hb:SndE K mg E tb b):SndE K mg E (tOp (rI CDiv fun i j=>.int (i / j)) ta tb) (p2 a b (fI CDiv fun i j=>.int (i / j))):=se_I (fun _ _ _=>.int _) ha hb
def Ue(ha:SndE K mg E ta a)(hb:SndE K mg E tb b):SndE K mg E (tOp (rI (fun _ j=>0<j) fun i j=>.int (i % j)) ta tb) (p2 a b (fI (fun _ j=>0<j) fun i j=>.int (i % j))):=se_I (fun _ _ _=>.int _) ha hb
def BI(ha:SndE K mg E ta a)(hb:SndE K mg E tb b):SndE K mg E (tOp (rI CPow fun i j=>.int (i ^ j.toNat)) ta tb) (p2 a b (fI CPow fun i j=>.int (i ^ j.toNat))):=se_I (fun _ _ _=>.int _) ha hb
def Xc(ha:SndE K mg E ta a)(hb:SndE K mg E tb b):SndE K mg E (tOp (rI0 fun i j=>.bl (decide (i<j))) ta tb) (p2 a b (fI0 fun i j=>.bl (decide (i<j)))):=Tz (fun _ _ _=>.bl _) ha hb
def UY(ha:SndE K mg E ta a)(hb:SndE K mg E tb b):SndE K mg E (tOp (rI0 fun i j=>.bl (decide (j<i))) ta tb) (p2 a b (fI0 fun i j=>.bl (decide (j<i)))):=Tz (fun _ _ _=>.bl _) ha hb
def PQ(ha:SndE K mg E ta a)(hb:SndE K mg E tb b):SndE K mg E (tOp (rI0 fun i j=>.bl (decide (j<=i))) ta tb) (p2 a b (fI0 fun i j=>.bl (decide (j<=i)))):=Tz (fun _ _ _=>.bl _) ha hb
def fEq(neg:Bool):S->S->(S->Prop)->Prop:=fun x y R=>match x.d,y.d with
 | .int i,.int j=>R (.sh (.bl (if neg then !decide (i=j)else decide (i=j))))
 | .str i,.str j=>R (.sh (.bl (if neg then !decide (i=j)else decide (i=j))))
 | .bl i,.bl j=>R (.sh (.bl (if neg then !decide (i=j)else decide (i=j))))
 |_,_=>False
def PX{α β:Type}[DecidableEq α][DecidableEq β]{f:α->β}(hf:∀a b,f a=f b->a=b)(a b:α):decide (f a=f b)=decide (a=b):=by
 by_cases e:a=b
 ·rw[Yl e,Yl (YQ f e)]
 ·rw[Y0 e,Y0 fun z=>e (hf a b z)]
def fIx:S->S->(S->Prop)->Prop:=fun x y R=>match x.d,y.d with
 | .lst ds,.int k=>∃d,atI ds k=some d/\R (x.sub d)
 | .tup ds,.int k=>∃d,atI ds k=some d/\R (x.sub d)
 | .scr ns,.int k=>∃i,atI ns k=some i/\R (.sh (.int i))
 | .fL ns,.int k=>∃i,atI ns k=some i/\R (.sh (.int i))
 |_,_=>False
def CB{ds:List D}{vs:List V}{k:Int}{d:D}{P:D->V->Prop}(hl:vs.length=ds.length)(h:∀(i:Nat) d,ds[i]?=some d->∃u,vs[i]?=some u/\P d u)(e:atI ds k=some d):∃u,atI vs k=some u/\P d u:=by
 unfold atI at e ⊢;rw[hl];cases q:ixN ds.length k with
 |none=>rw[q]at e;cases e
 |some j=>
  rw[q]at e;exact h j d e
def JA(ha:SndE K mg E ta a)(hb:SndE K mg E tb b):SndE K mg E (tOp (fun x y H Q=>rIxL K x y H Q\/rIxT K x y H Q) ta tb) (p2 a b fIx):=by
 refine se_2 ha hb fun H0 H H2 Z x y v u R Q s0 s1 hm tx ty h q=>?_;unfold fIx at h;have ry:=ty.rp s0;obtain⟨pl,pt⟩:=tx.part s0 hm s1;split at h
 ·rename_i ds k e1 e2;rw[e2]at ry;obtain⟨d,hd,hR⟩:=h;obtain⟨l,vs,rfl,hl,hn,hp⟩:=pl ds e1;obtain⟨z,hz,tz⟩:=CB hn hp hd;exact .inl ⟨l,vs,k,z,rfl,ry.int_inv,SqL.of hl,hz,q _ _ H2 hR (Same.refl _) tz⟩
 ·rename_i ds k e1 e2;rw[e2]at ry;obtain⟨d,hd,hR⟩:=h;obtain⟨l,vs,rfl,hl,hn,hp⟩:=pt ds e1;obtain⟨z,hz,tz⟩:=CB hn hp hd;exact .inr ⟨l,vs,k,z,rfl,ry.int_inv,SqT.of hl,hz,q _ _ H2 hR (Same.refl _) tz⟩
 ·rename_i ns k e1 e2;rw[e2]at ry;obtain⟨i,hi,hR⟩:=h;have rx:=tx.rp s0;rw[e1]at rx;cases rx with
  |scr hs=>exact .inl ⟨_,_,k,.int i,rfl,ry.int_inv,hs,Pe hi,q _ _ H2 hR (Same.refl _) (.int i)⟩
 ·rename_i ns k e1 e2;rw[e2]at ry;obtain⟨i,hi,hR⟩:=h;have rx:=tx.rp s0;rw[e1]at rx;cases rx with
  |fL hs=>exact .inl ⟨_,_,k,.int i,rfl,ry.int_inv,.inl (.inr ⟨_,hs⟩),Pe hi,q _ _ H2 hR (Same.refl _) (.int i)⟩
 ·exact h.elim
def Mp(a b:PTE):PTE:=fun γ R X=>a γ (fun x=>match x.d with | .bl c=>if c=true then b γ R X else R (.sh (.bl false))|_=>False) X
def Zdb(a:PTE):PTE:=fun γ R X=>a γ (fun x=>match x.d with | .bl c=>R (.sh (.bl (!c)))|_=>False) X
def Tq(ha:SndE K mg E ta a)(hb:SndE K mg E tb b):SndE K mg E (GN ta tb) (Mp a b):=by
 intro H0 B H σ γ R X Q env p q qx;refine ha H0 B H σ γ _ X _ env p (fun x v H1 h1 S1 t1=>?_) qx;have env1:=env.grow S1;have rx:=t1.rp env1.same;split at h1
 ·rename_i c e1;rw[e1]at rx;refine⟨c,rx.bl_inv,?_⟩;split at h1
  ·rename_i hc;rw[Yn hc];exact hb H0 B H1 σ γ _ X _ env1 h1 (fun y u H2 h2 S2 t2=>q y u H2 h2 (S1.trans S2) (TV.weak S1 (fun _ z=>z) t2)) fun c H' hc S'=>qx c H' hc (S1.trans S')
  ·rename_i hc;rw[Yo hc];exact q _ _ H1 h1 S1 (.bl _)
 ·exact h1.elim
def BA(ha:SndE K mg E ta a):SndE K mg E (Cn ta) (Zdb a):=by
 intro H0 B H σ γ R X Q env p q qx;refine ha H0 B H σ γ _ X _ env p (fun x v H1 h1 S1 t1=>?_) qx;have rx:=t1.rp (env.grow S1).same;split at h1
 ·rename_i c e1;rw[e1]at rx;exact⟨c,rx.bl_inv,q _ _ H1 h1 S1 (.bl _)⟩
 ·exact h1.elim
def pNeg(a:PTE):PTE:=fun γ R X=>a γ (fun x=>match x.d with | .int i=>R (.sh (.int (-i)))|_=>False) X
def Xh(ha:SndE K mg E ta a):SndE K mg E (tUn (rU fun i=>.int (-i)) ta) (pNeg a):=by
 intro H0 B H σ γ R X Q env p q qx;refine ha H0 B H σ γ _ X _ env p (fun x v H1 h1 S1 t1=>?_) qx;have rx:=t1.rp (env.grow S1).same;split at h1
 ·rename_i c e1;rw[e1]at rx;exact⟨c,rx.int_inv,q _ _ H1 h1 S1 (.int _)⟩
 ·exact h1.elim
def E7(a:PTE):PTT:=fun γ R X=>a γ (fun x=>match x.d with | .bl c=>R c|_=>False) X
def JG(ha:SndE K mg E ta a):SndT K mg E (Sg ta) (E7 a):=by
 intro H0 B H σ γ R X Q env p q qx;refine ha H0 B H σ γ _ X _ env p (fun x v H1 h1 S1 t1=>?_) qx;have rx:=t1.rp (env.grow S1).same;split at h1
 ·rename_i c e1;rw[e1]at rx;exact⟨c,rx.bl_inv,q _ H1 h1 S1⟩
 ·exact h1.elim
def st_b(ha:SndE K mg E ta a):SndT K mg E (tB ta) (E7 a):=JG ha
variable {sa sb:TT}{pa pb:PTT}
def pAnd(a b:PTT):PTT:=fun γ R X=>a γ (fun c=>if c=true then b γ R X else R false) X
def pOr(a b:PTT):PTT:=fun γ R X=>a γ (fun c=>if c=true then R true else b γ R X) X
def pNot(a:PTT):PTT:=fun γ R X=>a γ (fun c=>R (!c)) X
def Kh(ha:SndT K mg E sa pa)(hb:SndT K mg E sb pb):SndT K mg E (tAnd sa sb) (pAnd pa pb):=by
 intro H0 B H σ γ R X Q env p q qx;refine ha H0 B H σ γ _ X _ env p (fun c H1 h1 S1=>?_) qx;split at h1
 ·rename_i hc;rw[Yn hc];exact hb H0 B H1 σ γ _ X _ (env.grow S1) h1 (fun y H2 h2 S2=>q y H2 h2 (S1.trans S2)) fun c H' hc S'=>qx c H' hc (S1.trans S')
 ·rename_i hc;rw[Yo hc];exact q _ H1 h1 S1
def UG(ha:SndT K mg E sa pa)(hb:SndT K mg E sb pb):SndT K mg E (tOr sa sb) (pOr pa pb):=by
 intro H0 B H σ γ R X Q env p q qx;refine ha H0 B H σ γ _ X _ env p (fun c H1 h1 S1=>?_) qx;split at h1
 ·rename_i hc;rw[Yn hc];exact q _ H1 h1 S1
 ·rename_i hc;rw[Yo hc];exact hb H0 B H1 σ γ _ X _ (env.grow S1) h1 (fun y H2 h2 S2=>q y H2 h2 (S1.trans S2)) fun c H' hc S'=>qx c H' hc (S1.trans S')
def Xy(ha:SndT K mg E sa pa):SndT K mg E (tNot sa) (pNot pa):=by
 intro H0 B H σ γ R X Q env p q qx;exact ha H0 B H σ γ _ X _ env p (fun c H1 h1 S1=>q _ H1 h1 S1) qx
end
def pNil:PTA:=fun _ R _=>R []
def KO(a:PTE)(r:PTA):PTA:=fun γ R X=>a γ (fun s=>r γ (fun ss=>R (s::ss)) X) X
def JW:SndA K mg E tNil pNil:=by
 intro H0 B H σ γ R X Q env p q _;exact q _ _ H p (Same.refl _) .nil
def JY{te:TE}{ta:TA}{a:PTE}{r:PTA}(ha:SndE K mg E te a)(hr:SndA K mg E ta r):SndA K mg E (UH te ta) (KO a r):=by
 intro H0 B H σ γ R X Q env p q qx;refine ha H0 B H σ γ _ X _ env p (fun s v H1 h1 S1 t1=>?_) qx;refine hr H0 B H1 σ γ _ X _ (env.grow S1) h1 (fun ss vs H2 h2 S2 t2=>?_) fun c H' hc S'=>qx c H' hc (S1.trans S');exact q _ _ H2 h2 (S1.trans S2) (.cons (t1.grow S2) (TVs.weakG S1 t2))
def shds:List S->Option (List D)
 |[]=>some []
 |s::r=>match s.shd,shds r with
  |some d,some ds=>some (d::ds)
  |_,_=>none
def F9:∀{ss:List S}{ds:List D},shds ss=some ds->ss.map S.shd=ds.map some
 |[],ds,h=>by cases h;rfl
 |s::r,ds,h=>by
  unfold shds at h;split at h
  ·rename_i d es e1 e2;cases h
   rw[YH,YH,e1,F9 e2]
  ·cases h
def pTup(r:PTA):PTE:=fun γ R X=>r γ (fun ss=>match shds ss with|some ds=>ds.length<=1000/\R (.sh (.tup ds))|none=>False) X
def pLst(r:PTA):PTE:=fun γ R X=>r γ (fun ss=>match shds ss with|some ds=>ds.length<=1000/\R (.own ds)|none=>False) X
def Bf{n:Nat}(h:n<=1000):n<=sizeLine:=Q1 (La h)
def Uc{ta:TA}{r:PTA}(hr:SndA K mg E ta r):SndE K mg E (tTup ta) (pTup r):=by
 intro H0 B H σ γ R X Q env p q qx;refine hr H0 B H σ γ _ X _ env p (fun ss vs H1 h1 S1 t1=>?_) qx;split at h1
 ·rename_i ds e;have env1:=env.grow S1;have rp:=t1.shd (ds:=ds) env1.same env.zm S1 (F9 e);refine⟨by rw[rp.len];exact Bf h1.1,fun l nl=>?_⟩;have S2:=U0 (o:=.tup vs) nl;refine q _ _ _ h1.2 (S1.trans S2) (.tup (Ur Ug fun z=>?_) (Rps.mono (JV S2 fun _ _ _ z=>z) rp))
  have:=env1.zm l z
  rw[nl]at this;exact this
 ·exact h1.elim
def KW{H H1:Hp}{l:Addr}{vs:List V}{ds:List D}(S1:Same H H1)(nl:H1 l=none)(rp:Rps K (off Z H1) ds vs):TV K Z H0 H (upd H1 l (.lst vs)) (.own ds) (.ref l):=
 ⟨l,rfl,(fun _ e=>e▸S1.free nl),vs,Ug,Rps.mono (JV (U0 nl) fun b o hb z y=>y.elim z fun e=>by rw[e,nl]at hb;cases hb) rp⟩
def JR{ta:TA}{r:PTA}(hr:SndA K mg E ta r):SndE K mg E (tLst ta) (pLst r):=by
 intro H0 B H σ γ R X Q env p q qx;refine hr H0 B H σ γ _ X _ env p (fun ss vs H1 h1 S1 t1=>?_) qx;split at h1
 ·rename_i ds e;have env1:=env.grow S1;have rp:=t1.shd (ds:=ds) env1.same env.zm S1 (F9 e);refine⟨by rw[rp.len];exact Bf h1.1,fun l nl=>?_⟩;exact q _ _ _ h1.2 (S1.trans (U0 nl)) (KW S1 nl rp)
 ·exact h1.elim
abbrev Pc:=List D->(S->Prop)->XR->Prop
def spOf(mg:Str->Option Value)(c:Pc)(K:Za):Sp:=fun vs H Q E=>∃ds R X,Rps K H ds vs/\c ds R X/\(∀s v H',R s->Same H H'->TV K (fun b=>Mut (H b)) H H H' s v->Q v H')/\∀e H',X e->Same H H'->XE mg E e H'
def S.back:S->S
 | .bor d=>argT d | .view o=>.tmp o.d|s=>s
def TV.back {s:S}{v:V} (env:EnvR K H0 B H1 σ γ) (S1:Same H H1) (S2:Same H1 H') (h:TV K (fun b=>Mut (H1 b)) H1 H1 H' s v):TV K (zof B γ σ) H0 H H' s.back v:=by
 cases s with
 |bor d=>exact XX (fun b z=>XT S2 (env.zm b z)) (Rp.mono S2 h)
 |sh d=>exact Rp.mono (JV (Same.refl _) fun b _ _ z y=>z (env.zm b y)) h
 |own ds=>
  obtain⟨a,rfl,e0,r⟩:=h;exact⟨a,rfl,(fun b hb=>S1.free (e0 b hb)),r.mono (JV (Same.refl _) fun b _ _ z y=>z (y.imp (env.zm b) id)) fun _ _ _ q=>q⟩
 |view ds=>
  obtain⟨a,rfl,r⟩:=h;exact r.rp off_sub
 |tmp d=>exact h
def Zdk(c:Pc)(r:PTA):PTE:=fun γ R X=>r γ (fun ss=>c (ss.map S.d) (fun s=>R s.back) fun _=>False) X
def ME(c:Pc)(r:PTA):PTE:=fun γ R X=>r γ (fun ss=>c (ss.map S.d) (fun s=>R s.back) X) X
def JK{c:Pc}{ta:TA}{r:PTA}(hr:SndA K mg E ta r):SndE K mg E (KA (spOf mg c K) [] E0 ta) (Zdk c r):=by
 intro H0 B H σ γ R X Q env p q qx;refine hr H0 B H σ γ _ X _ env p (fun ss vs H1 h1 S1 t1=>?_) qx;rw[YW];have env1:=env.grow S1;exact⟨_,_,_,t1.rps env1.same,h1,fun s v H' hs S2 tv=>q _ _ H' hs (S1.trans S2) (tv.back env1 S1 S2),fun _ _ z=>z.elim⟩
def UV{c:Pc}{ta:TA}{r:PTA}{Ec:XK}(hr:SndA K mg (fun _=>Ec) ta r):SndE K mg (fun _=>Ec) (KA (spOf mg c K) [] Ec ta) (ME c r):=by
 intro H0 B H σ γ R X Q env p q qx;refine hr H0 B H σ γ _ X _ env p (fun ss vs H1 h1 S1 t1=>?_) qx;rw[YW];have env1:=env.grow S1;exact⟨_,_,X,t1.rps env1.same,h1,fun s v H' hs S2 tv=>q _ _ H' hs (S1.trans S2) (tv.back env1 S1 S2),fun e H' he S2=>qx e H' he (S1.trans S2)⟩
end
section
variable {K:Za}{mg:Str->Option Value}{E:L2.St->XK}{H0 H H1 H':Hp}{B Z Z':Addr->Prop}{σ:L2.St}{γ:Γ}
def EnvR.set {i:Nat}{s s':S}{v:V} (Ev:EnvR K H0 B H σ γ) (S1:Same H H') (h:TV K (zof B γ σ) H0 H H' s v) (e:s.slot=some s') :
  EnvR K H0 B H' (σ.set i (some v)) (γ.set i (some s'))/\Fr B H σ γ H' (σ.set i (some v)) (γ.set i (some s')):=by
 by_cases hi:i<γ.length
 ·exact Ev.put S1 h e hi
 ·rw[List.set_eq_of_length_le (by rw[Ev.len];omega),List.set_eq_of_length_le (by omega)];exact⟨Ev.grow S1,Fr.grow S1⟩
def Upd(is:List Nat)(σ σ':L2.St):Prop:=(∀j,j∉is->σ'[j]?=σ[j]?)/\σ'.length=σ.length
def Pg(K:Za)(is:List Nat)(t:TG)(p:PTG):Prop:=∀(H0:Hp) (B:Addr->Prop) (H H':Hp) (σ:L2.St) (γ:Γ) (s:S) (v:V) (R:Γ->Prop) (Q:L2.St->Hp->Prop),EnvR K H0 B H σ γ->Same H H'->TV K (zof B γ σ) H0 H H' s v->p s γ R->
 (∀σ' γ',R γ'->EnvR K H0 B H' σ' γ'->Fr B H σ γ H' σ' γ'->Upd is σ σ'->Q σ' H')->t v σ H' Q
def E4(i:Nat):PTG:=fun s γ R=>match s.slot with|some s'=>R (γ.set i (some s'))|none=>False
def JC(i:Nat):Pg K [i] (P8 i) (E4 i):=by
 intro H0 B H H' σ γ s v R Q env S1 tv p q;unfold E4 at p;split at p
 ·rename_i s' e;obtain⟨e1,f1⟩:=env.set (i:=i) S1 tv e;exact q _ _ p e1 f1 ⟨fun j hj=>XF fun z=>hj (by rw[z];exact Ym.mpr rfl),Wj⟩
 ·exact p.elim
def Zbr:PTGs:=fun ss γ R=>match ss with|[]=>R γ|_=>False
def Mm(g:PTG)(r:PTGs):PTGs:=fun ss γ R=>match ss with|s::t=>g s γ fun γ'=>r t γ' R|[]=>False
def TV.notown {s:S}{v:V}{σ':L2.St}{γ':Γ}{Hb:Hp} (f:Fr B H σ γ H' σ' γ') (hb:Same H H') (n:∀ds,s≠.own ds) (nv:∀ds,s≠.view ds) (h:TV K (zof B γ σ) H0 Hb H s v):TV K (zof B γ' σ') H0 H' H' s v:=by
 cases s with
 |bor d=>exact h
 |sh d=>exact Rp.mono f.off h
 |own ds=>exact absurd rfl (n ds)
 |view ds=>exact absurd rfl (nv ds)
 |tmp d=>exact Rp.mono hb h
def TVs.notown {σ':L2.St}{γ':Γ}{Hb:Hp} (f:Fr B H σ γ H σ' γ'):∀{ss:List S}{vs:List V},(∀s∈ss,∀ds,s≠.own ds/\s≠.view ds)->TVs K (zof B γ σ) H0 Hb H ss vs->TVs K (zof B γ' σ') H0 H H ss vs
 |_,_,_,.nil=>.nil
 |_,_,n,.cons h r=>.cons (h.notown f (Same.refl _) (fun ds=>(n _ YL ds).1) fun ds=>(n _ YL ds).2) (TVs.notown f (fun s hs=>n s (YB _ hs)) r)
def Fp(d:D):arg d=.sh d\/arg d=.bor d:=by unfold arg;cases imm d<;>simp
def Td(d:D):argT d=.sh d\/argT d=.tmp d:=by unfold argT;cases imm d<;>simp
def Cb(s:S)(d:D):∀ds,s.sub d≠.own ds/\s.sub d≠.view ds:=fun ds=>by
 cases s with
 |bor b=>rcases Fp d with e|e<;>(show arg d≠_/\arg d≠_;rw[e];exact⟨(fun z=>by cases z),(fun z=>by cases z)⟩)
 |tmp b=>rcases Td d with e|e<;>(show argT d≠_/\argT d≠_;rw[e];exact⟨(fun z=>by cases z),(fun z=>by cases z)⟩)
 |sh b=>exact⟨(fun z=>by cases z),(fun z=>by cases z)⟩
 |own b=>
  cases b with
  |nst cs=>rcases Td d with e|e<;>(show argT d≠_/\argT d≠_;rw[e];exact⟨(fun z=>by cases z),(fun z=>by cases z)⟩)
  |nsl a cs=>rcases Td d with e|e<;>(show argT d≠_/\argT d≠_;rw[e];exact⟨(fun z=>by cases z),(fun z=>by cases z)⟩)
  |_=>exact⟨(fun z=>by cases z),(fun z=>by cases z)⟩
 |view b=>
  cases b with
  |nst cs=>rcases Td d with e|e<;>(show argT d≠_/\argT d≠_;rw[e];exact⟨(fun z=>by cases z),(fun z=>by cases z)⟩)
  |nsl a cs=>rcases Td d with e|e<;>(show argT d≠_/\argT d≠_;rw[e];exact⟨(fun z=>by cases z),(fun z=>by cases z)⟩)
  |_=>exact⟨(fun z=>by cases z),(fun z=>by cases z)⟩
def NT(K:Za)(is:List Nat)(t:TGs)(p:PTGs):Prop:=∀(H0:Hp) (B:Addr->Prop) (H:Hp) (σ:L2.St) (γ:Γ) (ss:List S) (vs:List V) (R:Γ->Prop) (Q:L2.St->Hp->Prop),EnvR K H0 B H σ γ->TVs K (zof B γ σ) H0 H H ss vs->(∀s∈ss,∀ds,s≠.own ds/\s≠.view ds)->p ss γ R->
 (∀σ' γ',R γ'->EnvR K H0 B H σ' γ'->Fr B H σ γ H σ' γ'->Upd is σ σ'->Q σ' H)->t vs σ H Q
def Kz:NT K [] gNil Zbr:=by
 intro H0 B H σ γ ss vs R Q env tv no p q;cases tv with
 |nil=>exact⟨rfl,q _ _ p env Fr.refl ⟨fun _ _=>rfl,rfl⟩⟩
 |cons _ _=>exact p.elim
def Xm{is js:List Nat}{g:TG}{r:TGs}{pg:PTG}{pr:PTGs}(hg:Pg K is g pg)(hr:NT K js r pr):NT K (is++js) (DY g r) (Mm pg pr):=by
 intro H0 B H σ γ ss vs R Q env tv no p q;cases tv with
 |nil=>exact p.elim
 |cons h t=>
  refine⟨_,_,rfl,hg H0 B H H σ γ _ _ _ _ env (Same.refl _) h p fun σ1 γ1 p1 e1 f1 k1=>?_⟩;refine hr H0 B H σ1 γ1 _ _ _ _ e1 (TVs.notown f1 (fun s hs=>no s (YB _ hs)) t) (fun s hs=>no s (YB _ hs)) p1 fun σ2 γ2 p2 e2 f2 k2=>?_;exact q σ2 γ2 p2 e2 (f1.trans f2) ⟨fun j hj=>(k2.1 j fun z=>hj (YF _ z)).trans (k1.1 j fun z=>hj (Wo _ z)),k2.2.trans k1.2⟩
def Gu(n:Nat)(r:PTGs):PTG:=fun s γ R=>match s.d with | .tup ds=>ds.length=n/\r (ds.map s.sub) γ R|_=>False
def TVs.of_part {ds:List D}{s:S}:∀{vs:List V}{ds:List D},vs.length=ds.length->(∀(i:Nat) d,ds[i]?=some d->∃u,vs[i]?=some u/\TV K Z H0 H H' (s.sub d) u)->TVs K Z H0 H H' (ds.map s.sub) vs
 |[],[],_,_=>.nil
 |[],_::_,e,_=>by cases e
 |_::_,[],e,_=>by cases e
 |v::vs,d::ds,e,h=>by
  obtain⟨u,h1,h2⟩:=h 0 d rfl;cases h1
  exact .cons h2 (TVs.of_part (ds:=ds) (by simpa using e) fun i d' hd=>by simpa using h (i+1) d' (by simpa using hd))
def K6{n:Nat}{is:List Nat}{r:TGs}{pr:PTGs}(hr:NT K is r pr):Pg K is (gTup K n r) (Gu n pr):=by
 intro H0 B H H' σ γ s v R Q env S1 tv p q;unfold Gu at p;have env1:=env.grow S1;obtain⟨_,pt⟩:=tv.part env1.same env.zm S1;split at p
 ·rename_i ds e;obtain⟨a,vs,rfl,ha,hn,hp⟩:=pt ds e;refine⟨a,vs,rfl,SqT.of ha,hn.trans p.1,?_⟩;have tvs:=TVs.of_part (ds:=ds) hn hp;refine hr H0 B H' σ γ _ vs R Q env1 (TVs.notown (Fr.refl) (fun s' hs ds=>?_) tvs) (fun s' hs ds=>?_) p.2 fun σ' γ' hR e1 f1 k1=>q σ' γ' hR e1 (Fr.trans (Fr.grow S1) f1) k1
  ·obtain⟨d,_,rfl⟩:=YU.mp hs;exact Cb s d ds
  ·obtain⟨d,_,rfl⟩:=YU.mp hs;exact Cb s d ds
 ·exact p.elim
def EndR.from {R:PEnds}{D:Ends}{σ1:L2.St}{γ1:Γ} (e:EndR K mg E H0 B H σ γ R D) (f:Fr B H σ γ H1 σ1 γ1):EndR K mg E H0 B H1 σ1 γ1 R D:=
 ⟨fun σ' γ' H' h1 h2 h3=>e.nx σ' γ' H' h1 h2 (f.trans h3),e.rt,fun σ' γ' c H' h1 h2 h3=>e.ex σ' γ' c H' h1 h2 (f.trans h3),fun σ' γ' H' h1 h2 h3=>e.bk σ' γ' H' h1 h2 (f.trans h3),fun σ' γ' H' h1 h2 h3=>e.ct σ' γ' H' h1 h2 (f.trans h3),fun σ' γ' d v H' h1 h2 h3=>e.rv σ' γ' d v H' h1 h2 (f.trans h3)⟩
variable {te:TE}{a:PTE}{tt:TT}{c:PTT}{t u:TS}{p q:PTS}
def MX:PTS:=fun R γ=>R.nx γ
def JN:SndS K mg E Es MX:=fun _ _ _ _ _ _ _ _ env h e=>e.nx _ _ _ h env Fr.refl
def pSeq(p q:PTS):PTS:=fun R γ=>p {R with nx:=q R} γ
def J8(hp:SndS K mg E t p)(hq:SndS K mg E u q):SndS K mg E (tSeq t u) (pSeq p q):=by
 intro H0 B H σ γ R D hB env h e;refine hp H0 B H σ γ _ _ hB env h ⟨fun σ' γ' H' h1 e1 f1=>?_,e.rt,e.ex,e.bk,e.ct,e.rv⟩;exact hq H0 B H' σ' γ' R D hB e1 h1 (e.from f1)
structure JoinW (p q:PTS) (R:PEnds) (γ:Γ):Prop where
 w:∃J:Γ->Prop,p {R with nx:=J} γ/\∀γ',J γ'->q R γ'
def Zem(p q:PTS):PTS:=fun R γ=>JoinW p q R γ
def KP(hp:SndS K mg E t p)(hq:SndS K mg E u q):SndS K mg E (A0 t u) (Zem p q):=by
 intro H0 B H σ γ R D hB env h e;obtain⟨J,h,k⟩:=h.w;refine⟨fun σ' H'=>∃γ',J γ'/\EnvR K H0 B H' σ' γ'/\Fr B H σ γ H' σ' γ',hp H0 B H σ γ _ _ hB env h ⟨fun σ' γ' H' h1 e1 f1=>⟨γ',h1,e1,f1⟩,e.rt,e.ex,e.bk,e.ct,e.rv⟩,?_⟩;rintro σ' H' ⟨γ',h1,e1,f1⟩;exact hq H0 B H' σ' γ' R D hB e1 (k γ' h1) (e.from f1)
def pFrz(i:Nat)(p:PTS):PTS:=fun R γ=>p R (frz i γ)
def JM(i:Nat)(hp:SndS K mg E t p):SndS K mg E t (pFrz i p):=by
 intro H0 B H σ γ R D hB env h e;obtain⟨e1,f1⟩:=env.frz hB i;exact hp H0 B H σ _ R D hB e1 h (e.from f1)
def pAsg(a:PTE)(g:PTG):PTS:=fun R γ=>a γ (fun s=>g s γ R.nx) (R.ex γ)
def JH{is:List Nat}{g:TG}{pg:PTG}(ha:SndE K mg E te a)(hg:Pg K is g pg):SndS K mg E (tAsg te g) (pAsg a pg):=by
 intro H0 B H σ γ R D hB env h e;refine ha H0 B H σ γ _ _ _ env h (fun s v H1 h1 S1 t1=>?_) fun c H' hc S'=>e.ex σ γ c H' hc (env.grow S') (Fr.grow S');exact hg H0 B H H1 σ γ s v _ _ env S1 t1 h1 fun σ' γ' h2 e2 f2 _=>e.nx σ' γ' H1 h2 e2 f2
def pAug(i:Nat)(f:Int->Int->Int)(a:PTE):PTS:=fun R γ=>match γ[i]? with
 |some (some (.sh (.int x)))=>a γ (fun y=>match y.d with | .int j=>R.nx (γ.set i (some (.sh (.int (f x j)))))|_=>False) (R.ex γ)
 |_=>False
def Al{i:Nat}{f:Int->Int->Int}(ha:SndE K mg E te a):SndS K mg E (tAug i te (ipI f)) (pAug i f a):=by
 intro H0 B H σ γ R D hB env h e;unfold pAug at h;split at h
 ·rename_i x hx;obtain⟨v,h1,h2⟩:=env.slot i _ hx;refine⟨v,h1,ha H0 B H σ γ _ _ _ env h (fun y u H1 h3 S1 t1=>?_) fun c H' hc S'=>e.ex σ γ c H' hc (env.grow S') (Fr.grow S')⟩;have rx:=t1.rp (env.grow S1).same;split at h3
  ·rename_i j ej;rw[ej]at rx;refine⟨x,j,Rp.int_inv h2,rx.int_inv,?_⟩;obtain⟨e1,f1⟩:=env.set (i:=i) (s:=.sh (.int (f x j))) (v:=.int (f x j)) S1 (.int _) rfl;exact e.nx _ _ H1 h3 e1 f1
  ·exact h3.elim
 ·exact h.elim
def pRet(a:PTE):PTS:=fun R γ=>a γ R.rt (R.ex γ)
def JJ(ha:SndE K mg E te a):SndS K mg E (tRet te) (pRet a):=by
 intro H0 B H σ γ R D hB env h e;refine ha H0 B H σ γ _ _ _ env h (fun s v H1 h1 S1 t1=>?_) fun c H' hc S'=>e.ex σ γ c H' hc (env.grow S') (Fr.grow S');exact e.rt s v H1 h1 (env.same.trans S1) (TV.weak env.same (fun b z=>.inl z) t1)
def AW(i:Nat):PTS:=fun R γ=>match γ[i]? with|some (some s)=>R.rt s|_=>False
def Ki(i:Nat):SndS K mg E (tRet (tVar i)) (AW i):=by
 intro H0 B H σ γ R D hB env h e;unfold AW at h;split at h
 ·rename_i s hs;obtain⟨v,h1,h2⟩:=env.slot i _ hs;refine⟨v,h1,e.rt s v H h env.same ?_⟩;cases s with
  |bor d=>exact h2
  |sh d=>exact Rp.mono (JV (Same.refl _) fun b _ _ z y=>z (.inl y)) h2
  |own ds=>
   obtain⟨l,rfl,e2,e3⟩:=h2;exact⟨l,rfl,e2,e3.mono (JV (Same.refl _) fun b _ _ z y=>z (y.elim .inl fun w=>.inr ⟨i,ds,l,hs,h1,w⟩)) fun _ _ _ q=>q⟩
  |view ds=>exact h2.elim
  |tmp d=>exact h2.elim
 ·exact h.elim
def pIfS(c:PTT)(p q:PTS):PTS:=fun R γ=>c γ (fun b=>if b=true then p R γ else q R γ) (R.ex γ)
def JP(hc:SndT K mg E tt c)(hp:SndS K mg E t p)(hq:SndS K mg E u q):SndS K mg E (tIfS tt t u) (pIfS c p q):=by
 intro H0 B H σ γ R D hB env h e;refine hc H0 B H σ γ _ _ _ env h (fun b H1 h1 S1=>?_) fun c H' hc S'=>e.ex σ γ c H' hc (env.grow S') (Fr.grow S');split at h1
 ·rename_i hb;rw[Yn hb];exact hp H0 B H1 σ γ R D hB (env.grow S1) h1 (e.from (Fr.grow S1))
 ·rename_i hb;rw[Yo hb];exact hq H0 B H1 σ γ R D hB (env.grow S1) h1 (e.from (Fr.grow S1))
def O9(a:PTE):PTS:=fun R γ=>a γ (fun _=>R.nx γ) (R.ex γ)
def Xn(ha:SndE K mg E te a):SndS K mg E (NM te) (O9 a):=by
 intro H0 B H σ γ R D hB env h e;exact ha H0 B H σ γ _ _ _ env h (fun s v H1 h1 S1 t1=>e.nx σ γ H1 h1 (env.grow S1) (Fr.grow S1)) fun c H' hc S'=>e.ex σ γ c H' hc (env.grow S') (Fr.grow S')
def Zc2(x:Str)(r:PTA):PTS:=fun R γ=>r γ (fun ss=>ss.length<=1000/\R.ex γ x) (R.ex γ)
def TVs.len:∀{ss:List S}{vs:List V},TVs K Z H0 H H' ss vs->vs.length=ss.length
 |_,_,.nil=>rfl
 |_,_,.cons _ r=>YQ (· + 1) (TVs.len r)
def UZ{x:Str}{ta:TA}{r:PTA}{Ec:XK}(hr:SndA K mg (fun _=>Ec) ta r)(hx:decR x=none:=by rfl):SndS K mg (fun _=>Ec) (ExcR.G3 (ExcR.JD mg x) Ec ta) (Zc2 x r):=by
 intro H0 B H σ γ R D hB env h e;refine hr H0 B H σ γ _ _ _ env h (fun ss vs H1 h1 S1 t1=>⟨?_,?_⟩) fun c H' hc S'=>e.ex σ γ c H' hc (env.grow S') (Fr.grow S')
 ·rw[t1.len];exact Bf h1.1
 ·exact(e.ex σ γ x H1 h1.2 (env.grow S1) (Fr.grow S1)).plain hx
def fPar(i j:Nat)(γ:Γ)(R:Γ->Prop):List S->Prop
 |[.sh d,.sh e]=>R ((γ.set i (some (.sh d))).set j (some (.sh e)))
 |_=>False
def clr:List Nat->Γ->Γ
 |[],γ=>γ
 |i::r,γ=>clr r (γ.set i none)
def EnvR.clr:∀(is:List Nat) {γ:Γ},EnvR K H0 B H σ γ->EnvR K H0 B H σ (clr is γ)/\Fr B H σ γ H σ (Pu.clr is γ)
 |[],_,e=>⟨e,Fr.refl⟩
 |i::r,γ,e=>by
  obtain⟨e1,f1⟩:=e.drop i;obtain⟨e2,f2⟩:=EnvR.clr r e1;exact⟨e2,f1.trans f2⟩
def Later(H0:Hp)(Z:Addr->Prop)(H1:Hp)(Z':Addr->Prop)(H':Hp):Prop:=Same H0 H'/\(∀b,Z' b->Mut (H' b))/\∀b o,H1 b=some o->¬Z b->H' b=some o/\¬Z' b
def Later.of {σ':L2.St}{γ':Γ} (e:EnvR K H0 B H' σ' γ') (f:Fr B H1 σ γ H' σ' γ'):Later H0 (zof B γ σ) H1 (zof B γ' σ') H':=⟨e.same,e.zm,f⟩
def Later.off (l:Later H0 Z H1 Z' H'):Same (off Z H1) (Pu.off Z' H'):=fun b o h=>by
 obtain⟨h1,h2⟩:=XJ h;obtain⟨h3,h4⟩:=l.2.2 b o h1 h2;exact Ur h3 h4
structure ItOk (K:Za) (H0:Hp) (B:Addr->Prop) (H1:Hp) (σ:L2.St) (γ:Γ) (J:It) (n:Nat) (item:Nat->S):Prop where
 go:∀(i:Nat) (H':Hp) (Z':Addr->Prop),i<n->Later H0 (zof B γ σ) H1 Z' H'->J.go i H'/\∀x H'',J.yld i H' x H''->Same H' H''/\TV K Z' H0 H' H'' (item i) x
 stop:∀(H':Hp) (Z':Addr->Prop),Later H0 (zof B γ σ) H1 Z' H'->J.stop n H'
abbrev PTI:=Γ->(Nat->(Nat->S)->Prop)->XR->Prop
def SndI(K:Za)(mg:Str->Option Value)(E:L2.St->XK)(wi:TI)(it:PTI):Prop:=∀(H0:Hp) (B:Addr->Prop) (H:Hp) (σ:L2.St) (γ:Γ) (R:Nat->(Nat->S)->Prop) (X:XR) (Q:It->Hp->Prop),EnvR K H0 B H σ γ->it γ R X->
 (∀n item J H1,R n item->Same H H1->ItOk K H0 B H1 σ γ J n item->Q J H1)->(∀c H',X c->Same H H'->XE mg (E σ) c H')->wi σ H Q
structure ForW (js:List Nat) (γ:Γ) (g:PTG) (body:PTS) (R:PEnds) (n:Nat) (item:Nat->S):Prop where
 w:∃inv:Nat->Γ->Prop,inv 0 (clr js γ)/\
 (∀i γ',i<n->inv i γ'->g (item i) γ' fun γ2=>body {R with nx:=fun γ3=>inv (i+1) (clr js γ3),ct:=fun γ3=>inv (i+1) (clr js γ3),bk:=R.nx} γ2)/\∀γ',inv n γ'->R.nx γ'
def pFor(js:List Nat)(it:PTI)(g:PTG)(body:PTS):PTS:=fun R γ=>it γ (fun n item=>ForW js γ g body R n item) (R.ex γ)
def UO{is:List Nat}{wi:TI}{g:TG}{it:PTI}{pg:PTG}(js:List Nat)(hi:SndI K mg E wi it)(hg:Pg K is g pg)(hb:SndS K mg E t p):SndS K mg E (tFor wi g t) (pFor js it pg p):=by
 intro H0 B H σ γ R D hB env h e;refine hi H0 B H σ γ _ _ _ env h (fun n item J H1 h1 S1 ok=>?_) fun c H' hc S'=>e.ex σ γ c H' hc (env.grow S') (Fr.grow S');obtain⟨inv,h0,hs,hd⟩:=h1.w;have env1:=env.grow S1;refine⟨fun i m σ' H'=>m=n-i/\i<=n/\∃γ',inv i γ'/\EnvR K H0 B H' σ' γ'/\Fr B H1 σ γ H' σ' γ',⟨n,by simp,Wr _,_,h0,(env1.clr js).1,(env1.clr js).2⟩,?_⟩;rintro i m σ' H' ⟨rfl,hin,γ',hi',e',f'⟩;by_cases hlt:i<n
 ·obtain⟨go,yl⟩:=ok.go i H' _ hlt (Later.of e' f');refine .inr ⟨go,fun σ2 H2=>∃γ2,inv (i+1) γ2/\EnvR K H0 B H2 σ2 γ2/\Fr B H1 σ γ H2 σ2 γ2,fun σ2 H2 ⟨γ2,a1,a2,a3⟩=>⟨n-(i+1),by omega,rfl,hlt,γ2,a1,a2,a3⟩,fun x H'' y=>?_⟩;obtain⟨S2,tv⟩:=yl x H'' y;refine hg H0 B H' H'' σ' γ' _ _ _ _ e' S2 tv (hs i γ' hlt hi') fun σ2 γ2 q2 e2 f2 _=>?_;have fall:=f'.trans f2;refine hb H0 B H'' σ2 γ2 _ _ hB e2 q2 ⟨fun σ3 γ3 H3 q3 e3 f3=>?_,e.rt,fun σ3 γ3 c H3 q3 e3 f3=>e.ex σ3 γ3 c H3 q3 e3 ((Fr.grow S1).trans (fall.trans f3)),fun σ3 γ3 H3 q3 e3 f3=>e.nx σ3 γ3 H3 q3 e3 ((Fr.grow S1).trans (fall.trans f3)),fun σ3 γ3 H3 q3 e3 f3=>?_,fun σ3 γ3 d v H3 q3 e3 f3=>e.rv σ3 γ3 d v H3 q3 e3 ((Fr.grow S1).trans (fall.trans f3))⟩
  ·exact⟨_,q3,(e3.clr js).1,(fall.trans f3).trans (e3.clr js).2⟩
  ·exact⟨_,q3,(e3.clr js).1,(fall.trans f3).trans (e3.clr js).2⟩
 ·have:i=n:=by omega
  subst this;exact .inl ⟨ok.stop H' _ (Later.of e' f'),e.nx σ' γ' H' (hd γ' hi') e' ((Fr.grow S1).trans f')⟩
def S.fix:S->Bool
 | .bor _=>true | .sh _=>true | .own (.nsl _ _)=>false | .own _=>true|_=>false
def pIL(a:PTE):PTI:=fun γ R X=>a γ (fun s=>match s.d with
 | .lst ds=>s.fix=true/\R ds.length fun i=>s.sub (ds.getD i .non)
 | .scr ns=>s.fix=true/\R ns.length fun i=>.sh (.int (ns.getD i 0))
 |_=>False) X
def TV.last {s:S}{v:V}{ds:List D} (env:EnvR K H0 B H σ γ) (S1:Same H H1) (tv:TV K (zof B γ σ) H0 H H1 s v) (hf:s.fix=true) (hd:s.d=.lst ds):∃l vs,v=.ref l/\vs.length=ds.length/\
  ∀(H':Hp) (Z':Addr->Prop),Later H0 (zof B γ σ) H1 Z' H'->H' l=some (.lst vs)/\∀(i:Nat) d,ds[i]?=some d->∃u,vs[i]?=some u/\TV K Z' H0 H' H' (s.sub d) u:=by
 have env1:=env.grow S1
 have key:∀{s:S},(∀d,s.sub d=.sh d)->Rp K (Pu.off (zof B γ σ) H1) (.lst ds) v->∃l vs,v=.ref l/\vs.length=ds.length/\
   ∀(H':Hp) (Z':Addr->Prop),Later H0 (zof B γ σ) H1 Z' H'->H' l=some (.lst vs)/\∀(i:Nat) d,ds[i]?=some d->∃u,vs[i]?=some u/\TV K Z' H0 H' H' (s.sub d) u:=fun hs h=>by
  obtain⟨l,vs,rfl,h1,h2⟩:=Rp.lst_inv h;refine⟨l,vs,rfl,h2.len,fun H' Z' lt=>⟨off_sub _ _ (lt.off _ _ h1),fun i d hi=>?_⟩⟩;obtain⟨u,h3,h4⟩:=h2.get hi;refine⟨u,h3,?_⟩;rw[hs];exact Rp.mono lt.off h4
 cases s with
 |bor d=>
  have tv:=Rp.strip tv;rw[show d.strip=.lst ds from hd]at tv
  obtain⟨l,vs,rfl,h1,h2⟩:=Rp.lst_inv tv;refine⟨l,vs,rfl,h2.len,fun H' Z' lt=>⟨lt.1 _ _ h1,fun i d hi=>?_⟩⟩;obtain⟨u,h3,h4⟩:=h2.get hi;exact⟨u,h3,argR lt.2.1 lt.1 h4⟩
 |sh d=>
  have:d=.lst ds:=hd
  subst this;exact key (fun _=>rfl) tv
 |own es=>
  cases es with
  |lst es=>
   cases hd
   exact key (fun _=>rfl) (tv.shd env1.same env.zm S1 rfl)
  |lsA x es=>
   cases hd
   exact key (fun _=>rfl) (tv.shd env1.same env.zm S1 rfl)
  |dK es=>cases hd
  |dT es=>cases hd
  |ins x C xs cs=>cases hd
  |nst cs=>cases hd
  |nsl a cs=>cases hf
 |view es=>cases hf
 |tmp d=>cases hf
def XA{te:TE}{a:PTE}(ha:SndE K mg E te a):SndI K mg E (N7 K te) (pIL a):=by
 intro H0 B H σ γ R X Q env h q qx;refine ha H0 B H σ γ _ X _ env h (fun s v H1 h1 S1 t1=>?_) qx;have env1:=env.grow S1;split at h1
 ·rename_i ds ed;obtain⟨l,vs,rfl,hn,hl⟩:=t1.last env S1 h1.1 ed;obtain⟨hl1,_⟩:=hl H1 _ (Later.of env1 Fr.refl);refine⟨l,rfl,⟨vs,SqL.of hl1⟩,q _ _ _ H1 h1.2 S1 ⟨fun i H' Z' hi lt=>?_,fun H' Z' lt=>?_⟩⟩
  ·obtain⟨k1,k2⟩:=hl H' Z' lt;have hd:ds[i]?=some (ds.getD i .non):=by rw[Y1,Yj hi];rfl
   obtain⟨u,hu,tu⟩:=k2 i _ hd;refine⟨⟨vs,u,SqL.of k1,hu⟩,fun x H'' y=>?_⟩;obtain⟨rfl,y⟩:=y
   have:=y vs (SqL.of k1)
   rw[hu]at this;cases this
   exact⟨Same.refl _,tu⟩
  ·exact⟨vs,SqL.of (hl H' Z' lt).1,by omega⟩
 ·rename_i ns ed
  have hs:∃l,v=.ref l/\∀(H':Hp) (Z':Addr->Prop),Later H0 (zof B γ σ) H1 Z' H'->SqL K H' l (ns.map V.int):=by
   cases s with
   |bor d=>
    have t1:=Rp.strip t1;rw[show d.strip=.scr ns from ed]at t1
    cases t1 with
    |scr hs=>exact⟨_,rfl,fun H' Z' lt=>lt.1.seq hs⟩
   |sh d=>
    have:d=.scr ns:=ed
    subst this;cases t1 with
    |scr hs=>exact⟨_,rfl,fun H' Z' lt=>off_sub.seq (lt.off.seq hs)⟩
   |own es=>cases es<;>cases ed
   |view es=>cases es<;>cases ed
   |tmp d=>cases h1.1
  obtain⟨l,rfl,hl⟩:=hs;refine⟨l,rfl,⟨_,hl H1 _ (Later.of env1 Fr.refl)⟩,q _ _ _ H1 h1.2 S1 ⟨fun i H' Z' hi lt=>?_,fun H' Z' lt=>?_⟩⟩
  ·have k1:=hl H' Z' lt
   have hu:(ns.map V.int)[i]?=some (.int (ns.getD i 0)):=by
    rw[Yw,Yj hi,Y1,Yj hi];rfl
   refine⟨⟨_,_,k1,hu⟩,fun x H'' y=>?_⟩;obtain⟨rfl,y⟩:=y
   have:=y _ k1
   rw[hu]at this;cases this
   exact⟨Same.refl _,.int _⟩
  ·exact⟨_,hl H' Z' lt,by rw[Yi];exact Yr _⟩
 ·exact h1.elim
def fR1(R:Nat->(Nat->S)->Prop):List D->Prop
 |[.int j]=>(-(2 ^ 62)<=j/\j<2 ^ 62)/\R j.toNat fun i=>.sh (.int (0+(i:Int)))
 |_=>False
def fR2(R:Nat->(Nat->S)->Prop):List D->Prop
 |[.int i,.int j]=>(-(2 ^ 62)<=i/\i<2 ^ 62/\-(2 ^ 62)<=j/\j<2 ^ 62)/\R (j-i).toNat fun k=>.sh (.int (i+(k:Int)))
 |_=>False
def pIR1(r:PTA):PTI:=fun γ R X=>r γ (fun ss=>fR1 R (ss.map S.d)) X
def pIR2(r:PTA):PTI:=fun γ R X=>r γ (fun ss=>fR2 R (ss.map S.d)) X
def Rps.one_inv {d:D}{vs:List V} (h:Rps K H [d] vs):∃v,vs=[v]/\Rp K H d v:=by
 cases h with
 |cons h r=>cases r;exact⟨_,rfl,h⟩
def Rps.two_inv {d e:D}{vs:List V} (h:Rps K H [d,e] vs):∃v u,vs=[v,u]/\Rp K H d v/\Rp K H e u:=by
 cases h with
 |cons h r=>cases r with|cons h2 r=>cases r;exact⟨_,_,rfl,h,h2⟩
def A4{lo:Int}{n:Nat}:ItOk K H0 B H1 σ γ (Itr lo n) n fun i=>.sh (.int (lo+(i:Int))):=by
 refine⟨fun i H' Z' hi lt=>⟨hi,fun x H'' y=>?_⟩,fun H' Z' lt=>Yr _⟩;obtain⟨e,y⟩:=y;subst e y;exact⟨Same.refl _,.int _⟩
def T3{ta:TA}{r:PTA}(hr:SndA K mg E ta r):SndI K mg E (GA ta) (pIR1 r):=by
 intro H0 B H σ γ R X Q env h q qx;refine hr H0 B H σ γ _ X _ env h (fun ss vs H1 h1 S1 t1=>?_) qx;have rv:=t1.rps (env.grow S1).same;unfold fR1 at h1;split at h1
 ·rename_i j ej;rw[ej]at rv;obtain⟨v,rfl,r1⟩:=rv.one_inv;rw[r1.int_inv];exact⟨j,rfl,h1.1.1,h1.1.2,q _ _ _ H1 h1.2 S1 A4⟩
 ·exact h1.elim
def Zd8{ta:TA}{r:PTA}(hr:SndA K mg E ta r):SndI K mg E (D3 ta) (pIR2 r):=by
 intro H0 B H σ γ R X Q env h q qx;refine hr H0 B H σ γ _ X _ env h (fun ss vs H1 h1 S1 t1=>?_) qx;have rv:=t1.rps (env.grow S1).same;unfold fR2 at h1;split at h1
 ·rename_i i j ej;rw[ej]at rv;obtain⟨v,u,rfl,r1,r2⟩:=rv.two_inv;rw[r1.int_inv,r2.int_inv];exact⟨i,j,rfl,h1.1,q _ _ _ H1 h1.2 S1 A4⟩
 ·exact h1.elim
structure WhileW (js:List Nat) (γ:Γ) (c:PTT) (body:PTS) (R:PEnds):Prop where
 w:∃(inv:Γ->Prop) (μ:Γ->Nat),inv (clr js γ)/\∀γ',inv γ'->c γ' (fun b=>if b=true then
  body {R with nx:=fun γ3=>inv (clr js γ3)/\μ (clr js γ3)<μ γ',ct:=fun γ3=>inv (clr js γ3)/\μ (clr js γ3)<μ γ',bk:=R.nx} γ' else R.nx γ') (R.ex γ')
def Zc5(js:List Nat)(c:PTT)(body:PTS):PTS:=fun R γ=>WhileW js γ c body R
def Ck(js:List Nat)(hc:SndT K mg E tt c)(hb:SndS K mg E t p):SndS K mg E (D4 tt t) (Zc5 js c p):=by
 intro H0 B H σ γ R D hB env h e;obtain⟨inv,μ,h0,hs⟩:=h.w;refine⟨fun m σ' H'=>∃γ',m=μ γ'/\inv γ'/\EnvR K H0 B H' σ' γ'/\Fr B H σ γ H' σ' γ',⟨_,_,rfl,h0,(env.clr js).1,(env.clr js).2⟩,?_⟩;rintro m σ' H' ⟨γ',rfl,hi,e',f'⟩;refine hc H0 B H' σ' γ' _ _ _ e' (hs γ' hi) (fun b H1 h1 S1=>?_) fun c H'' hc S'=>e.ex σ' γ' c H'' hc (e'.grow S') (f'.trans (Fr.grow S'));have e1:=e'.grow S1;have f1:=f'.trans (Fr.grow S1);cases b with
 |false=>
  rw[Yo Y7]at h1 ⊢;exact e.nx σ' γ' H1 h1 e1 f1
 |true=>
  rw[Yn rfl]at h1 ⊢;refine⟨fun σ2 H2=>∃γ2,μ γ2<μ γ'/\inv γ2/\EnvR K H0 B H2 σ2 γ2/\Fr B H σ γ H2 σ2 γ2,fun σ2 H2 ⟨γ2,k,a1,a2,a3⟩=>⟨_,k,γ2,rfl,a1,a2,a3⟩,?_⟩;refine hb H0 B H1 σ' γ' _ _ hB e1 h1 ⟨fun σ3 γ3 H3 q3 e3 f3=>?_,e.rt,fun σ3 γ3 c H3 q3 e3 f3=>e.ex σ3 γ3 c H3 q3 e3 (f1.trans f3),fun σ3 γ3 H3 q3 e3 f3=>e.nx σ3 γ3 H3 q3 e3 (f1.trans f3),fun σ3 γ3 H3 q3 e3 f3=>?_,fun σ3 γ3 d v H3 q3 e3 f3=>e.rv σ3 γ3 d v H3 q3 e3 (f1.trans f3)⟩
  ·exact⟨_,q3.2,q3.1,(e3.clr js).1,(f1.trans f3).trans (e3.clr js).2⟩
  ·exact⟨_,q3.2,q3.1,(e3.clr js).1,(f1.trans f3).trans (e3.clr js).2⟩
end
section
variable {K:Za}{mg:Str->Option Value}{E:L2.St->XK}{H0 H H1 H':Hp}{B Z Z':Addr->Prop}{σ:L2.St}{γ:Γ}
def Kj(N:List Str)(ds:List D):Γ:=ds.map (fun d=>some (arg d))++List.replicate (N.length-ds.length) none
def IR{N:List Str}{ds:List D}{vs:List V}(r:Rps K H ds vs)(hn:ds.length<=N.length):EnvR K H (fun b=>Mut (H b)) H (start N vs) (Kj N ds):=by
 have hlen:=r.len
 have get:∀(i:Nat) (s:S),(Kj N ds)[i]?=some (some s)->∃d,ds[i]?=some d/\s=arg d:=fun i s h=>by
  unfold Kj at h;by_cases hi:i<ds.length
  ·rw[YM (by rw[Yi];exact hi),Yw,Yj hi]at h;exact⟨_,Yj hi,(Yv (Yv h)).symm⟩
  ·rw[YO (by rw[Yi];omega),WB]at h;split at h<;>cases h
 have noown:∀(i:Nat) (es:O),(Kj N ds)[i]?≠some (some (.own es)):=fun i es h=>by
  obtain⟨d,_,e⟩:=get i _ h;rcases Fp d with q|q<;>rw[q]at e<;>cases e
 refine⟨Same.refl _,?_,fun b h=>h,fun i j a a' es es' b h=>absurd h (noown i es),fun i s h=>?_⟩
 ·unfold L2.start Kj;simp[hlen]
 ·obtain⟨d,hd,rfl⟩:=get i s h;obtain⟨v,hv,rv⟩:=r.get hd;refine⟨v,?_,?_⟩
  ·unfold L2.start;rw[YM (by rw[Yi];exact(Y2.mp hv).1),Yw,hv];rfl
  ·have tv:=argR (K:=K) (Z:=zof (fun b=>Mut (H b)) (Kj N ds) (start N vs)) (H0:=H) (H:=H) (H':=H) (fun b z=>z.elim id fun⟨k,es,_,k1,_⟩=>absurd k1 (noown k es)) (Same.refl _) rv;rcases Fp d with q|q<;>rw[q]at tv ⊢<;>exact tv
def HS{c:Pc}{N:List Str}{t:TS}{p:PTS}{vs:List V}{Q:VK}{Ec:XK}{n:Nat}(h:spOf mg c K vs H Q Ec)(snd:SndS K mg (fun _=>Ec) t p)(hn:n<=N.length)(hp:∀ds R X,c ds R X->ds.length=n/\p {nx:=fun _=>R (.sh .non),rt:=R,ex:=fun _ e=>X e} (Kj N ds)):t {nx:=fun _ H'=>Q .non H',rt:=Q} (start N vs) H:=by
 obtain⟨ds,R,X,r,hc,hQ,hX⟩:=h;obtain⟨e,hp⟩:=hp ds R X hc;refine snd H (fun b=>Mut (H b)) H _ _ _ _ (fun b z=>Kv z) (IR r (by rw[e];exact hn)) hp ⟨fun σ' γ' H' h1 e1 f1=>hQ _ _ H' h1 e1.same .non,fun s v H' h1 S1 tv=>hQ s v H' h1 S1 tv,fun σ' γ' c H' h1 e1 f1=>hX c H' h1 e1.same,fun _ _ _ z=>z.elim,fun _ _ _ z=>z.elim,fun _ _ _ _ _ z=>z.elim⟩
def O6{c:Pc}{vs:List V}{Q:VK}{Ec:XK}{n:Nat}(h:spOf mg c K vs H Q Ec)(hn:∀ds R X,c ds R X->ds.length=n):vs.length=n:=by
 obtain⟨ds,R,X,r,hc,_⟩:=h;rw[r.len];exact hn ds R X hc
def atP(φ:List (Option Nat))(γ:Γ):Γ:=φ.map fun o=>o.bind fun j=>(γ[j]?).join
structure CompW (φ:List (Option Nat)) (γ:Γ) (g:PTG) (c:PTT) (e:PTE) (n:Nat) (item:Nat->S) (R:S->Prop):Prop where
 w:n<=100000/\∃f:Nat->Option D,(∀i,i<n->g (item i) (atP φ γ) fun γ2=>c γ2 (fun b=>if b=true then e γ2 (fun s=>∃d,s.shd=some d/\f i=some d) (fun _=>False)else f i=none) (fun _=>False))/\R (.own ((List.range n).filterMap f))
def RH(φ:List (Option Nat))(it:PTI)(g:PTG)(c:PTT)(e:PTE):PTE:=fun γ R X=>it γ (fun n item=>CompW φ γ g c e n item R) X
def NH{φ:List (Option Nat)}{i:Nat}{s:S}(h:(atP φ γ)[i]?=some (some s)):∃j,φ[i]?=some (some j)/\γ[j]?=some (some s):=by
 unfold atP at h;rw[Yw]at h;cases e:φ[i]? with
 |none=>rw[e]at h;cases h
 |some o=>
  rw[e]at h;cases o with
  |none=>simp at h
  |some j=>
   refine⟨j,rfl,?_⟩;simp at h;cases e2:γ[j]? with
   |none=>rw[e2]at h;simp at h
   |some w=>rw[e2]at h;simp at h;rw[h]
def SQ:∀{φ:List (Option Nat)},(φ.filterMap id).Nodup->∀(i j k:Nat),φ[i]?=some (some k)->φ[j]?=some (some k)->i=j
 |[],_,i,_,_,h,_=>by simp at h
 |none::r,hn,i,j,k,h1,h2=>by
  cases i with
  |zero=>simp at h1
  |succ i=>
   cases j with
   |zero=>simp at h2
   |succ j=>exact YQ (· + 1) (SQ (φ:=r) (by simpa using hn) i j k (by simpa using h1) (by simpa using h2))
 |some m::r,hn,i,j,k,h1,h2=>by
  have hn':m∉r.filterMap id/\(r.filterMap id).Nodup:=by simpa using hn
  have mem:∀{j:Nat},r[j]?=some (some k)->k∈r.filterMap id:=fun h=>Vf.mpr ⟨some k,Y8 h,rfl⟩;cases i with
  |zero=>
   cases j with
   |zero=>rfl
   |succ j=>
    have e:m=k:=by simpa using h1
    subst e;exact absurd (mem (by simpa using h2)) hn'.1
  |succ i=>
   cases j with
   |zero=>
    have e:m=k:=by simpa using h2
    subst e;exact absurd (mem (by simpa using h1)) hn'.1
   |succ j=>exact YQ (· + 1) (SQ (φ:=r) hn'.2 i j k (by simpa using h1) (by simpa using h2))
def N5{φ:List (Option Nat)}{i j:Nat}(h1:φ[i]?=some (some j)){v:V}(h2:σ[j]?=some (some v)):(atStart φ σ)[i]?=some (some v):=by
 unfold atStart;rw[Yw,h1];simp[h2]
def Cd{φ:List (Option Nat)}{L:Addr}(env:EnvR K H0 B H σ γ)(nL:H L=none):∀b o,H b=some o->¬zof B γ σ b->¬zof (fun b=>zof B γ σ b\/b=L) (atP φ γ) (atStart φ σ) b:=fun b o hb z y=>by
 rcases y with(y|y)|⟨i',ds,x,y1,y2,y3⟩
 ·exact z y
 ·rw[y,nL]at hb;cases hb
 ·obtain⟨m,m1,m2⟩:=NH y1;obtain⟨w,w1,_⟩:=env.slot m _ m2;rw[N5 m1 w1]at y2;exact z (.inr ⟨m,ds,x,m2,by rw[w1];exact YQ some (Yv y2),y3⟩)
def Zbt{φ:List (Option Nat)}{L:Addr}(env:EnvR K H0 B H σ γ)(S1:Same H H')(nL:H L=none)(hL:∃ys,H' L=some (.lst ys))(hφ:(φ.filterMap id).Nodup) :
  EnvR K H0 (fun b=>zof B γ σ b\/b=L) H' (atStart φ σ) (atP φ γ):=by
 refine⟨env.same.trans S1,by unfold atStart atP;simp,fun b z=>?_,fun i j a a' ds es b h1 h2 h3 h4 h5 h6=>?_,fun i s h=>?_⟩
 ·rcases z with z|rfl
  ·exact XT S1 (env.zm b z)
  ·obtain⟨ys,e⟩:=hL;rw[e];trivial
 ·obtain⟨k,k1,k2⟩:=NH h1;obtain⟨l,l1,l2⟩:=NH h2;obtain⟨v,v1,_⟩:=env.slot k _ k2;obtain⟨u,u1,_⟩:=env.slot l _ l2;rw[N5 k1 v1]at h3;rw[N5 l1 u1]at h4
  have:=env.own k l a a' ds es b k2 l2 (by rw[v1];exact YQ some (Yv h3)) (by rw[u1];exact YQ some (Yv h4)) h5 h6
  subst this;exact SQ hφ i j k k1 l1
 ·obtain⟨k,k1,k2⟩:=NH h;obtain⟨v,v1,v2⟩:=env.slot k _ k2;have So:Same (off (zof B γ σ) H) (off (zof (fun b=>zof B γ σ b\/b=L) (atP φ γ) (atStart φ σ)) H'):=JV S1 (Cd env nL);refine⟨v,N5 k1 v1,?_⟩;cases s with
  |bor d=>exact v2
  |sh d=>exact Rp.mono So v2
  |own ds=>
   obtain⟨a,e1,e3,e4⟩:=v2;exact⟨a,e1,e3,e4.mono So fun b _ x=>S1 b x⟩
  |view ds=>exact v2
  |tmp d=>exact v2
def Sub.of {σ σ':L2.St}{is:List Nat} (hl:σ'.length=σ.length) (h1:∀j,j∉is->σ'[j]?=σ[j]?) (h2:∀j∈is,∀v,σ[j]?≠some (some v)):Sub σ σ':=⟨hl,fun i v e=>by
 by_cases hi:i∈is
 ·exact absurd e (h2 i hi v)
 ·rw[h1 i hi];exact e⟩
structure ItOkC (K:Za) (H0:Hp) (B:Addr->Prop) (H1:Hp) (σ:L2.St) (γ:Γ) (J:It) (n:Nat) (item:Nat->S):Prop where
 go:∀(i:Nat) (H':Hp) (Z':Addr->Prop),i<n->Same H1 H'->Later H0 (zof B γ σ) H1 Z' H'->J.go i H'/\∀x H'',J.yld i H' x H''->Same H' H''/\TV K Z' H0 H' H'' (item i) x
 stop:∀(H':Hp) (Z':Addr->Prop),Same H1 H'->Later H0 (zof B γ σ) H1 Z' H'->J.stop n H'
def BB(K:Za)(mg:Str->Option Value)(E:L2.St->XK)(wi:TI)(it:PTI):Prop:=∀(H0:Hp) (B:Addr->Prop) (H:Hp) (σ:L2.St) (γ:Γ) (R:Nat->(Nat->S)->Prop) (X:XR) (Q:It->Hp->Prop),EnvR K H0 B H σ γ->it γ R X->
 (∀n item J H1,R n item->Same H H1->ItOkC K H0 B H1 σ γ J n item->Q J H1)->(∀c H',X c->Same H H'->XE mg (E σ) c H')->wi σ H Q
def SndI.c {wi:TI}{it:PTI} (h:SndI K mg E wi it):BB K mg E wi it:=fun H0 B H σ γ R X Q env p q qx=>
 h H0 B H σ γ R X Q env p (fun n item J H1 hR S1 ok=>q n item J H1 hR S1 ⟨fun i H' Z' hi _ lt=>ok.go i H' Z' hi lt,fun H' Z' _ lt=>ok.stop H' Z' lt⟩) qx
def pILc(a:PTE):PTI:=fun γ R X=>a γ (fun s=>match s.d with
 | .lst ds=>R ds.length fun i=>s.sub (ds.getD i .non)
 | .tup ds=>False
 | .scr ns=>R ns.length fun i=>.sh (.int (ns.getD i 0))
 |_=>False) X
def UW{te:TE}{a:PTE}(ha:SndE K mg E te a):BB K mg E (N7 K te) (pILc a):=by
 intro H0 B H σ γ R X Q env h q qx;refine ha H0 B H σ γ _ X _ env h (fun s v H1 h1 S1 t1=>?_) qx;have env1:=env.grow S1;split at h1
 ·rename_i ds ed;have rv:=t1.rp env1.same;rw[ed]at rv;obtain⟨l,vs,rfl,hl1,r1⟩:=rv.lst_inv;refine⟨l,rfl,⟨vs,SqL.of hl1⟩,q _ _ _ H1 h1 S1 ⟨fun i H' Z' hi S2 lt=>?_,fun H' Z' S2 lt=>⟨vs,SqL.of (S2 _ _ hl1),by rw[r1.len];exact Yr _⟩⟩⟩;have hd:ds[i]?=some (ds.getD i .non):=by rw[Y1,Yj hi];rfl
  have hi':∃u,vs[i]?=some u/\TV K Z' H0 H' H' (s.sub (ds.getD i .non)) u:=by
   cases s with
   |bor d=>
    have t1:=Rp.strip t1;rw[show d.strip=.lst ds from ed]at t1
    obtain⟨l',vs',e',h3,r3⟩:=Rp.lst_inv t1;cases e'
    rw[env1.same _ _ h3]at hl1;cases hl1
    obtain⟨u,h4,h5⟩:=r3.get hd;exact⟨u,h4,argR lt.2.1 lt.1 h5⟩
   |sh d=>
    have:d=.lst ds:=ed
    subst this;obtain⟨l',vs',e',h3,r3⟩:=Rp.lst_inv t1;cases e'
    rw[off_sub _ _ h3]at hl1;cases hl1
    obtain⟨u,h4,h5⟩:=r3.get hd;exact⟨u,h4,Rp.mono lt.off h5⟩
   |own es=>
    cases es with
    |dK es=>cases ed
    |dT es=>cases ed
    |ins x C xs cs=>cases ed
    |nst cs=>cases ed
    |nsl x cs=>
     obtain⟨u,h4,h5⟩:=r1.get hd;exact⟨u,h4,XX lt.2.1 (Rp.mono S2 h5)⟩
    |lsA x es=>
     cases ed
     obtain⟨l',e',h0,_,vs',h3,r3⟩:=t1;cases e'
     rw[h3]at hl1;cases hl1
     obtain⟨u,h4,h5⟩:=r3.get hd;exact⟨u,h4,Rp.mono lt.off (Rp.mono (JV (Same.refl _) fun b _ _ z y=>z (.inl y)) h5)⟩
    |lst es=>
    cases ed
    obtain⟨l',e',h0,vs',h3,r3⟩:=t1;cases e'
    rw[h3]at hl1;cases hl1
    obtain⟨u,h4,h5⟩:=r3.get hd;exact⟨u,h4,Rp.mono lt.off (Rp.mono (JV (Same.refl _) fun b _ _ z y=>z (.inl y)) h5)⟩
   |view es=>
    cases es with
    |dK es=>cases ed
    |dT es=>cases ed
    |ins x C xs cs=>cases ed
    |nst cs=>cases ed
    |nsl x cs=>
     obtain⟨u,h4,h5⟩:=r1.get hd;exact⟨u,h4,XX lt.2.1 (Rp.mono S2 h5)⟩
    |lsA x es=>
     cases ed
     obtain⟨l',e',_,vs',h3,r3⟩:=t1;cases e'
     rw[h3]at hl1;cases hl1
     obtain⟨u,h4,h5⟩:=r3.get hd;exact⟨u,h4,Rp.mono lt.off h5⟩
    |lst es=>
    cases ed
    obtain⟨l',e',vs',h3,r3⟩:=t1;cases e'
    rw[h3]at hl1;cases hl1
    obtain⟨u,h4,h5⟩:=r3.get hd;exact⟨u,h4,Rp.mono lt.off h5⟩
   |tmp d=>
    have:d=.lst ds:=ed
    subst this;obtain⟨l',vs',e',h3,r3⟩:=Rp.lst_inv t1;cases e'
    rw[h3]at hl1;cases hl1
    obtain⟨u,h4,h5⟩:=r3.get hd;exact⟨u,h4,XX lt.2.1 (Rp.mono S2 h5)⟩
  obtain⟨u,hu,tu⟩:=hi';refine⟨⟨vs,u,SqL.of (S2 _ _ hl1),hu⟩,fun x H'' y=>?_⟩;obtain⟨rfl,y⟩:=y
  have:=y vs (SqL.of (S2 _ _ hl1))
  rw[hu]at this;cases this
  exact⟨Same.refl _,tu⟩
 ·exact h1.elim
 ·rename_i ns ed;have rv:=t1.rp env1.same;rw[ed]at rv;cases rv with
  |scr hs=>
   refine⟨_,rfl,⟨_,hs⟩,q _ _ _ H1 h1 S1 ⟨fun i H' Z' hi S2 lt=>?_,fun H' Z' S2 lt=>⟨_,S2.seq hs,by rw[Yi];exact Yr _⟩⟩⟩
   have hu:(ns.map V.int)[i]?=some (.int (ns.getD i 0)):=by
    rw[Yw,Yj hi,Y1,Yj hi];rfl
   refine⟨⟨_,_,S2.seq hs,hu⟩,fun x H'' y=>?_⟩;obtain⟨rfl,y⟩:=y
   have:=y _ (S2.seq hs)
   rw[hu]at this;cases this
   exact⟨Same.refl _,.int _⟩
 ·exact h1.elim
def U3{φ:List (Option Nat)}{is:List Nat}{wi:TI}{g:TG}{tc:TT}{te:TE}{it:PTI}{pg:PTG}{c:PTT}{a:PTE}(hi:BB K mg E wi it)(hg:Pg K is g pg)(hc:SndT K mg E tc c)(he:SndE K mg E te a)(h1:(φ.filterMap id).Nodup:=by decide)(h2:∀j∈is,φ[j]?=some none:=by decide):SndE K mg E (NU φ wi g tc te) (RH φ it pg c a):=by
 intro H0 B H σ γ R X Q env h q qx;refine hi H0 B H σ γ _ X _ env h (fun n item J H1 h1' S1 ok=>?_) qx;obtain⟨hn,f,hf,hR⟩:=h1'.w;have env1:=env.grow S1;have hbig:n<=sizeLine:=Yy hn (by decide);intro L nL;refine⟨fun i m ys H2=>m=n-i/\i<=n/\Same H1 H2/\H2 L=some (.lst ys)/\Rps K (off (fun b=>zof B γ σ b\/b=L) H2) ((List.range i).filterMap f) ys,⟨n,by simp,Wr _,U0 nL,Ug,.nil⟩,?_⟩;rintro i m ys H2 ⟨rfl,hin,S2,hL,hys⟩;have env2:=env1.grow S2;by_cases hlt:i<n
 ·have envI2:=Zbt (φ:=φ) env1 S2 nL ⟨ys,hL⟩ h1;obtain⟨go,yl⟩:=ok.go i H2 _ hlt S2 ⟨env2.same,envI2.zm,fun b o hb z=>⟨S2 _ _ hb,Cd env1 nL b o hb z⟩⟩;refine .inr ⟨go,fun x H3 y=>?_⟩;obtain⟨S3,tv⟩:=yl x H3 y;refine hg H0 _ H2 H3 _ _ _ _ _ _ envI2 S3 tv (hf i hlt) fun σ2 γ2 p2 e2 f2 k2=>⟨?_,?_⟩
  ·refine Sub.of (is:=is) k2.2 k2.1 fun j hj v z=>?_;obtain⟨k,k1,_⟩:=Eg z;rw[h2 j hj]at k1;cases k1
  ·refine hc H0 _ H3 σ2 γ2 _ _ _ e2 p2 (fun b H5 q5 S5=>?_) fun _ _ z=>z.elim;have e5:=e2.grow S5;cases b with
   |false=>
    rw[Yo Y7]at q5 ⊢;refine⟨n-(i+1),by omega,rfl,hlt,(S2.trans S3).trans S5,(S3.trans S5) _ _ hL,?_⟩;rw[List.range_succ,Qp];simp only[WC,q5,List.filterMap_nil,YW];exact Rps.mono (JV (S3.trans S5) fun _ _ _ z=>z) hys
   |true=>
    rw[Yn rfl]at q5 ⊢;refine he H0 _ H5 σ2 γ2 _ _ _ e5 q5 (fun s v H6 q6 S6 t6=>?_) fun _ _ z=>z.elim;obtain⟨d,hd,hfd⟩:=q6;have S26:=(S3.trans S5).trans S6;have hr:=t6.shd (e5.grow S6).same e5.zm S6 hd
    have hlen:ys.length<=i:=by
     rw[hys.len];exact Yy (List.length_filterMap_le _ _) (by rw[List.length_range];exact Yr _)
    refine⟨S26 _ _ hL,by omega,n-(i+1),by omega,rfl,hlt,fun b o hb=>?_,Ug,?_⟩
    ·rw[JI (U8 hb nL)];exact S26 _ _ (S2 _ _ hb)
    ·rw[List.range_succ,Qp];have ef:[i].filterMap f=[d]:=by simp[hfd]
     rw[ef]
     have So:Same (off (fun b=>zof B γ σ b\/b=L) H6) (off (fun b=>zof B γ σ b\/b=L) (upd H6 L (.lst (ys++[v])))):=fun b o h=>by
      obtain⟨a1,a2⟩:=XJ h;refine Ur ?_ a2;rw[JI fun z=>a2 (.inr z)];exact a1
     refine Rps.append (Rps.mono So (Rps.mono (JV S26 fun _ _ _ z=>z) hys)) (.cons (Rp.mono So (Rp.mono (JV (Same.refl _) fun b _ _ z y=>z (.inl y)) hr)) .nil)
 ·have:i=n:=by omega
  subst this;exact .inl ⟨ok.stop H2 _ S2 (Later.of env2 (Fr.grow S2)),q _ _ H2 hR (S1.trans S2) ⟨L,rfl,(fun _ e=>e▸S1.free nL),ys,hL,hys⟩⟩
def pYes:PTT:=fun _ R _=>R true
def Kg:SndT K mg E Gw pYes:=fun _ _ H _ _ _ _ _ _ p q _=>q _ H p (Same.refl _)
def Zep{α β:Type}(xs:List α)(f:α->Option β):(List.range xs.length).filterMap (fun i=>(xs[i]?).bind f)=xs.filterMap f:=by
 induction xs with
 |nil=>rfl
 |cons x r ih=>
  rw[Y6,List.range_succ_eq_map,WC,List.filterMap_map,WC]
  have e:(fun i=>((x::r)[i]?).bind f)∘Nat.succ=fun i=>(r[i]?).bind f:=by
   funext i;simp
  rw[e,ih];rfl
end
open M
section
variable {K:Za}{mg:Str->Option Value}{E:L2.St->XK}{H0 H H1 H':Hp}{B Z Z':Addr->Prop}{σ:L2.St}{γ:Γ}
def pCB(f:List S->(S->Prop)->Prop)(r:PTA):PTE:=fun γ R X=>r γ (fun ss=>f ss R) X
def XI{rr:List V->Hp->VK->Prop}{f:List S->(S->Prop)->Prop}{ta:TA}{r:PTA}(hr:SndA K mg E ta r)(h:∀(H0 H H1:Hp) (Z:Addr->Prop) (ss:List S) (vs:List V) (R:S->Prop) (Q:VK),Same H0 H1->Same H H1->(∀b,Z b->Mut (H b))->TVs K Z H0 H H1 ss vs->f ss R->(∀s z H',R s->Same H1 H'->TV K Z H0 H H' s z->Q z H')->rr vs H1 Q) :
  SndE K mg E (tCB rr ta) (pCB f r):=by
 intro H0 B H σ γ R X Q env p q qx;refine hr H0 B H σ γ _ X _ env p (fun ss vs H1 h1 S1 t1=>?_) qx;exact h H0 H H1 _ ss vs R Q (env.grow S1).same S1 env.zm t1 h1 fun s z H' hs S2 tv=>q s z H' hs (S1.trans S2) tv
def S.free:S->List D->Bool
 | .bor _,ds=>imms ds | .tmp _,ds=>imms ds | .view (.nst _),ds=>imms ds | .view (.nsl _ _),ds=>imms ds|_,_=>true
def TVs.one_inv {s:S}{vs:List V} (h:TVs K Z H0 H H' [s] vs):∃v,vs=[v]/\TV K Z H0 H H' s v:=by
 cases h with
 |cons h r=>cases r;exact⟨_,rfl,h⟩
def TVs.two_inv {s t:S}{vs:List V} (h:TVs K Z H0 H H' [s,t] vs):∃v u,vs=[v,u]/\TV K Z H0 H H' s v/\TV K Z H0 H H' t u:=by
 cases h with
 |cons h r=>cases r with|cons h2 r=>cases r;exact⟨_,_,rfl,h,h2⟩
def TV.items {s:S}{v:V}{ds:List D} (h0:Same H0 H') (hm:∀b,Z b->Mut (H b)) (S1:Same H H') (h:TV K Z H0 H H' s v) (hf:s.free ds=true) :
  (s.d=.lst ds->∃a vs,v=.ref a/\H' a=some (.lst vs)/\Rps K (off Z H') ds vs)/\(s.d=.tup ds->∃a vs,v=.ref a/\H' a=some (.tup vs)/\Rps K (off Z H') ds vs):=by
 have hm':∀b,Z b->Mut (H' b):=fun b z=>XT S1 (hm b z);cases s with
 |bor d=>
  have h:=Rp.strip h;refine⟨fun e=>?_,fun e=>?_⟩<;>rw[show d.strip=_ from e]at h
  ·obtain⟨a,vs,rfl,h1,r⟩:=Rp.lst_inv h;exact⟨a,vs,rfl,h0 _ _ h1,Rps.off hm' (Rps.mono h0 r) hf⟩
  ·obtain⟨a,vs,rfl,h1,r⟩:=Rp.tup_inv h;exact⟨a,vs,rfl,h0 _ _ h1,Rps.off hm' (Rps.mono h0 r) hf⟩
 |sh d=>
  refine⟨fun e=>?_,fun e=>?_⟩<;>(have e':d=_:=e;subst e')
  ·obtain⟨a,vs,rfl,h1,r⟩:=Rp.lst_inv h;exact⟨a,vs,rfl,off_sub _ _ h1,r⟩
  ·obtain⟨a,vs,rfl,h1,r⟩:=Rp.tup_inv h;exact⟨a,vs,rfl,off_sub _ _ h1,r⟩
 |own es=>
  cases es with
  |dK es=>exact⟨(fun e=>by cases e),(fun e=>by cases e)⟩
  |dT es=>exact⟨(fun e=>by cases e),(fun e=>by cases e)⟩
  |ins x C xs cs=>exact⟨(fun e=>by cases e),(fun e=>by cases e)⟩
  |nsl x cs=>
   refine⟨fun e=>?_,fun e=>by cases e⟩;have h2:=h.shd h0 hm S1 (d:=.lst (cs.map fun c=>.lst c.2)) rfl;cases e
   obtain⟨a,vs,rfl,h1,r⟩:=Rp.lst_inv h2;exact⟨a,vs,rfl,off_sub _ _ h1,r⟩
  |nst cs=>
   refine⟨(fun e=>by cases e),fun e=>?_⟩;have h2:=h.shd h0 hm S1 (d:=.tup (cs.map fun c=>.lst c.2)) rfl;cases e
   obtain⟨a,vs,rfl,h1,r⟩:=Rp.tup_inv h2;exact⟨a,vs,rfl,off_sub _ _ h1,r⟩
  |lst es=>
   refine⟨fun e=>?_,fun e=>by cases e⟩;cases e
   obtain⟨a,rfl,e0,vs,e,r⟩:=h;exact⟨a,vs,rfl,e,Rps.mono (JV (Same.refl _) fun b _ _ z y=>z (.inl y)) r⟩
  |lsA x es=>
   refine⟨fun e=>?_,fun e=>by cases e⟩;cases e
   obtain⟨a,rfl,e0,_,vs,e,r⟩:=h;exact⟨a,vs,rfl,e,Rps.mono (JV (Same.refl _) fun b _ _ z y=>z (.inl y)) r⟩
 |view es=>
  cases es with
  |dK es=>exact⟨(fun e=>by cases e),(fun e=>by cases e)⟩
  |dT es=>exact⟨(fun e=>by cases e),(fun e=>by cases e)⟩
  |ins x C xs cs=>exact⟨(fun e=>by cases e),(fun e=>by cases e)⟩
  |nsl x cs=>
   refine⟨fun e=>?_,fun e=>by cases e⟩;have h2:=h.rp h0;rw[e]at h2;obtain⟨a,vs,rfl,h1,r⟩:=Rp.lst_inv h2;exact⟨a,vs,rfl,h1,Rps.off hm' r hf⟩
  |nst cs=>
   refine⟨(fun e=>by cases e),fun e=>?_⟩;have h2:=h.rp h0;rw[e]at h2;obtain⟨a,vs,rfl,h1,r⟩:=Rp.tup_inv h2;exact⟨a,vs,rfl,h1,Rps.off hm' r hf⟩
  |lst es=>
   refine⟨fun e=>?_,fun e=>by cases e⟩;cases e
   obtain⟨a,rfl,vs,e,r⟩:=h;exact⟨a,vs,rfl,e,r⟩
  |lsA x es=>
   refine⟨fun e=>?_,fun e=>by cases e⟩;cases e
   obtain⟨a,rfl,_,vs,e,r⟩:=h;exact⟨a,vs,rfl,e,r⟩
 |tmp d=>
  refine⟨fun e=>?_,fun e=>?_⟩<;>(have e':d=_:=e;subst e')
  ·obtain⟨a,vs,rfl,h1,r⟩:=Rp.lst_inv h;exact⟨a,vs,rfl,h1,Rps.off hm' r hf⟩
  ·obtain⟨a,vs,rfl,h1,r⟩:=Rp.tup_inv h;exact⟨a,vs,rfl,h1,Rps.off hm' r hf⟩
def fLen:List S->(S->Prop)->Prop
 |[s],R=>(match s.d with
  | .lst ds=>R (.sh (.int ds.length)) | .tup ds=>R (.sh (.int ds.length)) | .scr ns=>R (.sh (.int ns.length)) | .fL ns=>R (.sh (.int ns.length)) | .str x=>x.length<=sizeLine/\R (.sh (.int x.length))|_=>False)
 |_,_=>False
def U1{ta:TA}{r:PTA}(hr:SndA K mg E ta r):SndE K mg E (tCB (fun xs H Q=>∃x n,xs=[x]/\LenV K x H n/\Q (.int n) H) ta) (pCB fLen r):=by
 refine XI hr fun H0 H H1 Z ss vs R Q s0 s1 hm tv h q=>?_;unfold fLen at h;split at h
 ·rename_i s;obtain⟨v,rfl,t1⟩:=tv.one_inv;have rv:=t1.rp s0;split at h
  ·rename_i ds e;rw[e]at rv;obtain⟨a,us,rfl,h1,r1⟩:=rv.lst_inv;exact⟨_,_,rfl,.inl ⟨us,SqL.of h1,rfl⟩,by rw[r1.len];exact q _ _ H1 h (Same.refl _) (.int _)⟩
  ·rename_i ds e;rw[e]at rv;obtain⟨a,us,rfl,h1,r1⟩:=rv.tup_inv;exact⟨_,_,rfl,.inr ⟨us,SqT.of h1,rfl⟩,by rw[r1.len];exact q _ _ H1 h (Same.refl _) (.int _)⟩
  ·rename_i ns e;rw[e]at rv;cases rv with
   |scr hs=>exact⟨_,_,rfl,.inl ⟨_,hs,rfl⟩,by rw[Yi];exact q _ _ H1 h (Same.refl _) (.int _)⟩
  ·rename_i ns e;rw[e]at rv;cases rv with
   |fL hs=>exact⟨_,_,rfl,.inl ⟨_,.inl (.inr ⟨_,hs⟩),rfl⟩,by rw[Yi];exact q _ _ H1 h (Same.refl _) (.int _)⟩
  ·rename_i x e;rw[e]at rv;rw[rv.str_inv];exact⟨_,_,rfl,⟨h.1,rfl⟩,q _ _ H1 h.2 (Same.refl _) (.int _)⟩
  ·exact h.elim
 ·exact h.elim
def As:List S->(S->Prop)->Prop
 |[s],R=>(match s.d with
  | .lst ds=>s.free ds=true/\R (.own ds) | .tup ds=>s.free ds=true/\R (.own ds)|_=>False)
 |_,_=>False
def PR{ta:TA}{r:PTA}(hr:SndA K mg E ta r):SndE K mg E (tCB (fun xs H Q=>∃p ys,xs=[.ref p]/\(SqL K H p ys\/SqT K H p ys)/\∀l,H l=none->Q (.ref l) (upd H l (.lst ys))) ta) (pCB As r):=by
 refine XI hr fun H0 H H1 Z ss vs R Q s0 s1 hm tv h q=>?_;unfold As at h;split at h
 ·rename_i s;obtain⟨v,rfl,t1⟩:=tv.one_inv;split at h
  ·rename_i ds e;obtain⟨a,us,rfl,h1,r1⟩:=(t1.items s0 hm s1 h.1).1 e;exact⟨a,us,rfl,.inl (SqL.of h1),fun l nl=>q _ _ _ h.2 (U0 nl) (KW s1 nl r1)⟩
  ·rename_i ds e;obtain⟨a,us,rfl,h1,r1⟩:=(t1.items s0 hm s1 h.1).2 e;exact⟨a,us,rfl,.inr (SqT.of h1),fun l nl=>q _ _ _ h.2 (U0 nl) (KW s1 nl r1)⟩
  ·exact h.elim
 ·exact h.elim
def Dz:List S->(S->Prop)->Prop
 |[s],R=>(match s.d with
  | .lst ds=>s.free ds=true/\R (.sh (.tup ds)) | .tup ds=>s.free ds=true/\R (.sh (.tup ds))|_=>False)
 |_,_=>False
def D2{ta:TA}{r:PTA}(hr:SndA K mg E ta r):SndE K mg E (tCB (fun xs H Q=>∃p ys,xs=[.ref p]/\((SqL K H p ys/\∀l,H l=none->Q (.ref l) (upd H l (.tup ys)))\/(SqT K H p ys/\Q (.ref p) H))) ta) (pCB Dz r):=by
 refine XI hr fun H0 H H1 Z ss vs R Q s0 s1 hm tv h q=>?_;have hm':∀b,Z b->Mut (H1 b):=fun b z=>XT s1 (hm b z);unfold Dz at h;split at h
 ·rename_i s;obtain⟨v,rfl,t1⟩:=tv.one_inv;split at h
  ·rename_i ds e;obtain⟨a,us,rfl,h1,r1⟩:=(t1.items s0 hm s1 h.1).1 e;refine⟨a,us,rfl,.inl ⟨SqL.of h1,fun l nl=>q _ _ _ h.2 (U0 nl) (.tup (Ur Ug fun z=>?_) (Rps.mono (JV (U0 nl) fun _ _ _ z=>z) r1))⟩⟩
   have:=hm' l z
   rw[nl]at this;exact this
  ·rename_i ds e;obtain⟨a,us,rfl,h1,r1⟩:=(t1.items s0 hm s1 h.1).2 e;refine⟨a,us,rfl,.inr ⟨SqT.of h1,q _ _ _ h.2 (Same.refl _) (.tup (Ur h1 fun z=>?_) r1)⟩⟩
   have:=hm' a z
   rw[h1]at this;exact this
  ·exact h.elim
 ·exact h.elim
def Rps.ints {K:Za}{H:Hp}:∀{js:List Int}{vs:List V},Rps K H (js.map D.int) vs->vs=js.map V.int
 |[],_,.nil=>rfl
 |j::r,_,.cons h t=>by rw[Rp.int_inv h,Rps.ints t];rfl
def Rps.of_ints {K:Za}{H:Hp}:∀(js:List Int),Rps K H (js.map D.int) (js.map V.int)
 |[]=>.nil
 |j::r=>.cons (.int j) (Rps.of_ints r)
def AG:List S->(S->Prop)->Prop
 |[s],R=>∃js:List Int,s.d=.lst (js.map D.int)/\js.length<64/\∀ns:List Int,ns.Perm js->ns.Pairwise (·<=·)->R (.own (ns.map D.int))
 |_,_=>False
def N2{w:World}{ta:TA}{r:PTA}(hr:SndA K mg E ta r):SndE K mg E (tCB (fun xs H Q=>∃(p:Addr) (js:List Int),xs=[.ref p]/\js.length<64/\(SqL K H p (js.map V.int)\/H p=some (SetH w p js))/\
  ∀(l:Addr) (ns:List Int),H l=none->ns.Perm js->ns.Pairwise (·<=·)->Q (.ref l) (upd H l (.lst (ns.map V.int)))) ta) (pCB AG r):=by
 refine XI hr fun H0 H H1 Z ss vs R Q s0 s1 hm tv h q=>?_;unfold AG at h;split at h
 ·rename_i s;obtain⟨v,rfl,t1⟩:=tv.one_inv;obtain⟨js,e,hz,k⟩:=h;have rv:=t1.rp s0;rw[e]at rv;obtain⟨a,us,rfl,h1,r1⟩:=rv.lst_inv;rw[r1.ints]at h1;exact⟨a,js,rfl,hz,.inl (SqL.of h1),fun l ns nl hp hs=>q _ _ _ (k ns hp hs) (U0 nl) (KW s1 nl (Rps.of_ints ns))⟩
 ·exact h.elim
def G7:List S->(S->Prop)->Prop
 |[s,t],R=>(match s.d,t.d with | .int i,.int j=>R (.sh (.int (if j>i then j else i)))|_,_=>False)
 |_,_=>False
def Da{ta:TA}{r:PTA}(hr:SndA K mg E ta r):SndE K mg E (tCB (fun xs H Q=>∃i j,xs=[.int i,.int j]/\Q (.int (if j>i then j else i)) H) ta) (pCB G7 r):=by
 refine XI hr fun H0 H H1 Z ss vs R Q s0 s1 hm tv h q=>?_;unfold G7 at h;split at h
 ·obtain⟨v,u,rfl,t1,t2⟩:=tv.two_inv;have r1:=t1.rp s0;have r2:=t2.rp s0;split at h
  ·rename_i i j e1 e2;rw[e1]at r1;rw[e2]at r2;rw[r1.int_inv,r2.int_inv];exact⟨i,j,rfl,q _ _ H1 h (Same.refl _) (.int _)⟩
  ·exact h.elim
 ·exact h.elim
def fAbs:List S->(S->Prop)->Prop
 |[s],R=>(match s.d with | .int i=>R (.sh (.int (if i<0 then -i else i)))|_=>False)
 |_,_=>False
def tyD:D->Option String
 | .int _=>some "int" | .bl _=>some "bool" | .non=>some "NoneType" | .str _=>some "str" | .tup _=>some "tuple" | .lst _=>some "list" | .fL _=>some "list" | .dK _=>some "dict" | .dT _=>some "dict" |_=>none
inductive IsiR:String->String->Bool->Prop
 |same (n:String):IsiR n n true
 |ib:IsiR "int" "bool" false
 |bi:IsiR "bool" "int" true
 |tl:IsiR "tuple" "list" false
 |lt:IsiR "list" "tuple" false
 |it:IsiR "int" "tuple" false
 |il:IsiR "int" "list" false
 |bt:IsiR "bool" "tuple" false
 |bL:IsiR "bool" "list" false
 |ti:IsiR "tuple" "int" false
 |li:IsiR "list" "int" false
 |si:IsiR "str" "int" false
 |is:IsiR "int" "str" false
 |ni:IsiR "NoneType" "int" false
 |nl:IsiR "NoneType" "list" false
 |nt:IsiR "NoneType" "tuple" false
def IsiR.kit {m n:String}{b:Bool} (h:IsiR m n b):PySem.W.kitOne K (.type m) (.type n)=some b:=by
 cases h with
 |same=>exact OM K _
 |_=>rfl
def fIsi:List S->(S->Prop)->Prop
 |[s,t],R=>(match tyD s.d,t.d with|some m,.ty n=>∃b,IsiR m n b/\R (.sh (.bl b))|_,_=>False)
 |_,_=>False
def Za1{d:D}{v:V}{m:String}(h:Rp K H d v)(e:tyD d=some m):TyOf K H v (.type m):=by
 cases h with
 |int i=>cases e;exact .int i
 |bl b=>cases e;exact .bl b
 |non=>cases e;exact .non
 |str x=>cases e;exact .str x
 |ty n=>cases e
 |tup h r=>cases e;exact .tup h
 |lst h r=>cases e;exact .lst h
 |scr h=>cases e
 |dK h=>cases e;exact .dK h
 |dT h=>cases e;exact .dT h
 |dF h=>cases e
 |loc h=>cases e
 |err h=>cases e
 |ref a=>cases e
 |erM _ _ _=>cases e
 |fL h=>cases e;exact .frz h
 |ins h q r=>cases e
def TQ{ta:TA}{r:PTA}(hr:SndA K mg E ta r):SndE K mg E (tCB (fun xs H Q=>∃x n t b,xs=[x,.ty n]/\TyOf K H x t/\PySem.W.kitOne K t (.type n)=some b/\Q (.bl b) H) ta) (pCB fIsi r):=by
 refine XI hr fun H0 H H1 Z ss vs R Q s0 s1 hm tv h q=>?_;unfold fIsi at h;split at h
 ·obtain⟨v,u,rfl,t1,t2⟩:=tv.two_inv;have r1:=t1.rp s0;have r2:=t2.rp s0;split at h
  ·rename_i m n e1 e2;rw[e2]at r2;rw[r2.ty_inv];obtain⟨b,k,hR⟩:=h;exact⟨v,n,_,b,rfl,Za1 r1 e1,k.kit,q _ _ H1 hR (Same.refl _) (.bl _)⟩
  ·exact h.elim
 ·exact h.elim
def pBM(f:S->List S->(S->Prop)->Prop)(a:PTE)(r:PTA):PTE:=fun γ R X=>a γ (fun s=>(∃ds,s.d=.lst ds)/\r γ (fun ss=>f s ss R) X) X
def Hz{rr:V->List V->Hp->VK->Prop}{f:S->List S->(S->Prop)->Prop}{te:TE}{ta:TA}{a:PTE}{r:PTA}(ha:SndE K mg E te a)(hr:SndA K mg E ta r)(h:∀(H0 H H1:Hp) (Z:Addr->Prop) (s:S) (v:V) (ss:List S) (vs:List V) (R:S->Prop) (Q:VK),Same H0 H1->Same H H1->(∀b,Z b->Mut (H b))->TV K Z H0 H H1 s v->TVs K Z H0 H H1 ss vs->f s ss R->(∀s z H',R s->Same H1 H'->TV K Z H0 H H' s z->Q z H')->rr v vs H1 Q) :
  SndE K mg E (tBM K "list" rr te ta) (pBM f a r):=by
 intro H0 B H σ γ R X Q env p q qx;refine ha H0 B H σ γ _ X _ env p (fun s v H1 h1 S1 t1=>?_) qx;have env1:=env.grow S1;obtain⟨⟨ds,ed⟩,h1⟩:=h1;have rv:=t1.rp env1.same;rw[ed]at rv;obtain⟨l,us,rfl,hl,_⟩:=rv.lst_inv;refine⟨.inl ⟨rfl,us,SqL.of hl⟩,hr H0 B H1 σ γ _ X _ env1 h1 (fun ss vs H2 h2 S2 t2=>?_) fun c H' hc S'=>qx c H' hc (S1.trans S')⟩;exact h H0 H H2 _ s _ ss vs R Q (env1.grow S2).same (S1.trans S2) env.zm (t1.grow S2) (TVs.weakG S1 t2) h2 fun s z H' hs S3 tv=>q s z H' hs ((S1.trans S2).trans S3) tv
def EA:S->List S->(S->Prop)->Prop:=fun s ss R=>match ss with
 |[t]=>(match t.d with | .int z=>∃xs:List Int,s.d=.lst (xs.map D.int)/\z∈xs/\R (.sh (.int (xs.idxOf z:Nat)))|_=>False)
 |_=>False
def Gs{te:TE}{ta:TA}{a:PTE}{r:PTA}(ha:SndE K mg E te a)(hr:SndA K mg E ta r):SndE K mg E (tBM K "list" (B7 K) te ta) (pBM EA a r):=by
 refine Hz ha hr fun H0 H H1 Z s v ss vs R Q s0 s1 hm t1 t2 h q=>?_;unfold EA at h;split at h
 ·obtain⟨u,rfl,t2'⟩:=t2.one_inv;have r2:=t2'.rp s0;split at h
  ·rename_i z e;rw[e]at r2;obtain⟨xs,ex,hz,hR⟩:=h;have r1:=t1.rp s0;rw[ex]at r1;obtain⟨l,us,rfl,hl,r1⟩:=r1.lst_inv;rw[r1.ints]at hl;exact⟨l,xs,z,rfl,by rw[r2.int_inv],SqL.of hl,hz,q _ _ H1 hR (Same.refl _) (.int _)⟩
  ·exact h.elim
 ·exact h.elim
def prD(p:Int×Int):D:=.tup [.int p.1,.int p.2]
inductive InR:D->D->Bool->Prop
 |li (i:Int) (hs:List Int):InR (.int i) (.lst (hs.map D.int)) (decide (i∈hs))
 |ti (i:Int) (hs:List Int):InR (.int i) (.tup (hs.map D.int)) (decide (i∈hs))
 |lp (q:Int×Int) (ps:List (Int×Int)):InR (prD q) (.lst (ps.map prD)) (decide (q∈ps))
def fIn(neg:Bool):S->S->(S->Prop)->Prop:=fun x y R=>∃b,InR x.d y.d b/\R (.sh (.bl (if neg then !b else b)))
def Rp.pair {q:Int×Int}{v:V} (h:Rp K H (prD q) v):Xz H v q:=by
 obtain⟨a,vs,rfl,h1,r⟩:=Rp.tup_inv h;obtain⟨x,y,rfl,r1,r2⟩:=r.two_inv;rw[r1.int_inv,r2.int_inv]at h1;exact⟨a,rfl,h1⟩
def Rps.lv {K:Za}{H:Hp}{ps:List (Int×Int)}{vs:List V} (h:Rps K H (ps.map prD) vs):LV Xz H vs ps:=by
 refine⟨by rw[h.len,Yi],fun i p hp=>?_⟩;obtain⟨v,h1,h2⟩:=h.get (i:=i) (d:=prD p) (by rw[Yw,hp];rfl);exact⟨v,h1,h2.pair⟩
def UN{neg:Bool}{ta tb:TE}{a b:PTE}(ha:SndE K mg E ta a)(hb:SndE K mg E tb b):SndE K mg E (tOp (fun x y H Q=>rIn K neg x y H Q\/rInP neg x y H Q) ta tb) (p2 a b (fIn neg)):=by
 refine se_2 ha hb fun H0 H H2 Z x y v u R Q s0 s1 hm tx ty h q=>?_;obtain⟨k,hk,hR⟩:=h;have rx:=tx.rp s0;have ry:=ty.rp s0;generalize ex:x.d=dx at hk rx;generalize ey:y.d=dy at hk ry;cases hk with
 |li i hs=>
  obtain⟨l,us,rfl,hl,r⟩:=ry.lst_inv;rw[r.ints]at hl;rw[rx.int_inv];refine .inl ⟨l,_,rfl,.inl (SqL.of hl),rfl,Ky _,?_⟩;rw[Gj];exact q _ _ H2 hR (Same.refl _) (.bl _)
 |ti i hs=>
  obtain⟨l,us,rfl,hl,r⟩:=ry.tup_inv;rw[r.ints]at hl;rw[rx.int_inv];refine .inl ⟨l,_,rfl,.inr (SqT.of hl),rfl,Ky _,?_⟩;rw[Gj];exact q _ _ H2 hR (Same.refl _) (.bl _)
 |lp p ps=>
  obtain⟨l,us,rfl,hl,r⟩:=ry.lst_inv;exact .inr ⟨l,ps,p,rfl,rx.pair,⟨us,hl,r.lv⟩,q _ _ H2 hR (Same.refl _) (.bl _)⟩
def fEqU(neg:Bool):S->S->(S->Prop)->Prop:=fun x y R=>match x.d,y.d with
 | .lst ds,.lst es=>∃xs ys:List Int,ds=xs.map D.int/\es=ys.map D.int/\R (.sh (.bl (if neg then !decide (xs=ys)else decide (xs=ys))))
 |_,_=>fEq neg x y R
def Uo{ta tb:TE}{a b:PTE}(ha:SndE K mg E ta a)(hb:SndE K mg E tb b):SndE K mg E (tOp (fun x y H Q=>rEq x y H Q\/rEqL K false x y H Q) ta tb) (p2 a b (fEqU false)):=by
 refine se_2 ha hb fun H0 H H2 Z x y v u R Q s0 s1 hm tx ty h q=>?_;have rx:=tx.rp s0;have ry:=ty.rp s0;unfold fEqU at h;split at h
 ·rename_i ds es e1 e2;obtain⟨xs,ys,rfl,rfl,hR⟩:=h;rw[e1]at rx;rw[e2]at ry;obtain⟨l,us,rfl,hl,r⟩:=rx.lst_inv;obtain⟨m,ws,rfl,hm,r'⟩:=ry.lst_inv;rw[r.ints]at hl;rw[r'.ints]at hm;refine .inr ⟨l,m,_,_,rfl,rfl,SqL.of hl,SqL.of hm,Ky _,Ky _,?_⟩;rw[Ft];exact q _ _ H2 hR (Same.refl _) (.bl _)
 ·refine .inl ?_;unfold fEq at h;split at h
  ·rename_i i j e1 e2;rw[e1]at rx;rw[e2]at ry;rw[rx.int_inv,ry.int_inv];refine⟨rfl,?_⟩;rw[PX (f:=V.int) fun _ _ z=>V.int.inj z];exact q _ _ H2 h (Same.refl _) (.bl _)
  ·rename_i i j e1 e2;rw[e1]at rx;rw[e2]at ry;rw[rx.str_inv,ry.str_inv];refine⟨rfl,?_⟩;rw[PX (f:=V.str) fun _ _ z=>V.str.inj z];exact q _ _ H2 h (Same.refl _) (.bl _)
  ·rename_i i j e1 e2;rw[e1]at rx;rw[e2]at ry;rw[rx.bl_inv,ry.bl_inv];refine⟨rfl,?_⟩;rw[PX (f:=V.bl) fun _ _ z=>V.bl.inj z];exact q _ _ H2 h (Same.refl _) (.bl _)
  ·exact h.elim
def Px{ta tb:TE}{a b:PTE}(ha:SndE K mg E ta a)(hb:SndE K mg E tb b):SndE K mg E (tOp (fun x y H Q=>rNe x y H Q\/rEqL K true x y H Q) ta tb) (p2 a b (fEqU true)):=by
 refine se_2 ha hb fun H0 H H2 Z x y v u R Q s0 s1 hm tx ty h q=>?_;have rx:=tx.rp s0;have ry:=ty.rp s0;unfold fEqU at h;split at h
 ·rename_i ds es e1 e2;obtain⟨xs,ys,rfl,rfl,hR⟩:=h;rw[e1]at rx;rw[e2]at ry;obtain⟨l,us,rfl,hl,r⟩:=rx.lst_inv;obtain⟨m,ws,rfl,hm,r'⟩:=ry.lst_inv;rw[r.ints]at hl;rw[r'.ints]at hm;refine .inr ⟨l,m,_,_,rfl,rfl,SqL.of hl,SqL.of hm,Ky _,Ky _,?_⟩;rw[Ft];exact q _ _ H2 hR (Same.refl _) (.bl _)
 ·refine .inl ?_;unfold fEq at h;split at h
  ·rename_i i j e1 e2;rw[e1]at rx;rw[e2]at ry;rw[rx.int_inv,ry.int_inv];refine⟨rfl,?_⟩;rw[PX (f:=V.int) fun _ _ z=>V.int.inj z];exact q _ _ H2 h (Same.refl _) (.bl _)
  ·rename_i i j e1 e2;rw[e1]at rx;rw[e2]at ry;rw[rx.str_inv,ry.str_inv];refine⟨rfl,?_⟩;rw[PX (f:=V.str) fun _ _ z=>V.str.inj z];exact q _ _ H2 h (Same.refl _) (.bl _)
  ·rename_i i j e1 e2;rw[e1]at rx;rw[e2]at ry;rw[rx.bl_inv,ry.bl_inv];refine⟨rfl,?_⟩;rw[PX (f:=V.bl) fun _ _ z=>V.bl.inj z];exact q _ _ H2 h (Same.refl _) (.bl _)
  ·exact h.elim
abbrev tTru(K:Za)(ta:TE):TT:=fun σ H Q=>ta σ H fun x H'=>∃k,TruV K x H' k/\Q k H'
def pTru(a:PTE):PTT:=fun γ R X=>a γ (fun x=>match x.d with
 | .bl b=>R b | .lst ds=>R (!ds.isEmpty) | .tup ds=>R (!ds.isEmpty) | .int i=>R (i != 0) | .non=>R false|_=>False) X
def Bx{α β:Type}{l:List α}{m:List β}(h:l.length=m.length):l.isEmpty=m.isEmpty:=by
 cases l<;>cases m<;>simp at h ⊢
def UD{te:TE}{a:PTE}(ha:SndE K mg E te a):SndT K mg E (tTru K te) (pTru a):=by
 intro H0 B H σ γ R X Q env p q qx;refine ha H0 B H σ γ _ X _ env p (fun x v H1 h1 S1 t1=>?_) qx;have rx:=t1.rp (env.grow S1).same;split at h1
 ·rename_i b e;rw[e]at rx;rw[rx.bl_inv];exact⟨b,rfl,q _ H1 h1 S1⟩
 ·rename_i ds e;rw[e]at rx;obtain⟨l,us,rfl,hl,r⟩:=rx.lst_inv;exact⟨!us.isEmpty,.inl ⟨us,SqL.of hl,rfl⟩,by rw[Bx r.len];exact q _ H1 h1 S1⟩
 ·rename_i ds e;rw[e]at rx;obtain⟨l,us,rfl,hl,r⟩:=rx.tup_inv;exact⟨!us.isEmpty,.inr (.inl ⟨us,SqT.of hl,rfl⟩),by rw[Bx r.len];exact q _ H1 h1 S1⟩
 ·rename_i i e;rw[e]at rx;rw[rx.int_inv];exact⟨_,rfl,q _ H1 h1 S1⟩
 ·rename_i e;rw[e]at rx;rw[rx.non_inv];exact⟨_,rfl,q _ H1 h1 S1⟩
 ·exact h1.elim
def cutD{α:Type}(xs:List α)(lo hi:Option Int):List α:=(xs.drop (HT.sIx xs.length 0 lo)).take (HT.sIx xs.length xs.length hi-HT.sIx xs.length 0 lo)
def He:PTO:=fun _ R _=>R none
def L5(a:PTE):PTO:=fun γ R X=>a γ (fun s=>match s.d with | .int i=>R (some i)|_=>False) X
def X1:SndO K mg E AJ He:=fun _ _ H _ _ _ _ _ _ p q _=>q _ H p (Same.refl _)
def Xo{te:TE}{a:PTE}(ha:SndE K mg E te a):SndO K mg E (Cf te) (L5 a):=by
 intro H0 B H σ γ R X Q env p q qx;refine ha H0 B H σ γ _ X _ env p (fun x v H1 h1 S1 t1=>?_) qx;have rx:=t1.rp (env.grow S1).same;split at h1
 ·rename_i i e;rw[e]at rx;exact⟨i,rx.int_inv,q _ H1 h1 S1⟩
 ·exact h1.elim
def pSl(a:PTE)(l u:PTO):PTE:=fun γ R X=>a γ (fun s=>l γ (fun lo=>u γ (fun hi=>match s.d with | .lst ds=>s.free ds=true/\R (.own (cutD ds lo hi))|_=>False) X) X) X
def Rps.cut {ds:List D}{vs:List V}{lo hi:Option Int} (r:Rps K H ds vs):Rps K H (cutD ds lo hi) (cutV vs lo hi):=by
 unfold cutD cutV;rw[r.len];exact Rps.take _ (Rps.drop _ r)
def X7{te:TE}{tl th:TO}{a:PTE}{l u:PTO}(ha:SndE K mg E te a)(hl:SndO K mg E tl l)(hu:SndO K mg E th u):SndE K mg E (tSl (rSlL K) te tl th) (pSl a l u):=by
 intro H0 B H σ γ R X Q env p q qx;refine ha H0 B H σ γ _ X _ env p (fun x v H1 h1 S1 t1=>?_) qx;refine hl H0 B H1 σ γ _ X _ (env.grow S1) h1 (fun lo H2 h2 S2=>?_) fun c H' hc S'=>qx c H' hc (S1.trans S');refine hu H0 B H2 σ γ _ X _ ((env.grow S1).grow S2) h2 (fun hi H3 h3 S3=>?_) fun c H' hc S'=>qx c H' hc ((S1.trans S2).trans S');have S13:=(S1.trans S2).trans S3;split at h3
 ·rename_i ds e;obtain⟨b,us,rfl,hb,r⟩:=((t1.grow (S2.trans S3)).items (env.grow S13).same env.zm S13 h3.1).1 e;exact⟨b,us,rfl,SqL.of hb,fun m nm=>q _ _ _ h3.2 (S13.trans (U0 nm)) (KW S13 nm r.cut)⟩
 ·exact h3.elim
def fCat:S->S->(S->Prop)->Prop:=fun x y R=>match x.d,y.d with
 | .lst ds,.lst es=>x.free ds=true/\y.free es=true/\ds.length+es.length<=100000/\R (.own (ds++es))
 |_,_=>False
def Xl{ta tb:TE}{a b:PTE}(ha:SndE K mg E ta a)(hb:SndE K mg E tb b):SndE K mg E (tOp rCat ta tb) (p2 a b fCat):=by
 refine se_2 ha hb fun H0 H H2 Z x y v u R Q s0 s1 hm tx ty h q=>?_;unfold fCat at h;split at h
 ·rename_i ds es e1 e2;obtain⟨l,us,rfl,hl,r⟩:=(tx.items s0 hm s1 h.1).1 e1;obtain⟨m,ws,rfl,hm',r'⟩:=(ty.items s0 hm s1 h.2.1).1 e2;have hz:us.length+ws.length<=sizeLine:=by rw[r.len,r'.len];exact Yy h.2.2.1 (by decide)
  exact⟨l,m,us,ws,rfl,rfl,hl,hm',hz,fun p np=>q _ _ _ h.2.2.2 (U0 np) (KW s1 np (r.append r'))⟩
 ·exact h.elim
def AX(i:Nat)(a:PTE):PTS:=fun R γ=>match γ[i]? with
 |some (some (.own (.lst ds)))=>a γ (fun s=>match s.shd with
  |some d=>ds.length<10000000/\R.nx (γ.set i (some (.own (ds++[d]))))
  |none=>False) (R.ex γ)
 |some (some (.own (.lsA x ds)))=>a γ (fun s=>match s.shd with
  |some d=>ds.length<10000000/\R.nx (γ.set i (some (.own (.lsA x (ds++[d])))))
  |none=>False) (R.ex γ)
 |_=>False
def TB(i:Nat){te:TE}{a:PTE}(ha:SndE K mg E te a):SndS K mg E (NM (tBM K "list" SC (tVar i) (UH te tNil))) (AX i a):=by
 intro H0 B H σ γ R D hB env h e;unfold AX at h;split at h
 ·rename_i ds hi;obtain⟨v,hv,b,rfl,hb0,us,hb,rb⟩:=env.slot i _ hi;refine⟨_,hv,.inl ⟨rfl,us,SqL.of hb⟩,ha H0 B H σ γ _ _ _ env h (fun s u H1 h1 S1 t1=>?_) fun c H' hc S'=>e.ex σ γ c H' hc (env.grow S') (Fr.grow S')⟩;have env1:=env.grow S1;split at h1
  ·rename_i d e2;have rd:=t1.shd env1.same env.zm S1 e2;refine⟨b,us,u,rfl,rfl,S1 _ _ hb,by rw[rb.len];exact Qn h1.1 (by decide),?_⟩;obtain⟨e2,f2⟩:=env1.mutate (es:=.lst (ds++[d])) (us:=.lst (us++[u])) hi hv trivial fun F H' SF hF=>⟨_,hF,Rps.mono SF (Rps.append (Rps.mono (JV S1 fun _ _ _ z=>z) rb) (.cons rd .nil))⟩;exact e.nx _ _ _ h1.2 e2 ((Fr.grow S1).trans f2)
  ·exact h1.elim
 ·rename_i x ds hi;obtain⟨v,hv,b,rfl,hb0,rfl,us,hb,rb⟩:=env.slot i _ hi;refine⟨_,hv,.inl ⟨rfl,us,SqL.of hb⟩,ha H0 B H σ γ _ _ _ env h (fun s u H1 h1 S1 t1=>?_) fun c H' hc S'=>e.ex σ γ c H' hc (env.grow S') (Fr.grow S')⟩;have env1:=env.grow S1;split at h1
  ·rename_i d e2;have rd:=t1.shd env1.same env.zm S1 e2;refine⟨b,us,u,rfl,rfl,S1 _ _ hb,by rw[rb.len];exact Qn h1.1 (by decide),?_⟩;obtain⟨e2,f2⟩:=env1.mutate (es:=.lsA b (ds++[d])) (us:=.lst (us++[u])) hi hv trivial fun F H' SF hF=>⟨rfl,_,hF,Rps.mono SF (Rps.append (Rps.mono (JV S1 fun _ _ _ z=>z) rb) (.cons rd .nil))⟩;exact e.nx _ _ _ h1.2 e2 ((Fr.grow S1).trans f2)
  ·exact h1.elim
 ·exact h.elim
end
section
variable {X:Cx}{K:Za}
def X2(hu:X.A.in1.units<cLine)(hK:X.K=K:=by rfl):OpR X (compareOp .In) (fun x y H Q=>rIn K false x y H Q\/rInP false x y H Q):=(Zag hK).or (Zeg hu)
def TR(hu:X.A.in1.units<cLine)(hK:X.K=K:=by rfl):OpR X (compareOp .NotIn) (fun x y H Q=>rIn K true x y H Q\/rInP true x y H Q):=(Zah hK).or (Zed hu)
def TL(hu:X.A.units<cLine)(hK:X.K=K:=by rfl):OpR X (compareOp .Eq) (fun x y H Q=>rEq x y H Q\/rEqL K false x y H Q):=by subst hK;exact op_eq.or (Zbf hu)
def M2(hu:X.A.units<cLine)(hK:X.K=K:=by rfl):OpR X (compareOp .NotEq) (fun x y H Q=>rNe x y H Q\/rEqL K true x y H Q):=by subst hK;exact op_ne.or (Zbj hu)
def U2{e:Expr}{te:TE}(ha:PE X e te)(hK:X.K=K:=by rfl)(he:∀whole,isTrue e X.env whole=(do let v ←whole;standAt e.pos;holding [v] (truthy v)):=by intro _;rfl):PT X e (tTru K te):=by
 subst hK;exact LL ha he
def PY(hK:X.K=K:=by rfl):UJ X (.type "list") (fun xs H Q=>∃p ys,xs=[.ref p]/\(SqL K H p ys\/SqT K H p ys)/\∀l,H l=none->Q (.ref l) (upd H l (.lst ys))):=by subst hK;exact CT
def Eb(hK:X.K=K:=by rfl):UJ X (.type "tuple") (fun xs H Q=>∃p ys,xs=[.ref p]/\((SqL K H p ys/\∀l,H l=none->Q (.ref l) (upd H l (.tup ys)))\/(SqT K H p ys/\Q (.ref p) H))):=by subst hK;exact Zc8
def Ts(hK:X.K=K:=by rfl):UJ X (.builtin "isinstance") (fun xs H Q=>∃x n t b,xs=[x,.ty n]/\TyOf K H x t/\PySem.W.kitOne K t (.type n)=some b/\Q (.bl b) H):=by subst hK;exact HF
def Xx(hK:X.K=K:=by rfl):SlR X (rSlL K):=by subst hK;exact Lw
def Sd(hc:X.calm=true){w:World}(hK:X.K=K:=by rfl)(hw:X.w=w:=by rfl):UJ X (.builtin "sorted") (fun xs H Q=>∃(p:Addr) (js:List Int),xs=[.ref p]/\js.length<64/\(SqL K H p (js.map V.int)\/H p=some (SetH w p js))/\
  ∀(l:Addr) (ns:List Int),H l=none->ns.Perm js->ns.Pairwise (·<=·)->Q (.ref l) (upd H l (.lst (ns.map V.int)))):=by subst hK;subst hw;exact E8 hc
def Us{tg l:Expr}{tl:TE}(hl:PE X l tl)(hK:X.K=K:=by rfl):PI X tg l (N7 K tl):=by subst hK;exact A2 hl
end
section
variable {P:Program}{w:World}{K:Za}{mg:Str->Option Value}{base:Heap}{H H':Hp}
def OE{CX:CXT}{k:Nat}{x:Str}{ps:List Str}{sp:Sp}{c:Pc}(C:Callee P w K mg base CX k x ps sp)(h:∀ds R X vs H (Q:VK) (E:XK),Rps K H ds vs->c ds R X->(∀s v H',R s->Same H H'->TV K (fun b=>Mut (H b)) H H H' s v->Q v H')->(∀e H',X e->Same H H'->XE mg E e H')->sp vs H Q E) :
  Callee P w K mg base CX k x ps (spOf mg c K):=by
 obtain⟨f,fd,F,rest⟩:=C.ex;exact⟨f,fd,F.imp fun vs H Q E ⟨ds,R,X,r,hc,hQ,hX⟩=>h ds R X vs H Q E r hc hQ hX,rest⟩
def Rp.scr_inv {ns:List Int}{v:V} (h:Rp K H (.scr ns) v):∃a,v=.ref a/\SqL K H a (ns.map V.int):=by
 cases h with
 |scr h=>exact⟨_,rfl,h⟩
def Rp.ints_inv {ns:List Int}{v:V} (h:Rp K H (.lst (ns.map D.int)) v):∃a,v=.ref a/\H a=some (.lst (ns.map V.int)):=by
 obtain⟨a,vs,rfl,h1,r⟩:=h.lst_inv;rw[r.ints]at h1;exact⟨a,rfl,h1⟩
def Rp.pairs_inv {ps:List (Int×Int)}{v:V} (h:Rp K H (.lst (ps.map prD)) v):∃a,v=.ref a/\LAt Xz H a ps:=by
 obtain⟨a,vs,rfl,h1,r⟩:=h.lst_inv;exact⟨a,rfl,vs,h1,r.lv⟩
def Zcx{a:Addr}{ns:List Int}(n:H a=none)(h:H' a=some (.lst (ns.map V.int))):TV K (fun b=>Mut (H b)) H H H' (.own (ns.map D.int)) (.ref a):=⟨a,rfl,(fun _ e=>e▸n),_,h,Rps.of_ints ns⟩
def P2:∀(ns:List Int),imms (ns.map D.int)=true
 |[]=>by unfold List.map imms;rfl
 |n::r=>by rw[YH];unfold imms;rw[P2 r];unfold imm;rfl
def Md(p:Int×Int):imm (prD p)=true:=by unfold prD imm imms imm imms imm imms;rfl
def Kc:∀(ps:List (Int×Int)),imms (ps.map prD)=true
 |[]=>by unfold List.map imms;rfl
 |p::r=>by rw[YH];unfold imms;rw[Kc r,Md];rfl
def SW{α:Type}{f:α->D}{xs:List α}{i:Nat}(h:i<xs.length):(xs.map f).getD i .non=f xs[i]:=by
 rw[Y1,Yw,Yj h];rfl
def Po{α:Type}{f:α->D}{xs:List α}{i:Int}(h0:0<=i)(h:i<(xs.length:Int)):atI (xs.map f) i=some (f (xs[i.toNat]'(by omega))):=by
 have h':i.toNat<xs.length:=by omega
 exact Pe (Na h0 (Yj h'))
def T1{α:Type}{f:α->D}{xs:List α}{i:Nat}(h:i<xs.length):atI (xs.map f) (i:Int)=some (f xs[i]):=Pe (SE (Yj h))
def UC{α:Type}{φ:List (Option Nat)}{γ:Γ}{g:PTG}{c:PTT}{e:PTE}{s:S}{R:S->Prop}{xs:List α}{emb:α->D}(f:α->Option D)(hz:xs.length<=100000)(turn:∀x∈xs,g (s.sub (emb x)) (atP φ γ) fun γ2=>c γ2 (fun b=>if b=true then e γ2 (fun s=>∃d,s.shd=some d/\f x=some d) (fun _=>False)else f x=none) fun _=>False)(done:R (.own (xs.filterMap f))) :
  CompW φ γ g c e (xs.map emb).length (fun i=>s.sub ((xs.map emb).getD i .non)) R:=by
 rw[Yi];refine⟨⟨hz,fun i=>(xs[i]?).bind f,fun i hi=>?_,by rw[Zep];exact done⟩⟩;have e1:(xs[i]?).bind f=f xs[i]:=by rw[Yj hi];rfl
 have t:=turn xs[i] (YC hi);rw[←e1]at t;rw[←SW (f:=emb) hi]at t;exact t
def CG{φ:List (Option Nat)}{γ:Γ}{g:PTG}{c:PTT}{e:PTE}{item:Nat->S}{R:S->Prop}{n:Nat}(f:Nat->Option D)(hz:n<=100000)(turn:∀i,i<n->g (item i) (atP φ γ) fun γ2=>c γ2 (fun b=>if b=true then e γ2 (fun s=>∃d,s.shd=some d/\f i=some d) (fun _=>False)else f i=none) fun _=>False)(done:R (.own ((List.range n).filterMap f))) :
  CompW φ γ g c e n item R:=⟨⟨hz,f,turn,done⟩⟩
def XC{α:Type}{js:List Nat}{γ:Γ}{g:PTG}{body:PTS}{s:S}{R:PEnds}{xs:List α}{emb:α->D}(inv:Nat->Γ->Prop)(h0:inv 0 (clr js γ))(turn:∀(i:Nat) (hi:i<xs.length) γ',inv i γ'->g (s.sub (emb xs[i])) γ' fun γ2=>body {R with nx:=fun γ3=>inv (i+1) (clr js γ3),ct:=fun γ3=>inv (i+1) (clr js γ3),bk:=R.nx} γ2)(done:∀γ',inv xs.length γ'->R.nx γ') :
  ForW js γ g body R (xs.map emb).length (fun i=>s.sub ((xs.map emb).getD i .non)):=by
 refine⟨⟨inv,h0,fun i γ' hi h=>?_,fun γ' h=>?_⟩⟩
 ·rw[Yi]at hi;have t:=turn i hi γ' h;rw[←SW (f:=emb) hi]at t;exact t
 ·rw[Yi]at h;exact done γ' h
def Tr{js:List Nat}{γ:Γ}{g:PTG}{body:PTS}{R:PEnds}{n:Nat}{item:Nat->S}(inv:Nat->Γ->Prop)(h0:inv 0 (clr js γ))(turn:∀(i:Nat) γ',i<n->inv i γ'->g (item i) γ' fun γ2=>body {R with nx:=fun γ3=>inv (i+1) (clr js γ3),ct:=fun γ3=>inv (i+1) (clr js γ3),bk:=R.nx} γ2)(done:∀γ',inv n γ'->R.nx γ'):ForW js γ g body R n item:=⟨⟨inv,h0,turn,done⟩⟩
def CQ{js:List Nat}{γ:Γ}{c:PTT}{body:PTS}{R:PEnds}(inv:Γ->Prop)(μ:Γ->Nat)(h0:inv (clr js γ))(turn:∀γ',inv γ'->c γ' (fun b=>if b=true then body {R with nx:=fun γ3=>inv (clr js γ3)/\μ (clr js γ3)<μ γ',ct:=fun γ3=>inv (clr js γ3)/\μ (clr js γ3)<μ γ',bk:=R.nx} γ' else R.nx γ') (R.ex γ')):WhileW js γ c body R:=⟨⟨inv,μ,h0,turn⟩⟩
def KM{p q:PTS}{R:PEnds}{γ:Γ}(J:Γ->Prop)(h1:p {R with nx:=J} γ)(h2:∀γ',J γ'->q R γ'):JoinW p q R γ:=⟨⟨J,h1,h2⟩⟩
def Xt{α:Type}(c:α->Bool)(emb:α->D):∀ws:List α,ws.filterMap (fun q=>if c q=true then some (emb q)else none)=(ws.filter c).map emb
 |[]=>rfl
 |q::r=>by
  by_cases h:c q=true
  ·rw[List.filterMap_cons_some (b:=emb q) (by rw[Yn h]),List.filter_cons_of_pos h,YH,Xt c emb r]
  ·rw[List.filterMap_cons_none (by rw[Yo h]),List.filter_cons_of_neg h,Xt c emb r]
def mapD{α:Type}(emb:α->D)(ws:List α):ws.filterMap (fun q=>some (emb q))=ws.map emb:=by rw[Ql]
def KC{α:Type}(f:α->D)(xs:List α)(lo hi:Option Int):cutD (xs.map f) lo hi=(cutD xs lo hi).map f:=by
 unfold cutD;rw[Yi,List.map_take,List.map_drop]
def N0{α:Type}(xs:List α){n:Int}(h:0<=n):cutD xs none (some n)=xs.take n.toNat:=by
 unfold cutD;have e:n=(n.toNat:Int):=by omega
 rw[HT.AH,e,HT.NY,List.drop_zero];rw[Nat.sub_zero,YX];by_cases c:n.toNat<=xs.length
 ·rw[Nat.min_eq_left c]
 ·rw[Nat.min_eq_right (by omega),Qk (Yr _),Qk (by omega)]
def ND{α:Type}(xs:List α){n:Int}(h:0<=n):cutD xs (some n) none=xs.drop n.toNat:=by
 unfold cutD;have e:n=(n.toNat:Int):=by omega
 rw[HT.AH,e,HT.NY,YX];by_cases c:n.toNat<=xs.length
 ·rw[Nat.min_eq_left c,Qk (by rw[Qc];omega)]
 ·rw[Nat.min_eq_right (by omega),List.drop_of_length_le (Yr _),List.drop_of_length_le (by omega)];simp
def SJ(K:Za):Sp:=fun vs H Q _=>∃(a:Addr) (ns:List Int),vs=[.ref a]/\SqL K H a (ns.map V.int)/\∀H',Q (.bl true) H'
def Dc:Pc:=fun ds R _=>∃ns:List Int,ds=[.scr ns]/\R (.sh (.bl true))
def Rl{vs:List V}{Q:VK}{Ec:XK}(h:SJ K vs H Q Ec):spOf mg Dc K vs H Q Ec:=by
 obtain⟨a,ns,rfl,hS,q⟩:=h;refine⟨[.scr ns],fun s=>s=.sh (.bl true),fun _=>False,.cons (.scr hS) .nil,⟨ns,rfl,rfl⟩,fun s v H' e S1 tv=>?_,fun _ _ z=>z.elim⟩;subst e;cases tv
 exact q H'
end
section
variable {K:Za}{mg:Str->Option Value}{E:L2.St->XK}{H0 H H1 H':Hp}{B Z Z':Addr->Prop}{σ:L2.St}{γ:Γ}
def N8:D->Option V
 | .int i=>some (.int i) | .bl b=>some (.bl b) | .non=>some .non | .str x=>some (.str x)|_=>none
def vD:V->D
 | .int i=>.int i | .bl b=>.bl b | .str x=>.str x|_=>.non
def BE:V->Bool
 | .int _=>true | .bl _=>true | .str _=>true | .non=>true|_=>false
def CO{v:V}(h:BE v=true):Rp K H (vD v) v:=by
 cases v with
 |int i=>exact .int i
 |bl b=>exact .bl b
 |str x=>exact .str x
 |non=>exact .non
 |_=>cases h
def BY{d:D}{v u:V}(h:Rp K H d v)(e:N8 d=some u):v=u:=by
 cases h with
 |int i=>cases e;rfl
 |bl b=>cases e;rfl
 |non=>cases e;rfl
 |str x=>cases e;rfl
 |_=>cases e
def keyD:D->Option Key
 | .int i=>some (.inl i) | .str x=>some (.inr x)|_=>none
def P0:List D->Option (List Key)
 |[]=>some []
 |d::r=>match keyD d,P0 r with
  |some k,some ks=>some (k::ks)
  |_,_=>none
def P4:D->Option (List Key)
 | .tup ds=>P0 ds
 |_=>none
def Ti{d:D}{v:V}{k:Key}(h:Rp K H d v)(e:keyD d=some k):v=kV k:=by
 cases h with
 |int i=>cases e;rfl
 |str x=>cases e;rfl
 |_=>cases e
def AN:∀{ds:List D}{vs:List V}{ks:List Key},Rps K H ds vs->P0 ds=some ks->vs=ks.map kV
 |[],_,_,.nil,e=>by cases e;rfl
 |d::r,_,ks,.cons h t,e=>by
  unfold P0 at e;split at e
  ·rename_i k js e1 e2;cases e
   rw[Ti h e1,AN t e2];rfl
  ·cases e
def Tj{d:D}{v:V}{ks:List Key}(h:Rp K H d v)(e:P4 d=some ks):∃b,v=.ref b/\H b=some (.tup (ks.map kV)):=by
 cases h with
 |tup h r=>
  rw[AN r e]at h;exact⟨_,rfl,h⟩
 |_=>cases e
def Rp.dK_inv {kvs:List (Key×V)}{v:V} (h:Rp K H (.dK kvs) v):∃a,v=.ref a/\H a=some (.dK kvs):=by
 cases h with
 |dK h=>exact⟨_,rfl,h⟩
def Rp.dT_inv {kvs:List (List Key×V)}{v:V} (h:Rp K H (.dT kvs) v):∃a,v=.ref a/\H a=some (.dT kvs):=by
 cases h with
 |dT h=>exact⟨_,rfl,h⟩
def R6:PTE:=fun _ R _=>R (.own (.dK []))
def Zdp:PTE:=fun _ R _=>R (.own (.dT []))
def CW:SndE K mg E GJ R6:=by
 intro H0 B H σ γ R X Q env p q _;intro l nl;exact q _ _ _ p (U0 nl) ⟨l,rfl,(fun _ e=>e▸nl),Ug⟩
def Za5:SndE K mg E Ap Zdp:=by
 intro H0 B H σ γ R X Q env p q _;intro l nl;exact q _ _ _ p (U0 nl) ⟨l,rfl,(fun _ e=>e▸nl),Ug⟩
def Ea:S->S->(S->Prop)->Prop:=fun x y R=>match x.d with
 | .dK kvs=>∃k v,keyD y.d=some k/\valV kvs k=some v/\BE v=true/\R (.sh (vD v))
 | .dT kvs=>∃k v,P4 y.d=some k/\valV kvs k=some v/\BE v=true/\R (.sh (vD v))
 |_=>False
def Pv{td ty:TE}{a b:PTE}(ha:SndE K mg E td a)(hb:SndE K mg E ty b):SndE K mg E (DA td ty) (p2 a b Ea):=by
 show SndE K mg E (tOp (fun x y H Q=>∃a v,x=.ref a/\DGet H a y (some v)/\Q v H) td ty) _;refine se_2 ha hb fun H0 H H2 Z x y v u R Q s0 s1 hm tx ty h q=>?_;have rx:=tx.rp s0;have ry:=ty.rp s0;unfold Ea at h;split at h
 ·rename_i kvs e;rw[e]at rx;obtain⟨l,rfl,hl⟩:=rx.dK_inv;obtain⟨k,w,h1,h2,h3,h4⟩:=h;refine⟨l,w,rfl,?_,q _ _ H2 h4 (Same.refl _) (CO h3)⟩;rw[Ti ry h1,←h2];exact DGet.k hl
 ·rename_i kvs e;rw[e]at rx;obtain⟨l,rfl,hl⟩:=rx.dT_inv;obtain⟨k,w,h1,h2,h3,h4⟩:=h;obtain⟨b,rfl,hb⟩:=Tj ry h1;refine⟨l,w,rfl,?_,q _ _ H2 h4 (Same.refl _) (CO h3)⟩;rw[←h2];exact DGet.t hl hb
 ·exact h.elim
def fDIn(neg:Bool):S->S->(S->Prop)->Prop:=fun y x R=>match x.d with
 | .dK kvs=>∃k,keyD y.d=some k/\R (.sh (.bl (if neg then !(valV kvs k).isSome else(valV kvs k).isSome)))
 | .dT kvs=>∃k,P4 y.d=some k/\R (.sh (.bl (if neg then !(valV kvs k).isSome else(valV kvs k).isSome)))
 |_=>False
def EG{td ty:TE}{a b:PTE}(ha:SndE K mg E ty a)(hb:SndE K mg E td b):SndE K mg E (tDIn ty td) (p2 a b (fDIn false)):=by
 show SndE K mg E (tOp (fun y x H Q=>∃a o,x=.ref a/\DGet H a y o/\Q (.bl o.isSome) H) ty td) _;refine se_2 ha hb fun H0 H H2 Z y x u v R Q s0 s1 hm ty tx h q=>?_;have rx:=tx.rp s0;have ry:=ty.rp s0;unfold fDIn at h;split at h
 ·rename_i kvs e;rw[e]at rx;obtain⟨l,rfl,hl⟩:=rx.dK_inv;obtain⟨k,h1,h4⟩:=h;refine⟨l,_,rfl,?_,q _ _ H2 h4 (Same.refl _) (.bl _)⟩;rw[Ti ry h1];exact DGet.k hl
 ·rename_i kvs e;rw[e]at rx;obtain⟨l,rfl,hl⟩:=rx.dT_inv;obtain⟨k,h1,h4⟩:=h;obtain⟨b,rfl,hb⟩:=Tj ry h1;exact⟨l,_,rfl,DGet.t hl hb,q _ _ H2 h4 (Same.refl _) (.bl _)⟩
 ·exact h.elim
def Im{td ty:TE}{a b:PTE}(ha:SndE K mg E ty a)(hb:SndE K mg E td b):SndE K mg E (A5 ty td) (p2 a b (fDIn true)):=by
 show SndE K mg E (tOp (fun y x H Q=>∃a o,x=.ref a/\DGet H a y o/\Q (.bl (!o.isSome)) H) ty td) _;refine se_2 ha hb fun H0 H H2 Z y x u v R Q s0 s1 hm ty tx h q=>?_;have rx:=tx.rp s0;have ry:=ty.rp s0;unfold fDIn at h;split at h
 ·rename_i kvs e;rw[e]at rx;obtain⟨l,rfl,hl⟩:=rx.dK_inv;obtain⟨k,h1,h4⟩:=h;refine⟨l,_,rfl,?_,q _ _ H2 h4 (Same.refl _) (.bl _)⟩;rw[Ti ry h1];exact DGet.k hl
 ·rename_i kvs e;rw[e]at rx;obtain⟨l,rfl,hl⟩:=rx.dT_inv;obtain⟨k,h1,h4⟩:=h;obtain⟨b,rfl,hb⟩:=Tj ry h1;exact⟨l,_,rfl,DGet.t hl hb,q _ _ H2 h4 (Same.refl _) (.bl _)⟩
 ·exact h.elim
def CN(i:Nat)(b a:PTE):PTS:=fun R γ=>match γ[i]? with
 |some (some (.own (.dK kvs)))=>a γ (fun s=>b γ (fun y=>∃k u,keyD y.d=some k/\N8 s.d=some u/\kvs.length<100000/\R.nx (γ.set i (some (.own (.dK (putK kvs k u)))))) (R.ex γ)) (R.ex γ)
 |some (some (.own (.dT kvs)))=>a γ (fun s=>b γ (fun y=>∃k u,P4 y.d=some k/\N8 s.d=some u/\kvs.length<100000/\R.nx (γ.set i (some (.own (.dT (putK kvs k u)))))) (R.ex γ)) (R.ex γ)
 |_=>False
def N1(i:Nat){ty tv:TE}{a b:PTE}(hb:SndE K mg E ty b)(ha:SndE K mg E tv a):SndS K mg E (Ez (tVar i) ty tv) (CN i b a):=by
 intro H0 B H σ γ R D hB env h e;have hx:∀c H',R.ex γ c->Same H H'->XE mg (E σ) c H':=fun c H' hc S'=>e.ex σ γ c H' hc (env.grow S') (Fr.grow S');unfold CN at h;split at h
 ·rename_i kvs hi;obtain⟨v,hv,l,rfl,hb0,hl⟩:=env.slot i _ hi;refine ha H0 B H σ γ _ _ _ env h (fun s u H1 h1 S1 t1=>⟨_,hv,?_⟩) hx;have env1:=env.grow S1;refine hb H0 B H1 σ γ _ _ _ env1 h1 (fun y w H2 h2 S2 t2=>?_) fun c H' hc S'=>hx c H' hc (S1.trans S');obtain⟨k,z,k1,k2,k3,k4⟩:=h2;have env2:=env1.grow S2;have eu:=BY (t1.rp env1.same) k2;have ew:=Ti (t2.rp env2.same) k1;subst eu ew;refine⟨l,_,rfl,DPut.k (S2 _ _ (S1 _ _ hl)) (Qn k3 (by decide)),?_⟩;obtain⟨e2,f2⟩:=env2.mutate (es:=.dK (putK kvs k u)) (us:=.dK (putK kvs k u)) hi hv trivial fun F H' SF hF=>hF;exact e.nx _ _ _ k4 e2 ((Fr.grow (S1.trans S2)).trans f2)
 ·rename_i kvs hi;obtain⟨v,hv,l,rfl,hb0,hl⟩:=env.slot i _ hi;refine ha H0 B H σ γ _ _ _ env h (fun s u H1 h1 S1 t1=>⟨_,hv,?_⟩) hx;have env1:=env.grow S1;refine hb H0 B H1 σ γ _ _ _ env1 h1 (fun y w H2 h2 S2 t2=>?_) fun c H' hc S'=>hx c H' hc (S1.trans S');obtain⟨k,z,k1,k2,k3,k4⟩:=h2;have env2:=env1.grow S2;have eu:=BY (t1.rp env1.same) k2;obtain⟨b',rfl,hb'⟩:=Tj (t2.rp env2.same) k1;subst eu;refine⟨l,_,rfl,DPut.t (S2 _ _ (S1 _ _ hl)) hb' (Qn k3 (by decide)),?_⟩;obtain⟨e2,f2⟩:=env2.mutate (es:=.dT (putK kvs k u)) (us:=.dT (putK kvs k u)) hi hv trivial fun F H' SF hF=>hF;exact e.nx _ _ _ k4 e2 ((Fr.grow (S1.trans S2)).trans f2)
 ·exact h.elim
def RU(a:PTE):PTS:=fun R γ=>a γ (fun s=>match s.shd with|some d=>R.rt (.sh d)|none=>False) (R.ex γ)
def BR{te:TE}{a:PTE}(ha:SndE K mg E te a):SndS K mg E (tRet te) (RU a):=by
 intro H0 B H σ γ R D hB env h e;refine ha H0 B H σ γ _ _ _ env h (fun s v H1 h1 S1 t1=>?_) fun c H' hc S'=>e.ex σ γ c H' hc (env.grow S') (Fr.grow S');split at h1
 ·rename_i d hd;have r:=t1.shd (env.grow S1).same env.zm S1 hd;exact e.rt (.sh d) v H1 h1 (env.same.trans S1) (Rp.mono (JV (Same.refl _) fun b _ _ z y=>z (.inl y)) r)
 ·exact h1.elim
def Ar(i:Nat)(γ:Γ):Nat:=match γ[i]? with
 |some (some (.own (.lst ds)))=>ds.length
 |_=>0
def pIE(r:PTA):PTI:=fun γ R X=>r γ (fun ss=>match ss with
 |[s]=>(match s.d with
  | .lst ds=>s.fix=true/\imms ds=true/\R ds.length fun i=>.sh (.tup [.int i,ds.getD i .non])
  |_=>False)
 |_=>False) X
def AL:∀{ds:List D}{i:Nat}{d:D},imms ds=true->ds[i]?=some d->imm d=true
 |[],i,d,_,e=>by simp at e
 |a::r,0,d,h,e=>by
  simp at e;subst e;unfold imms at h;exact(Y9 _ _▸h).1
 |a::r,i+1,d,h,e=>by
  unfold imms at h;exact AL (Y9 _ _▸h).2 (by simpa using e)
def OC{s:S}{d:D}(h:imm d=true):(s.sub d).shd=some d:=by
 cases s with
 |bor b=>show(arg d).shd=_;unfold arg;rw[h];rfl
 |tmp b=>show(argT d).shd=_;unfold argT;rw[h];rfl
 |sh b=>rfl
 |own b=>
  cases b with
  |nst cs=>show(argT d).shd=_;unfold argT;rw[h];rfl
  |nsl a cs=>show(argT d).shd=_;unfold argT;rw[h];rfl
  |_=>rfl
 |view b=>
  cases b with
  |nst cs=>show(argT d).shd=_;unfold argT;rw[h];rfl
  |nsl a cs=>show(argT d).shd=_;unfold argT;rw[h];rfl
  |_=>rfl
def Zc4{ta:TA}{r:PTA}(hr:SndA K mg E ta r):SndI K mg E (Di K ta) (pIE r):=by
 intro H0 B H σ γ R X Q env h q qx;refine hr H0 B H σ γ _ X _ env h (fun ss vs H1 h1 S1 t1=>?_) qx;have env1:=env.grow S1;split at h1
 ·rename_i s;obtain⟨v,rfl,t1'⟩:=t1.one_inv;split at h1
  ·rename_i ds ed;obtain⟨l,vs,rfl,hn,hl⟩:=t1'.last env S1 h1.1 ed;obtain⟨hl1,_⟩:=hl H1 _ (Later.of env1 Fr.refl);refine⟨l,rfl,⟨vs,SqL.of hl1⟩,q _ _ _ H1 h1.2.2 S1 ⟨fun i H' Z' hi lt=>?_,fun H' Z' lt=>?_⟩⟩
   ·obtain⟨k1,k2⟩:=hl H' Z' lt;have hd:ds[i]?=some (ds.getD i .non):=by rw[Y1,Yj hi];rfl
    obtain⟨u,hu,tu⟩:=k2 i _ hd;refine⟨⟨vs,u,SqL.of k1,hu⟩,fun x H'' y=>?_⟩;obtain⟨T,v,nT,hv,rfl,rfl⟩:=y
    have:=hv vs (SqL.of k1)
    rw[hu]at this;cases this
    have ru:=tu.shd lt.1 lt.2.1 (Same.refl _) (OC (AL h1.2.1 hd));refine⟨U0 nT,.tup (Ur Ug fun z=>?_) (.cons (.int _) (.cons (Rp.mono (JV (U0 nT) fun _ _ _ z=>z) ru) .nil))⟩
    have:=lt.2.1 T z
    rw[nT]at this;exact this
   ·exact⟨vs,SqL.of (hl H' Z' lt).1,by omega⟩
  ·exact h1.elim
 ·exact h1.elim
def OA{α:Type}{js:List Nat}{γ:Γ}{g:PTG}{body:PTS}{R:PEnds}{xs:List α}{emb:α->D}(inv:Nat->Γ->Prop)(h0:inv 0 (clr js γ))(turn:∀(i:Nat) (hi:i<xs.length) γ',inv i γ'->g (.sh (.tup [.int i,emb xs[i]])) γ' fun γ2=>body {R with nx:=fun γ3=>inv (i+1) (clr js γ3),ct:=fun γ3=>inv (i+1) (clr js γ3),bk:=R.nx} γ2)(done:∀γ',inv xs.length γ'->R.nx γ') :
  ForW js γ g body R (xs.map emb).length (fun i=>.sh (.tup [.int i,(xs.map emb).getD i .non])):=by
 refine⟨⟨inv,h0,fun i γ' hi h=>?_,fun γ' h=>?_⟩⟩
 ·rw[Yi]at hi;have t:=turn i hi γ' h;rw[←SW (f:=emb) hi]at t;exact t
 ·rw[Yi]at h;exact done γ' h
def Xq{α:Type}(d:α)(ds:List α):atI (d::ds) 0=some d:=Na (by decide) rfl
def em(l:Int)(p:List Int):D:=.lst ((l::p).map D.int)
def FJ(l:Int)(p:List Int):atI ((l::p).map D.int) (-1)=some (.int (JU l p)):=by
 refine Pe ?_;unfold atI ixN;rw[Yo (by omega),Yn (by rw[Y6];omega)];have e:(-1+((l::p).length:Int)).toNat=p.length:=by rw[Y6];omega
 rw[e];exact Sn l p
end
section
variable {K:Za}{mg:Str->Option Value}{E:L2.St->XK}{H0 H H1 H':Hp}{B Z Z':Addr->Prop}{σ:L2.St}{γ:Γ}
def Aq:List S->(S->Prop)->Prop
 |[s],R=>∃ns:List Int,s.d=.lst (ns.map D.int)/\R (.sh (.int ns.sum))
 |_,_=>False
def AQ{ta:TA}{r:PTA}(hr:SndA K mg E ta r):SndE K mg E (tCB (fun xs H Q=>∃(p:Addr) (ns:List Int),xs=[.ref p]/\SqL K H p (ns.map V.int)/\Q (.int ns.sum) H) ta) (pCB Aq r):=by
 refine XI hr fun H0 H H1 Z ss vs R Q s0 s1 hm tv h q=>?_;unfold Aq at h;split at h
 ·obtain⟨v,rfl,t1⟩:=tv.one_inv;obtain⟨ns,e,hR⟩:=h;have rv:=t1.rp s0;rw[e]at rv;obtain⟨a,rfl,ha⟩:=rv.ints_inv;exact⟨a,ns,rfl,SqL.of ha,q _ _ H1 hR (Same.refl _) (.int _)⟩
 ·exact h.elim
def DG:List S->(S->Prop)->Prop
 |[s],R=>∃ns:List Int,s.d=.lst (ns.map D.int)/\0<ns.length/\∀m,m∈ns->(∀a∈ns,m<=a)->R (.sh (.int m))
 |_,_=>False
def HA{ta:TA}{r:PTA}(hr:SndA K mg E ta r):SndE K mg E (tCB (fun xs H Q=>∃(p:Addr) (ns:List Int),xs=[.ref p]/\SqL K H p (ns.map V.int)/\0<ns.length/\∀M,M∈ns->(∀a∈ns,M<=a)->Q (.int M) H) ta) (pCB DG r):=by
 refine XI hr fun H0 H H1 Z ss vs R Q s0 s1 hm tv h q=>?_;unfold DG at h;split at h
 ·obtain⟨v,rfl,t1⟩:=tv.one_inv;obtain⟨ns,e,hne,hR⟩:=h;have rv:=t1.rp s0;rw[e]at rv;obtain⟨a,rfl,ha⟩:=rv.ints_inv;exact⟨a,ns,rfl,SqL.of ha,hne,fun m h1 h2=>q _ _ H1 (hR m h1 h2) (Same.refl _) (.int _)⟩
 ·exact h.elim
def GM:List S->(S->Prop)->Prop
 |[s],R=>∃bs:List Bool,s.d=.lst (bs.map D.bl)/\R (.sh (.bl (bs.any id)))
 |_,_=>False
def Rps.bls {K:Za}{H:Hp}:∀{js:List Bool}{vs:List V},Rps K H (js.map D.bl) vs->vs=js.map V.bl
 |[],_,.nil=>rfl
 |j::r,_,.cons h t=>by rw[Rp.bl_inv h,Rps.bls t];rfl
def Ak{ta:TA}{r:PTA}(hr:SndA K mg E ta r):SndE K mg E (tCB (fun xs H Q=>∃(p:Addr) (bs:List Bool),xs=[.ref p]/\SqL K H p (bs.map V.bl)/\Q (.bl (bs.any id)) H) ta) (pCB GM r):=by
 refine XI hr fun H0 H H1 Z ss vs R Q s0 s1 hm tv h q=>?_;unfold GM at h;split at h
 ·obtain⟨v,rfl,t1⟩:=tv.one_inv;obtain⟨bs,e,hR⟩:=h;have rv:=t1.rp s0;rw[e]at rv;obtain⟨a,us,rfl,ha,r1⟩:=rv.lst_inv;rw[r1.bls]at ha;exact⟨a,bs,rfl,SqL.of ha,q _ _ H1 hR (Same.refl _) (.bl _)⟩
 ·exact h.elim
def fEqE(neg:Bool):S->S->(S->Prop)->Prop:=fun x y R=>match x.d,y.d with
 | .lst ds,.lst []=>R (.sh (.bl (if neg then !ds.isEmpty else ds.isEmpty)))
 |_,_=>False
def B4{neg:Bool}{ta tb:TE}{a b:PTE}(ha:SndE K mg E ta a)(hb:SndE K mg E tb b):SndE K mg E (tOp (rEqE K neg) ta tb) (p2 a b (fEqE neg)):=by
 refine se_2 ha hb fun H0 H H2 Z x y v u R Q s0 s1 hm tx ty h q=>?_;have rx:=tx.rp s0;have ry:=ty.rp s0;unfold fEqE at h;split at h
 ·rename_i ds e1 e2;rw[e1]at rx;rw[e2]at ry;obtain⟨l,us,rfl,hl,r⟩:=rx.lst_inv;obtain⟨m,ws,rfl,hm',r'⟩:=ry.lst_inv;cases r'
  refine⟨l,m,us,rfl,rfl,SqL.of hl,SqL.of hm',?_⟩;rw[Bx r.len];exact q _ _ H2 h (Same.refl _) (.bl _)
 ·exact h.elim
def PU(x y:Int){k:Int}(h:k=0\/k=1):atI [D.int x,D.int y] k=some (.int (if k=0 then x else y)):=by
 rcases h with rfl|rfl
 ·rfl
 ·rfl
def KN{α:Type}(xs:List α)(lo hi:Option Int):(cutD xs lo hi).Sublist xs:=(QE _ _).trans (List.drop_sublist _ _)
end
section
variable {K:Za}{mg:Str->Option Value}{E:L2.St->XK}{H0 H H1 H':Hp}{B Z Z':Addr->Prop}{σ:L2.St}{γ:Γ}
def EnvR.gone (Ev:EnvR K H0 B H σ γ) (i:Nat):EnvR K H0 B H (σ.set i none) (γ.set i none)/\Fr B H σ γ H (σ.set i none) (γ.set i none):=by
 obtain⟨e1,f1⟩:=Ev.drop i
 have got:∀(j:Nat) (s:S),(γ.set i none)[j]?=some (some s)->j≠i:=fun j s h=>by
  rcases Uu h with⟨_,e,_⟩|⟨n,_⟩
  ·cases e
  ·exact n
 have hz:∀b,zof B (γ.set i none) (σ.set i none) b↔zof B (γ.set i none) σ b:=fun b=>by
  constructor
  ·rintro(z|⟨j,ds,x,z1,z2,z3⟩)
   ·exact .inl z
   ·rw[XF (got j _ z1)]at z2;exact .inr ⟨j,ds,x,z1,z2,z3⟩
  ·rintro(z|⟨j,ds,x,z1,z2,z3⟩)
   ·exact .inl z
   ·exact .inr ⟨j,ds,x,z1,by rw[XF (got j _ z1)];exact z2,z3⟩
 have ez:zof B (γ.set i none) (σ.set i none)=zof B (γ.set i none) σ:=funext fun b=>propext (hz b);refine⟨⟨e1.same,by rw[Wj];exact e1.len,e1.bm,fun k j a a' ds es b h1 h2 h3 h4 h5 h6=>?_,fun j s h=>?_⟩,fun b o h z=>?_⟩
 ·rw[XF (got k _ h1)]at h3;rw[XF (got j _ h2)]at h4;exact e1.own k j a a' ds es b h1 h2 h3 h4 h5 h6
 ·obtain⟨v,h1,h2⟩:=e1.slot j s h;rw[ez];exact⟨v,by rw[XF (got j _ h)];exact h1,h2⟩
 ·rw[ez];exact f1 b o h z
def CZ(i:Nat)(b a:PTE):PTS:=fun R γ=>match γ[i]? with
 |some (some (.own (.lst ds)))=>a γ (fun s=>b γ (fun y=>match y.d with
   | .int k=>∃j d,ixN ds.length k=some j/\s.shd=some d/\R.nx (γ.set i (some (.own (.lst (ds.set j d)))))
   |_=>False) (R.ex γ)) (R.ex γ)
 |some (some (.own (.lsA x ds)))=>a γ (fun s=>b γ (fun y=>match y.d with
   | .int k=>∃j d,ixN ds.length k=some j/\s.shd=some d/\R.nx (γ.set i (some (.own (.lsA x (ds.set j d)))))
   |_=>False) (R.ex γ)) (R.ex γ)
 |_=>False
def Rps.set {d:D}{v:V} (h:Rp K H d v):∀{ds:List D}{vs:List V} (j:Nat),Rps K H ds vs->Rps K H (ds.set j d) (vs.set j v)
 |_,_,_,.nil=>.nil
 |_,_,0,.cons _ r=>.cons h r
 |_,_,j+1,.cons k r=>.cons k (Rps.set h j r)
def Zaf(i:Nat){tb te:TE}{a b:PTE}(hb:SndE K mg E tb b)(ha:SndE K mg E te a):SndS K mg E (tAsg te (gSub (tVar i) tb DP)) (CZ i b a):=by
 intro H0 B H σ γ R D hB env h e;have hx:∀c H',R.ex γ c->Same H H'->XE mg (E σ) c H':=fun c H' hc S'=>e.ex σ γ c H' hc (env.grow S') (Fr.grow S');unfold CZ at h;split at h
 ·rename_i ds hi;obtain⟨v,hv,l,rfl,hb0,us,hl,ru⟩:=env.slot i _ hi;refine ha H0 B H σ γ _ _ _ env h (fun s u H1 h1 S1 t1=>⟨_,hv,?_⟩) hx;have env1:=env.grow S1;refine hb H0 B H1 σ γ _ _ _ env1 h1 (fun y w H2 h2 S2 t2=>?_) fun c H' hc S'=>hx c H' hc (S1.trans S');have env2:=env1.grow S2;have ry:=t2.rp env2.same;split at h2
  ·rename_i k ek;rw[ek]at ry;obtain⟨j,d,h3,h4,h5⟩:=h2;have rd:=Rp.mono (JV S2 fun _ _ _ z=>z) (t1.shd env1.same env.zm S1 h4);refine⟨l,us,k,j,rfl,ry.int_inv,(S1.trans S2) _ _ hl,by rw[ru.len];exact h3,?_⟩;obtain⟨e2,f2⟩:=env2.mutate (es:=.lst (ds.set j d)) (us:=.lst (us.set j u)) hi hv trivial fun F H' SF hF=>⟨_,hF,Rps.mono SF (Rps.set rd j (Rps.mono (JV (S1.trans S2) fun _ _ _ z=>z) ru))⟩;exact e.nx _ _ _ h5 e2 ((Fr.grow (S1.trans S2)).trans f2)
  ·exact h2.elim
 ·rename_i x ds hi;obtain⟨v,hv,l,rfl,hb0,rfl,us,hl,ru⟩:=env.slot i _ hi;refine ha H0 B H σ γ _ _ _ env h (fun s u H1 h1 S1 t1=>⟨_,hv,?_⟩) hx;have env1:=env.grow S1;refine hb H0 B H1 σ γ _ _ _ env1 h1 (fun y w H2 h2 S2 t2=>?_) fun c H' hc S'=>hx c H' hc (S1.trans S');have env2:=env1.grow S2;have ry:=t2.rp env2.same;split at h2
  ·rename_i k ek;rw[ek]at ry;obtain⟨j,d,h3,h4,h5⟩:=h2;have rd:=Rp.mono (JV S2 fun _ _ _ z=>z) (t1.shd env1.same env.zm S1 h4);refine⟨l,us,k,j,rfl,ry.int_inv,(S1.trans S2) _ _ hl,by rw[ru.len];exact h3,?_⟩;obtain⟨e2,f2⟩:=env2.mutate (es:=.lsA l (ds.set j d)) (us:=.lst (us.set j u)) hi hv trivial fun F H' SF hF=>⟨rfl,_,hF,Rps.mono SF (Rps.set rd j (Rps.mono (JV (S1.trans S2) fun _ _ _ z=>z) ru))⟩;exact e.nx _ _ _ h5 e2 ((Fr.grow (S1.trans S2)).trans f2)
  ·exact h2.elim
 ·exact h.elim
end
end Pu
namespace Own
open PySem PySem.Spec PyProof.Rows L2
def Gq(K:Za):R2:=fun x y H Q=>∃a b xs ys,x=.ref a/\y=.ref b/\SqT K H a xs/\SqT K H b ys/\xs.length+ys.length<=sizeLine/\
 (xs=[]->Q (.ref b) H)/\(xs≠[]->ys=[]->Q (.ref a) H)/\(xs≠[]->ys≠[]->∀p,H p=none->Q (.ref p) (upd H p (.tup (xs++ys))))
section
variable {X:Cx}{K:Za}
def Ii(hK:X.K=K:=by rfl):OpR X (binaryOp .Add) (Gq K):=by
 subst hK;intro pins s σ H x y v u Q I rx ry h;obtain⟨a,b,xs,ys,rfl,rfl,ha,hb,hz,q0,q1,q2⟩:=h;cases rx
 cases ry
 by_cases hx:xs=[]
 ·obtain⟨its,r1,p1,_⟩:=I.tuple ha;obtain⟨its2,r2,p2,_⟩:=I.tuple hb;have e:its=[]:=r1.nil_iff.mpr hx;obtain⟨⟨cls,dd,data,sl⟩,ho,hc,n,hd⟩:=id p1;obtain⟨⟨cls2,dd2,data2,sl2⟩,ho2,hc2,n2,hd2⟩:=id p2;simp only at hc hd hc2 hd2;subst hc hd hc2 hd2
  exact concat_meets ⟨_,ho,rfl⟩ ⟨_,ho2,rfl⟩ noFill_tuple_add seq_tuple_add QI QC (Q3 _ _)
   (tuple_addW0 a b its.toArray its2.toArray n n2 dd dd2 sl sl2 (by simp[e])) ⟨ho,ho2,⟨.ref b,H,I,rfl,q0 hx⟩⟩
 ·exact MB pins s σ H (.ref a) (.ref b) _ _ Q I rfl rfl ⟨a,b,xs,ys,rfl,rfl,ha,hb,hx,hz,q1 hx,q2 hx⟩
def Oo{b:Addr}{x:V}{ws:List (Value×Value)}(h:VV [(.ref b,x)] ws):∃r,ws=[(.ref b,r)]/\RelV x r:=by
 cases h with
 |cons h t=>
  cases t
  rename_i y;obtain⟨u,r⟩:=y;obtain⟨h1,h2⟩:=h;cases (show u=Value.ref b from h1)
  exact⟨r,rfl,h2⟩
def GI(tk tv:TE):TE:=fun σ H Q=>∀p,H p=none->tk σ (upd H p (.dT [])) fun y H1=>tv σ H1 fun x H2=>H2 p=some (.dT [])/\∃b ks,y=.ref b/\H2 b=some (.tup (ks.map kV))/\Q (.ref p) (upd H2 p (.dT [(ks,x)]))
def Lu{k v:Expr}{tk tv:TE}{pos:Pos}(hu:X.A.units+1<cLine)(hk:PE X k tk)(hv:PE X v tv):PE X (.Dict [some k] [v] pos) (GI tk tv):=by
 intro pins s σ H Q I q;have hn:=I.hok.fresh (Yr s.heap.objs.size);have I1:=I.laid (a:=s.heap.objs.size) (o:=.dT []) (h':=s.heap.push {cls:=.type "dict",data:=.dict #[]}) (t':=s.toks) (fun _ _ q=>Yq _ q) (Yr _) (G4 s.heap I.big)
 refine wpAny_Dict_any rfl rfl (by simp) (by simp) (thn ((Zat hk hv Za0) pins _ σ _ (fun ps H2=>match ps with
  |[(y,x)]=>H2 s.heap.objs.size=some (.dT [])/\∃b ks,y=.ref b/\H2 b=some (.tup (ks.map kV))/\Q (.ref s.heap.objs.size) (upd H2 s.heap.objs.size (.dT [(ks,x)]))
  |_=>False) I1 (q _ hn)) fun ws s2 ⟨ps,H2,I2,rel,h2⟩=>?_)
 split at h2
 ·rename_i y x;obtain⟨e,b,ks,ey,eb,q2⟩:=h2;subst ey;obtain⟨wv,ew,rv⟩:=Oo rel;subst ew;obtain⟨z,hd,xs,rel',dd⟩:=Dx I2.hok e;cases rel'
  unfold storeAll;rw[QW];refine Yk (Yk (wpAny_dictSet_heap (hsz:=Wr _) (show(tupleKind _).room X.A from Nat.lt_of_succ_lt hu) (PZ I2.hok eb) dd fun h' dd' hs=>Ys ?_))
  dsimp only
  rw[List.forIn_nil];refine Ys ?_;obtain⟨qo,es,ep,hq,h2,h3,h4,_,h5⟩:=dd';refine⟨.ref s.heap.objs.size,_,Sa (ob:=.dT [(ks,x)]) I2 (by rw[e];exact True.intro) hs ⟨qo,hq⟩ ⟨(by show 1<=sizeLine;decide),hd,[(ks,b,wv)],?_,qo,es,ep,hq,h2,h3,h4,h5⟩,rfl,q2⟩;refine .cons ⟨rfl,?_,rv⟩ .nil;rw[JI (Fh eb e (fun z=>nomatch z))];exact eb
 ·exact h2.elim
end
end Own
namespace Pu
open PySem PySem.Spec PyProof.Rows L2 Own M
section
variable {K:Za}{mg:Str->Option Value}{E:L2.St->XK}{H0 H H1 H':Hp}{B Z Z':Addr->Prop}{σ:L2.St}{γ:Γ}
def tupD:Option D->Option (List D)
 |some (.tup ds)=>some ds|_=>none
def Be{o:Option D}{ds:List D}(h:tupD o=some ds):o=some (.tup ds):=by
 unfold tupD at h;split at h
 ·cases h;rfl
 ·cases h
def Oz:S->S->(S->Prop)->Prop:=fun x y R=>∃ds es,tupD x.shd=some ds/\tupD y.shd=some es/\ds.length+es.length<=100000/\R (.sh (.tup (ds++es)))
def OJ{ta tb:TE}{a b:PTE}(ha:SndE K mg E ta a)(hb:SndE K mg E tb b):SndE K mg E (tOp (Gq K) ta tb) (p2 a b Oz):=by
 refine se_2 ha hb fun H0 H H2 Z x y v u R Q s0 s1 hm tx ty h q=>?_;obtain⟨ds,es,e1,e2,hz,h⟩:=h;have hm':∀b,Z b->Mut (H2 b):=fun b z=>XT s1 (hm b z);have r1:=tx.shd s0 hm s1 (Be e1);have r2:=ty.shd s0 hm s1 (Be e2);obtain⟨l,us,rfl,h1,k1⟩:=Rp.tup_inv r1;obtain⟨m,ws,rfl,h2,k2⟩:=Rp.tup_inv r2;refine⟨l,m,us,ws,rfl,rfl,SqT.of (off_sub _ _ h1),SqT.of (off_sub _ _ h2),by rw[k1.len,k2.len];exact Yy hz (by decide),fun e=>?_,fun _ e=>?_,fun _ _ p np=>?_⟩
 ·subst e;cases k1
  exact q _ _ _ h (Same.refl _) r2
 ·subst e;cases k2
  refine q _ _ _ h (Same.refl _) ?_;rw[YW];exact r1
 ·refine q _ _ _ h (U0 np) (.tup (Ur Ug fun z=>?_) (Rps.mono (JV (U0 np) fun _ _ _ z=>z) (k1.append k2)))
  have:=hm' p z
  rw[np]at this;exact this
def pIT(a:PTE):PTI:=fun γ R X=>a γ (fun s=>∃ds,tupD s.shd=some ds/\R ds.length fun i=>.sh (ds.getD i .non)) X
def Tg{te:TE}{a:PTE}(ha:SndE K mg E te a):SndI K mg E (iTup K te) (pIT a):=by
 intro H0 B H σ γ R X Q env h q qx;refine ha H0 B H σ γ _ X _ env h (fun s v H1 h1 S1 t1=>?_) qx;have env1:=env.grow S1;obtain⟨ds,ed,h1⟩:=h1;have r1:=t1.shd env1.same env.zm S1 (Be ed);obtain⟨l,vs,rfl,hl,k1⟩:=Rp.tup_inv r1;refine⟨l,rfl,⟨vs,SqT.of (off_sub _ _ hl)⟩,q _ _ _ H1 h1 S1 ⟨fun i H' Z' hi lt=>?_,fun H' Z' lt=>?_⟩⟩
 ·have hd:ds[i]?=some (ds.getD i .non):=by rw[Y1,Yj hi];rfl
  obtain⟨u,hu,tu⟩:=k1.get hd;have k:=off_sub _ _ (lt.off _ _ hl);refine⟨⟨vs,u,SqT.of k,hu⟩,fun x H'' y=>?_⟩;obtain⟨rfl,y⟩:=y
  have:=y vs (SqT.of k)
  rw[hu]at this;cases this
  exact⟨Same.refl _,Rp.mono lt.off tu⟩
 ·exact⟨vs,SqT.of (off_sub _ _ (lt.off _ _ hl)),by rw[k1.len];exact Yr _⟩
def Ht(a b:PTE):PTE:=fun γ R X=>a γ (fun y=>b γ (fun x=>∃ks u,P4 y.d=some ks/\N8 x.d=some u/\R (.own (.dT [(ks,u)]))) X) X
def Zb3{tk tv:TE}{a b:PTE}(ha:SndE K mg E tk a)(hb:SndE K mg E tv b):SndE K mg E (GI tk tv) (Ht a b):=by
 intro H0 B H σ γ R X Q env h q qx;intro p np;have S0:Same H (upd H p (.dT [])):=U0 np;have env0:=env.grow S0;refine ha H0 B _ σ γ _ X _ env0 h (fun y v H1 h1 S1 t1=>?_) fun c H' hc S'=>qx c H' hc (S0.trans S');have env1:=env0.grow S1;refine hb H0 B H1 σ γ _ X _ env1 h1 (fun x w H2 h2 S2 t2=>?_) fun c H' hc S'=>qx c H' hc ((S0.trans S1).trans S');have env2:=env1.grow S2;obtain⟨ks,u,k1,k2,k3⟩:=h2;have eu:=BY (t2.rp env2.same) k2;obtain⟨b',rfl,hb'⟩:=Tj (Rp.mono S2 (t1.rp env1.same)) k1;subst eu;refine⟨S2 _ _ (S1 _ _ Ug),b',ks,rfl,hb',q _ _ _ k3 (fun c o hc=>?_) ⟨p,rfl,(fun _ e=>e▸np),Ug⟩⟩
 have:c≠p:=fun e=>by subst e;rw[np]at hc;cases hc
 rw[JI this];exact S2 _ _ (S1 _ _ (S0 _ _ hc))
end
section
variable {X:Cx}{K:Za}
def TY{tg l:Expr}{tl:TE}(hl:PE X l tl)(hK:X.K=K:=by rfl):PI X tg l (iTup K tl):=by subst hK;exact Zbq hl
end
end Pu
namespace M
open PySem PySem.Spec PyProof.Rows L2 Own Pu
def tD(ms:List Int):D:=.tup (ms.map D.int)
def kT(ms:List Int):List Key:=ms.map Sum.inl
def I0(ms:List Int):arg (tD ms)=.sh (tD ms):=by
 unfold arg tD imm;rw[P2]
def TC{N:List Str}{ms:List Int}{ds:List D}:Kj N (tD ms::ds)=some (.sh (tD ms))::(ds.map (fun d=>some (arg d))++List.replicate (N.length-(ds.length+1)) none):=by
 unfold Kj;rw[YH,I0];rfl
def Nu(ms:List Int):P4 (tD ms)=some (kT ms):=by
 show P0 (ms.map D.int)=some (ms.map Sum.inl)
 induction ms with
 |nil=>rfl
 |cons m r ih=>
  rw[YH,YH];unfold P0;rw[ih];rfl
def Zbz(ms:List Int):tupD (some (tD ms))=some (ms.map D.int):=rfl
def JZ(ms:List Int)(h:Int):List Int:=ms.filter fun m=>decide (m≠h)
def Kl(ws:List (Int×Int))(ms:List Int)(h:Int):Bool:=!(ws.any fun q=>decide (q.1=h)&&decide (q.2∈ms))
def firstM(ws:List (Int×Int))(ms:List Int)(h:Int):Bool:=!(ws.any fun q=>decide (q.2=h)&&decide (q.1∈ms))
def Ul(hs:List Int):List (List Int):=hs.foldl (fun S h=>S++S.map (·++[h])) [[]]
def Pb(hs:List Int)(h:Int):Ul (hs++[h])=Ul hs++(Ul hs).map (·++[h]):=by
 unfold Ul;rw[List.foldl_append];rfl
def PM{P:List Int->Prop}(h0:P [])(h1:∀r h,P r->P (r++[h]))(l:List Int):P l:=by
 have key:∀r:List Int,P r.reverse:=fun r=>by
  induction r with
  |nil=>exact h0
  |cons a r ih=>rw[List.reverse_cons];exact h1 _ _ ih
 rw[←List.reverse_reverse l];exact key _
def CA(hs:List Int):(Ul hs).length=2 ^ hs.length:=by
 refine PM (P:=fun hs=>(Ul hs).length=2 ^ hs.length) rfl (fun r h ih=>?_) hs;rw[Pb,Yt,Yi,ih,Yt,Wi,Nat.pow_succ];omega
def Nd(hs:List Int):∀ms∈Ul hs,ms.Sublist hs:=by
 refine PM (P:=fun hs=>∀ms∈Ul hs,ms.Sublist hs) (fun ms h=>?_) (fun r h ih ms hm=>?_) hs
 ·have:ms=[]:=by simpa [Ul]using h
  subst this;exact .slnil
 ·rw[Pb,Y4]at hm;rcases hm with hm|hm
  ·exact(ih _ hm).trans (List.sublist_append_left _ _)
  ·obtain⟨n,hn,rfl⟩:=YU.mp hm;exact(ih _ hn).append (List.Sublist.refl _)
def oc(c:Int->Int->Int):List Int->Int
 |[]=>0
 |a::r=>(r.map (c a)).sum+oc c r
def Keeps(ws:List (Int×Int))(o:List Int):Prop:=o.Pairwise fun a b=>(b,a)∉ws
structure Least (ws:List (Int×Int)) (c:Int->Int->Int) (ms:List Int) (v:Int):Prop where
 is:∃o:List Int,o.Perm ms/\Keeps ws o/\oc c o=v
 le:∀o:List Int,o.Perm ms->Keeps ws o->v<=oc c o
def BG(c:Int->Int->Int)(l:Int):∀o:List Int,oc c (o++[l])=oc c o+(o.map (c · l)).sum
 |[]=>by simp[oc]
 |a::r=>by
  rw[W5];unfold oc;rw[BG c l r];simp only[Y5,YH,Vr,List.sum_append,Vm,List.sum_nil];omega
def Te{f:Int->Int}{xs ys:List Int}(h:xs.Perm ys):(xs.map f).sum=(ys.map f).sum:=by
 induction h with
 |nil=>rfl
 |cons x _ ih=>rw[YH,YH,Vm,Vm,ih]
 |swap x y l=>
  simp only[YH,Vm];omega
 |trans _ _ i1 i2=>exact i1.trans i2
def Kx{ms:List Int}{h:Int}(nd:ms.Nodup)(hm:h∈ms):ms.Perm (h::JZ ms h):=by
 have e:JZ ms h=ms.erase h:=by
  unfold JZ;rw[nd.erase_eq_filter];congr 1;funext m;by_cases z:m=h<;>simp[z,bne]
 rw[e];exact List.perm_cons_erase hm
def less_sub{ms:List Int}{h:Int}:(JZ ms h).Sublist ms:=Vb
def lastM_iff{ws:List (Int×Int)}{ms:List Int}{h:Int}:Kl ws ms h=true↔∀b∈ms,(h,b)∉ws:=by
 unfold Kl;rw[QG,Vn];constructor
 ·intro k b hb hw;exact k _ hw (by simp[hb])
 ·intro k q hq z;simp only[Y9,W2]at z;obtain⟨z1,z2⟩:=z;subst z1;exact k q.2 z2 hq
def firstM_iff{ws:List (Int×Int)}{ms:List Int}{h:Int}:firstM ws ms h=true↔∀b∈ms,(b,h)∉ws:=by
 unfold firstM;rw[QG,Vn];constructor
 ·intro k b hb hw;exact k _ hw (by simp[hb])
 ·intro k q hq z;simp only[Y9,W2]at z;obtain⟨z1,z2⟩:=z;subst z1;exact k q.1 z2 hq
def Lj{ws:List (Int×Int)}{c:Int->Int->Int}{ms:List Int}{vs:Int->Int}{M:Int}(nd:ms.Nodup)(hw:∀q∈ws,q.1≠q.2)(hv:∀l∈ms,Least ws c (JZ ms l) (vs l))(h1:∃l∈ms,Kl ws ms l=true/\M=vs l+((JZ ms l).map (c · l)).sum)(h2:∀l∈ms,Kl ws ms l=true->M<=vs l+((JZ ms l).map (c · l)).sum):Least ws c ms M:=by
 constructor
 ·obtain⟨l,hl,hlast,e⟩:=h1;obtain⟨o,o1,o2,o3⟩:=(hv l hl).is;refine⟨o++[l],?_,?_,?_⟩
  ·exact(List.perm_append_singleton l o).trans (((List.Perm.cons l o1)).trans (Kx nd hl).symm)
  ·refine Qu.mpr ⟨o2,List.pairwise_singleton _ _,fun a ha b hb=>?_⟩;rw[Ym.mp hb];exact lastM_iff.mp hlast a (less_sub.subset (o1.mem_iff.mp ha))
  ·rw[BG,o3,e,Te o1]
 ·intro o o1 o2;rcases W6 o with rfl|⟨p,l,rfl⟩
  ·obtain⟨l,hl,_⟩:=h1;rw[o1.nil_eq.symm]at hl;cases hl
  ·rw[Qq]at o1 o2 ⊢;have hl:l∈ms:=o1.mem_iff.mp (by simp);obtain⟨k1,_,k2⟩:=Qu.mp o2
   have pp:p.Perm (JZ ms l):=by
    have:=((List.perm_append_singleton l p).symm.trans o1).trans (Kx nd hl)
    exact this.cons_inv
   have hlast:Kl ws ms l=true:=lastM_iff.mpr fun b hb=>by
    rcases Yx.mp ((Kx nd hl).mem_iff.mp hb)with e|hb'
    ·subst e;exact fun z=>hw _ z rfl
    ·exact k2 b (pp.mem_iff.mpr hb') l (Ym.mpr rfl)
   have a1:=h2 l hl hlast;have a2:=(hv l hl).le p pp k1;rw[BG,Te pp];omega
def Co(a b:List Int)(l:Int):JZ (a++b) l=JZ a l++JZ b l:=List.filter_append ..
def DM{a:List Int}{l:Int}(h:l∉a):JZ a l=a:=List.filter_eq_self.mpr fun m hm=>Yl fun e=>h (e▸hm)
def Zau(hs:List Int):∃T,Ul hs=[]::T:=by
 refine PM (P:=fun hs=>∃T,Ul hs=[]::T) ⟨[],rfl⟩ (fun r h ⟨T,e⟩=>?_) hs;rw[Pb,e];exact⟨_,rfl⟩
def ID(hs:List Int):(Ul hs).getLast?=some hs:=by
 refine PM (P:=fun hs=>(Ul hs).getLast?=some hs) rfl (fun r h e=>?_) hs;rw[Pb,List.getLast?_append,List.getLast?_map,e];rfl
def Zaq{hs:List Int}:hs.Nodup->(Ul hs).Nodup:=by
 refine PM (P:=fun hs=>hs.Nodup->(Ul hs).Nodup) (fun _=>by simp[Ul]) (fun r h ih nd=>?_) hs;obtain⟨n1,_,n2⟩:=W1.mp nd;rw[Pb];refine W1.mpr ⟨ih n1,?_,fun a ha b hb e=>?_⟩
 ·exact List.Pairwise.map _ (fun a b hne e=>hne (List.append_cancel_right e)) (ih n1)
 ·obtain⟨c,hc,rfl⟩:=YU.mp hb;subst e;exact n2 h ((Nd r _ ha).subset (by simp)) h (by simp) rfl
def Au{hs:List Int}:hs.Nodup->∀(k:Nat) (ms:List Int),(Ul hs)[k]?=some ms->∀l∈ms,∃j:Nat,j<k/\(Ul hs)[j]?=some (JZ ms l):=by
 refine PM (P:=fun hs=>hs.Nodup->∀(k:Nat) (ms:List Int),(Ul hs)[k]?=some ms->∀l∈ms,∃j:Nat,j<k/\(Ul hs)[j]?=some (JZ ms l)) (fun _ k ms e l hl=>?_) (fun r h ih nd k ms e l hl=>?_) hs
 ·have:ms=[]:=by
   have:=Y8 e
   simpa [Ul]using this
  subst this;cases hl
 ·obtain⟨n1,_,n2⟩:=W1.mp nd;rw[Pb]at e ⊢;by_cases hk:k<(Ul r).length
  ·rw[YM hk]at e;obtain⟨j,hj,ej⟩:=ih n1 k ms e l hl;exact⟨j,hj,by rw[YM (by omega)];exact ej⟩
  ·rw[YO (by omega),Yw]at e;cases q:(Ul r)[k-(Ul r).length]? with
   |none=>rw[q]at e;cases e
   |some n=>
    rw[q]at e;cases e
    have hh:h∉n:=fun z=>n2 h ((Nd r n (Y8 q)).subset z) h (by simp) rfl;by_cases el:l=h
    ·subst el
     have e1:JZ (n++[l]) l=n:=by
      rw[Co,DM hh];simp[JZ]
     obtain⟨j,hj,ej⟩:=YE.mp (Y8 q);refine⟨j,by omega,?_⟩;rw[YM hj,e1,Yj hj,ej]
    ·have hln:l∈n:=by
      rcases Y4.mp hl with z|z
      ·exact z
      ·exact absurd (Ym.mp z) el
     have e1:JZ (n++[h]) l=JZ n l++[h]:=by
      rw[Co];congr 1;exact DM fun z=>el (Ym.mp z)
     obtain⟨j,hj,ej⟩:=ih n1 _ n q l hln;refine⟨(Ul r).length+j,by omega,?_⟩;rw[YO (by omega),Yw,Nat.add_sub_cancel_left,ej,e1];rfl
def A3{a b:List Int}(h:kT a=kT b):a=b:=List.map_inj_right (fun _ _=>Sum.inl.inj) |>.mp h
def AR(hs:List Int)(ws:List (Int×Int)):Prop:=∀ms:List Int,ms.Sublist hs->ms≠[]->∃l∈ms,∀b∈ms,(l,b)∉ws
structure Tab (ws:List (Int×Int)) (c:Int->Int->Int) (S:List (List Int)) (kvs:List (List Key×V)):Prop where
 keys:kvs.map (·.1)=S.map kT
 val:∀ms∈S,∃v,valV kvs (kT ms)=some (.int v)/\Least ws c ms v
def O1(ws:List (Int×Int))(c:Int->Int->Int):Tab ws c [[]] [([],.int 0)]:=by
 refine⟨rfl,fun ms hm=>?_⟩;rw[Ym.mp hm];refine⟨0,rfl,⟨[],.refl _,.nil,rfl⟩,fun o ho _=>?_⟩;rw[ho.eq_nil];exact Int.le_refl _
def Tab.put {ws:List (Int×Int)}{c:Int->Int->Int}{S:List (List Int)}{kvs:List (List Key×V)}{ms:List Int}{v:Int} (T:Tab ws c S kvs) (hn:ms∉S) (L:Least ws c ms v):Tab ws c (S++[ms]) (putK kvs (kT ms) (.int v)):=by
 have no:valV kvs (kT ms)=none:=by
  cases e:valV kvs (kT ms)with
  |none=>rfl
  |some u=>
   unfold valV at e;cases q:kvs.find? (fun kv=>decide (kv.1=kT ms))with
   |none=>rw[q]at e;cases e
   |some x=>
    have h1:=List.mem_of_find?_eq_some q;have h2:=List.find?_some q;have h3:x.1∈kvs.map (·.1):=YU.mpr ⟨x,h1,rfl⟩;rw[T.keys,Yp h2]at h3;obtain⟨n,hn',e'⟩:=YU.mp h3;rw[A3 e']at hn';exact absurd hn' hn
 constructor
 ·rw[Ie _ no,Y5,Y5,T.keys];rfl
 ·intro n hn';rw[T9];by_cases e:n=ms
  ·subst e;exact⟨v,Yn rfl,L⟩
  ·rw[Yo fun z=>e (A3 z)];rcases Y4.mp hn' with z|z
   ·exact T.val n z
   ·exact absurd (Ym.mp z) e
open Classical in
def El{ms:List Int}{P:Int->Int->Prop}(h:∀l∈ms,∃v,P l v):∃f:Int->Int,∀l∈ms,P l (f l):=
 ⟨fun l=>if hl:l∈ms then Classical.choose (h l hl)else 0,fun l hl=>by
  simp only[dif_pos hl];exact Classical.choose_spec (h l hl)⟩
def Mz{ls:List Int}{ws:List (Int×Int)}{r:List Int}(R:Ring ls (ws.map fun q=>(q.2,q.1)) r):Ring ls ws r.reverse:=by
 have sw:∀{x y:Int},(x,y)∈(ws.map fun q=>(q.2,q.1))->(y,x)∈ws:=fun h=>by
  obtain⟨q,hq,e⟩:=YU.mp h;cases e
  exact hq
 refine⟨by rw[Vc];exact R.two,List.pairwise_reverse.mpr (R.nodup.imp fun h=>Ne.symm h),fun x hx=>R.sub x (List.mem_reverse.mp hx),fun i x y h1 h2=>?_,fun x y h1 h2=>?_⟩
 ·have hi:i+1<r.length:=by
   have:=(Y2.mp h2).1
   rw[Vc]at this;exact this
  rw[QN (by omega)]at h1 h2;exact sw (R.chain (r.length-1-(i+1)) y x h2 (by rw[←h1];congr 1;omega))
 ·have two:=R.two;rw[QN (by omega)]at h1;rw[Vc,QN (by omega)]at h2;exact sw (R.last y x (by rw[←h2];congr 1;omega) (by rw[←h1];congr 1))
def Zad{hs:List Int}{ws:List (Int×Int)}(hu:∀q∈ws,q.1≠q.2)(h:¬ ∃r,Ring hs ws r):AR hs ws:=fun ms hm hne=>by
 refine YN fun z=>h ?_
 have h1:∀x∈ms,∃y∈ms,(y,x)∈(ws.map fun q=>(q.2,q.1)):=fun x hx=>by
  refine YN fun k=>z ⟨x,hx,fun b hb hw=>k ⟨b,hb,YU.mpr ⟨_,hw,rfl⟩⟩⟩
 obtain⟨r,R⟩:=Ds (ws:=ws.map fun q=>(q.2,q.1)) (fun q hq=>by
  obtain⟨p,hp,e⟩:=YU.mp hq;subst e;exact fun e=>hu p hp e.symm) hne h1
 have F:=Mz R;exact⟨_,F.two,F.nodup,fun x hx=>hm.subset (F.sub x hx),F.chain,F.last⟩
structure Best (ws:List (Int×Int)) (c:Int->Int->Int) (ms o:List Int):Prop where
 perm:o.Perm ms
 keeps:Keeps ws o
 le:∀p:List Int,p.Perm ms->Keeps ws p->oc c o<=oc c p
 first:∀p:List Int,p.Perm ms->Keeps ws p->oc c p=oc c o->o=p\/sl o p
def Rk(ws:List (Int×Int))(c:Int->Int->Int):Best ws c [] []:=by
 refine⟨.refl _,.nil,fun p hp _=>?_,fun p hp _ _=>.inl hp.eq_nil.symm⟩;rw[hp.eq_nil];exact Int.le_refl _
def DZ{ws:List (Int×Int)}{c:Int->Int->Int}{ms:List Int}{vs:Int->Int}{V g:Int}{p:List Int}(nd:ms.Nodup)(hu:∀q∈ws,q.1≠q.2)(hv:∀l∈ms,Least ws c (JZ ms l) (vs l))(hV:Least ws c ms V)(hp:(g::p).Perm ms)(hk:Keeps ws (g::p))(e:oc c (g::p)=V):g∈ms/\firstM ws ms g=true/\vs g+((JZ ms g).map (c g)).sum=V/\p.Perm (JZ ms g)/\oc c p=vs g:=by
 have hg:g∈ms:=hp.mem_iff.mp (YL ..);have pp:p.Perm (JZ ms g):=(hp.trans (Kx nd hg)).cons_inv;obtain⟨k1,k2⟩:=WK.mp hk
 have hf:firstM ws ms g=true:=firstM_iff.mpr fun b hb=>by
  rcases Yx.mp ((Kx nd hg).mem_iff.mp hb)with e|hb'
  ·subst e;exact fun z=>hu _ z rfl
  ·exact k1 b (pp.mem_iff.mpr hb')
 have a1:=(hv g hg).le p pp k2;obtain⟨o,o1,o2,o3⟩:=(hv g hg).is;have a2:=hV.le (g::o) ((List.Perm.cons g o1).trans (Kx nd hg).symm) (WK.mpr ⟨fun b hb=>firstM_iff.mp hf b (less_sub.subset (o1.mem_iff.mp hb)),o2⟩);have e1:oc c (g::p)=(p.map (c g)).sum+oc c p:=rfl;have e2:oc c (g::o)=(o.map (c g)).sum+oc c o:=rfl;have s1:=Te (f:=c g) pp;have s2:=Te (f:=c g) o1;exact⟨hg,hf,by omega,pp,by omega⟩
def Ru{ws:List (Int×Int)}{c:Int->Int->Int}{ms o:List Int}{vs:Int->Int}{V f:Int}(nd:ms.Nodup)(hu:∀q∈ws,q.1≠q.2)(hv:∀l∈ms,Least ws c (JZ ms l) (vs l))(hV:Least ws c ms V)(hf:f∈ms)(h1:firstM ws ms f=true)(h2:vs f+((JZ ms f).map (c f)).sum=V)(h3:∀g∈ms,firstM ws ms g=true->vs g+((JZ ms g).map (c g)).sum=V->f<=g)(B:Best ws c (JZ ms f) o):Best ws c ms (f::o):=by
 have eo:oc c o=vs f:=by
  obtain⟨p,p1,p2,p3⟩:=(hv f hf).is
  have:=(hv f hf).le o B.perm B.keeps
  have:=B.le p p1 p2
  omega
 have es:=Te (f:=c f) B.perm
 have e:oc c (f::o)=V:=by
  show(o.map (c f)).sum+oc c o=V;omega
 refine⟨(List.Perm.cons f B.perm).trans (Kx nd hf).symm,WK.mpr ⟨fun b hb=>firstM_iff.mp h1 b (less_sub.subset (B.perm.mem_iff.mp hb)),B.keeps⟩,fun p p1 p2=>?_,fun p p1 p2 p3=>?_⟩
 ·rw[e];exact hV.le p p1 p2
 ·cases p with
  |nil=>rw[p1.nil_eq.symm]at hf;cases hf
  |cons g p=>
   obtain⟨q1,q2,q3,q4,q5⟩:=DZ nd hu hv hV p1 p2 (p3.trans e);have hle:=h3 g q1 q2 q3;by_cases eg:f=g
   ·subst eg;rcases B.first p q4 (WK.mp p2).2 (q5.trans eo.symm)with z|z
    ·exact .inl (by rw[z])
    ·exact .inr (sl_cons.mpr z)
   ·exact .inr (.inl (by omega))
end M
namespace Pu
open PySem PySem.Spec PyProof.Rows L2 Own
section
variable {K:Za}{mg:Str->Option Value}{E:L2.St->XK}{H0 H H1 H':Hp}{B Z Z':Addr->Prop}{σ:L2.St}{γ:Γ}
def O.from:O->O->Prop
 | .ins x _ _ cs,.ins x' _ _ cs'=>x'=x/\∀c∈cs,∃c'∈cs',c'.1=c.1
 | .lsA x _,.lsA x' _=>x'=x
 |_,_=>False
def O.from_adr {o o':O}{a:Addr} (h:o.from o'):∀b,o.adr a b->o'.adr a b:=by
 unfold O.from at h
 split at h
 ·intro b hb;rcases hb with hb|⟨c,hc,hb⟩
  ·exact .inl (hb.trans h.1.symm)
  ·obtain⟨c',q1,q2⟩:=h.2 c hc;exact .inr ⟨c',q1,hb.trans q2.symm⟩
 ·intro b hb;exact(show b=_ from hb).trans h.symm
 ·exact h.elim
def O.from_at {o o':O}{a a':Addr}{F F' H H':Hp} (h:o.from o') (h1:OR K F H a o) (h2:OR K F' H' a' o'):a'=a:=by
 unfold O.from at h
 split at h
 ·exact h2.1.trans (h.1.trans h1.1.symm)
 ·exact h2.1.trans (h.trans h1.1.symm)
 ·exact h.elim
abbrev Pw:=O->List S->(O->D->Prop)->(O->Str->Prop)->Prop
def S.pass:S->Option S
 | .sh d=>some (.sh d) | .own o=>some (.sh o.d)
 | .bor d=>match imm d with|true=>some (.sh d)|false=>some (.bor d)
 | .tmp d=>match imm d with|true=>some (.sh d)|false=>none
 | .view _=>none
def S.flat:S->Prop
 | .sh _=>True | .bor _=>True|_=>False
def passes:List S->Option (List S)
 |[]=>some []
 |s::r=>match s.pass,passes r with|some s',some r'=>some (s'::r')|_,_=>none
structure After (K:Za) (B:Addr->Prop) (H:Hp) (a:Addr) (o o':O) (H':Hp):Prop where
 same:Same (off (o.adr a) H) H'
 old:∀b,o.adr a b->o'.adr a b
 new:∀b,o'.adr a b->o.adr a b\/H b=none
 at_:OR K (off (fun b=>B b\/o'.adr a b) H') H' a o'
def spW(mg:Str->Option Value)(c:Pw)(K:Za):Sp:=fun vs H Q E=>∃(o:O) (a:Addr) (ss:List S) (us:List V) (B:Addr->Prop) (R:O->D->Prop) (X:O->Str->Prop),
 vs=.ref a::us/\(∀b,B b->Mut (H b)/\¬o.adr a b)/\OR K (off (fun b=>B b\/o.adr a b) H) H a o/\TVs K (fun b=>B b\/o.adr a b) (off (o.adr a) H) H H ss us/\(∀s∈ss,s.flat)/\c o ss R X/\
 (∀o' d v H',R o' d->After K B H a o o' H'->Rp K (off (fun b=>B b\/o'.adr a b) H') d v->Q v H')/\∀o' e H',X o' e->After K B H a o o' H'->XE mg E e H'
def TVs.get:∀{ss:List S}{vs:List V}{i:Nat}{s:S},TVs K Z H0 H H' ss vs->ss[i]?=some s->∃v,vs[i]?=some v/\TV K Z H0 H H' s v
 |_,_,_,_,.nil,e=>by simp at e
 |_,_,0,_,.cons h _,e=>by simp at e;subst e;exact⟨_,rfl,h⟩
 |_,_,i+1,s,.cons _ r,e=>by
  obtain⟨v,h1,h2⟩:=TVs.get (i:=i) (s:=s) r (by simpa using e);exact⟨v,by simpa using h1,h2⟩
def K0(N:List Str)(o:O)(ss:List S):Γ:=some (.own o)::(ss.map some++List.replicate (N.length-(ss.length+1)) none)
def Zea{N:List Str}{o:O}{a:Addr}{ss:List S}{us:List V}(hB:∀b,B b->Mut (H b)/\¬o.adr a b)(ho:OR K (off (fun b=>B b\/o.adr a b) H) H a o)(r:TVs K (fun b=>B b\/o.adr a b) (off (o.adr a) H) H H ss us)(hf:∀s∈ss,s.flat)(hn:ss.length+1<=N.length) :
  EnvR K (off (o.adr a) H) B H (start N (.ref a::us)) (K0 N o ss):=by
 have hlen:=r.len
 have get:∀(i:Nat) (s:S),(K0 N o ss)[i+1]?=some (some s)->ss[i]?=some s:=fun i s h=>by
  unfold K0 at h;rw[Wd]at h;by_cases hi:i<ss.length
  ·rw[YM (by rw[Yi];exact hi),Yw,Yj hi]at h;rw[Yj hi];exact YQ some (Yv (Yv h))
  ·rw[YO (by rw[Yi];omega),WB]at h;split at h<;>cases h
 have noown:∀(i:Nat) (es:O),(K0 N o ss)[i+1]?≠some (some (.own es)):=fun i es h=>hf _ (Y8 (get i _ h))
 have st0:(start N (V.ref a::us))[0]?=some (some (.ref a)):=by
  unfold L2.start;rfl
 have hz:∀b,zof B (K0 N o ss) (start N (V.ref a::us)) b->B b\/o.adr a b:=fun b z=>by
  rcases z with z|⟨i,es,a',h1,h2,h3⟩
  ·exact .inl z
  ·cases i with
   |zero=>
    rw[st0]at h2;cases h2
    have:o=es:=by
     have h1:some (some (S.own o))=some (some (S.own es)):=h1;cases h1
     rfl
    subst this;exact .inr h3
   |succ i=>exact absurd h1 (noown i es)
 refine⟨off_sub,?_,fun b h=>(hB b h).1,fun i j x x' es es' b h1 h2 _ _ _ _=>?_,fun i s h=>?_⟩
 ·unfold L2.start K0;simp[hlen]
 ·cases i with
  |succ i=>exact absurd h1 (noown i es)
  |zero=>
   cases j with
   |zero=>rfl
   |succ j=>exact absurd h2 (noown j es')
 ·cases i with
  |zero=>
   have h:some (some (S.own o))=some (some s):=h;cases h
   refine⟨_,st0,a,rfl,fun b hb=>?_,ho.mono (JV (Same.refl _) fun b _ _ z y=>z (hz b y)) fun _ _ _ q=>q⟩;unfold off;rw[Yn hb]
  |succ i=>
   have hs:=get i s h;obtain⟨v,hv,tv⟩:=r.get hs;refine⟨v,?_,?_⟩
   ·unfold L2.start;rw[YM (by rw[Yi,Y6];have:=(Y2.mp hv).1;omega),Yw,Wd,hv];rfl
   ·have:=hf s (Y8 hs)
    cases s with
    |bor d=>exact tv
    |sh d=>exact Rp.mono (JV (Same.refl _) fun b _ _ z y=>z (hz b y)) tv
    |own _=>exact this.elim
    |view _=>exact this.elim
    |tmp _=>exact this.elim
def finW(o:O)(R:O->D->Prop)(γ:Γ)(d:D):Prop:=∃o',γ[0]?=some (some (.own o'))/\o.from o'/\R o' d
def finX(o:O)(X:O->Str->Prop)(γ:Γ)(e:Str):Prop:=∃o',γ[0]?=some (some (.own o'))/\o.from o'/\X o' e
def Aw(o:O)(R:O->D->Prop)(X:O->Str->Prop):PEnds:={nx:=fun γ=>finW o R γ .non,rt:=fun _=>False,ex:=finX o X,rv:=finW o R}
def Fq{a:Addr}{o o':O}{σ':L2.St}{γ':Γ}(ho:OR K (off (fun b=>B b\/o.adr a b) H) H a o)(e:EnvR K (off (o.adr a) H) B H' σ' γ')(h:γ'[0]?=some (some (.own o')))(k:o.from o'):After K B H a o o' H'/\∀b,B b\/o'.adr a b->zof B γ' σ' b:=by
 obtain⟨v,h1,a',rfl,h2,h3⟩:=e.slot 0 _ h;have ea:=O.from_at k ho h3;subst ea;have hz:∀b,B b\/o'.adr a' b->zof B γ' σ' b:=fun b z=>z.imp id fun z=>⟨0,o',a',h,h1,z⟩;refine⟨⟨e.same,O.from_adr k,fun b hb=>?_,h3.mono (JV (Same.refl _) fun b _ _ z y=>z (hz b y)) fun _ _ _ q=>q⟩,hz⟩
 have:=h2 b hb
 unfold off at this;by_cases q:o.adr a' b
 ·exact .inl q
 ·rw[Yo q]at this;exact .inr this
def Lg{c:Pw}{N:List Str}{t:TS}{p:PTS}{vs:List V}{Q:VK}{Ec:XK}{n:Nat}(h:spW mg c K vs H Q Ec)(snd:SndS K mg (fun _=>Ec) t p)(hn:n+1<=N.length)(hp:∀o ss R X,c o ss R X->ss.length=n/\p (Aw o R X) (K0 N o ss)):t {nx:=fun _ H'=>Q .non H',rt:=Q} (start N vs) H:=by
 obtain⟨o,a,ss,us,B,R,X,rfl,hB,ho,r,hf,hc,hQ,hX⟩:=h;obtain⟨e,hp⟩:=hp o ss R X hc;have env:=Zea (N:=N) hB ho r hf (by rw[e];exact hn);refine snd _ B H _ _ _ _ (fun b z=>?_) env hp ⟨fun σ' γ' H' h1 e1 f1=>?_,fun _ _ _ z=>z.elim,fun σ' γ' c H' h1 e1 f1=>?_,fun _ _ _ z=>z.elim,fun _ _ _ z=>z.elim,fun σ' γ' d v H' h1 e1 f1 rd=>?_⟩
 ·obtain⟨q1,q2⟩:=hB b z;obtain⟨x,hx⟩:=Kv q1;exact⟨x,Ur hx q2⟩
 ·obtain⟨o',q1,q2,q3⟩:=h1;exact hQ o' .non .non H' q3 (Fq ho e1 q1 q2).1 .non
 ·obtain⟨o',q1,q2,q3⟩:=h1;exact hX o' c H' q3 (Fq ho e1 q1 q2).1
 ·obtain⟨o',q1,q2,q3⟩:=h1;obtain⟨k1,k2⟩:=Fq ho e1 q1 q2;exact hQ o' d v H' q3 k1 (Rp.mono (JV (Same.refl _) fun b _ _ z y=>z (k2 b y)) rd)
def Ih{c:Pw}{vs:List V}{Q:VK}{Ec:XK}{n:Nat}(h:spW mg c K vs H Q Ec)(hn:∀o ss R X,c o ss R X->ss.length=n):vs.length=n+1:=by
 obtain⟨o,a,ss,us,B,R,X,rfl,_,_,r,_,hc,_⟩:=h;rw[Y6,r.len,hn o ss R X hc]
abbrev PTW:=Γ->(Γ->D->Prop)->(Γ->Str->Prop)->Prop
def SndW(K:Za)(mg:Str->Option Value)(E:L2.St->XK)(t:TE)(p:PTW):Prop:=∀(H0:Hp) (B:Addr->Prop) (H:Hp) (σ:L2.St) (γ:Γ) (R:Γ->D->Prop) (X:Γ->Str->Prop) (Q:VK),(∀b,B b->∃o,H0 b=some o)->EnvR K H0 B H σ γ->p γ R X->
 (∀γ' d v H',R γ' d->EnvR K H0 B H' σ γ'->Fr B H σ γ H' σ γ'->Rp K (off (zof B γ' σ) H') d v->Q v H')->(∀γ' c H',X γ' c->EnvR K H0 B H' σ γ'->Fr B H σ γ H' σ γ'->XE mg (E σ) c H')->t σ H Q
variable {te:TE}{w:PTW}
def HC(w:PTW)(g:PTG):PTS:=fun R γ=>w γ (fun γ' d=>g (.sh d) γ' R.nx) R.ex
def IB{is:List Nat}{g:TG}{pg:PTG}(hw:SndW K mg E te w)(hg:Pg K is g pg):SndS K mg E (tAsg te g) (HC w pg):=by
 intro H0 B H σ γ R D hB env h e;refine hw H0 B H σ γ _ _ _ hB env h (fun γ' d v H1 h1 e1 f1 rd=>?_) fun γ' c H' hc e' f'=>e.ex σ γ' c H' hc e' f';exact hg H0 B H1 H1 σ γ' (.sh d) v _ _ e1 (Same.refl _) rd h1 fun σ2 γ2 h2 e2 f2 _=>e.nx σ2 γ2 H1 h2 e2 (f1.trans f2)
def On(w:PTW):PTS:=fun R γ=>w γ (fun γ' _=>R.nx γ') R.ex
def KS(hw:SndW K mg E te w):SndS K mg E (NM te) (On w):=by
 intro H0 B H σ γ R D hB env h e;exact hw H0 B H σ γ _ _ _ hB env h (fun γ' d v H1 h1 e1 f1 _=>e.nx σ γ' H1 h1 e1 f1) fun γ' c H' hc e' f'=>e.ex σ γ' c H' hc e' f'
def M7(w:PTW):PTS:=fun R γ=>w γ R.rv R.ex
def XU(hw:SndW K mg E te w):SndS K mg E (tRet te) (M7 w):=by
 intro H0 B H σ γ R D hB env h e;exact hw H0 B H σ γ _ _ _ hB env h (fun γ' d v H1 h1 e1 f1 rd=>e.rv σ γ' d v H1 h1 e1 f1 rd) fun γ' c H' hc e' f'=>e.ex σ γ' c H' hc e' f'
def Hu(a:PTE):PTS:=fun R γ=>a γ (fun s=>match s.shd with|some d=>R.rv γ d|none=>False) (R.ex γ)
def Nz{a:PTE}(ha:SndE K mg E te a):SndS K mg E (tRet te) (Hu a):=by
 intro H0 B H σ γ R D hB env h e;refine ha H0 B H σ γ _ _ _ env h (fun s v H1 h1 S1 t1=>?_) fun c H' hc S'=>e.ex σ γ c H' hc (env.grow S') (Fr.grow S');split at h1
 ·rename_i d ed;exact e.rv σ γ d v H1 h1 (env.grow S1) (Fr.grow S1) (t1.shd (env.grow S1).same env.zm S1 ed)
 ·exact h1.elim
def RS{s s':S}(h:s.pass=some s'):s'.flat:=by
 cases s with
 |sh d=>cases h;trivial
 |own o=>cases h;trivial
 |bor d=>unfold S.pass at h;cases q:imm d<;>simp[q]at h<;>subst h<;>trivial
 |tmp d=>
  unfold S.pass at h;cases q:imm d<;>simp[q]at h
  subst h;trivial
 |view o=>cases h
def Ni:∀{ss ss':List S},passes ss=some ss'->∀s∈ss',s.flat
 |[],_,h=>by cases h;simp
 |s::r,_,h=>by
  unfold passes at h;split at h
  ·rename_i s1 r1 e1 e2;cases h
   intro x hx;rcases Yx.mp hx with rfl|hx
   ·exact RS e1
   ·exact Ni e2 x hx
  ·cases h
def TV.pass {s s':S}{v:V}{P W:Addr->Prop}{HB:Hp} (h0:Same H0 H') (hm:∀b,Z b->Mut (H b)) (S1:Same H H') (hb:Same H0 (off P HB)) (hs:Same (off Z H') (off W HB)) (h:TV K Z H0 H H' s v) (e:s.pass=some s'):TV K W (off P HB) HB HB s' v:=by
 have shd:∀d,s.shd=some d->Rp K (off W HB) d v:=fun d ed=>Rp.mono hs (h.shd h0 hm S1 ed);cases s with
 |sh d=>cases e;exact shd _ rfl
 |own o=>cases e;exact shd _ rfl
 |view o=>cases e
 |tmp d=>
  unfold S.pass at e;cases q:imm d with
  |false=>simp[q]at e
  |true=>simp[q]at e;subst e;exact shd d (by unfold S.shd;simp[q])
 |bor d=>
  unfold S.pass at e;cases q:imm d with
  |false=>simp[q]at e;subst e;exact Rp.mono hb h
  |true=>simp[q]at e;subst e;exact shd d (by unfold S.shd;simp[q])
def TVs.pass {P W:Addr->Prop}{HB:Hp} (h0:Same H0 H') (hm:∀b,Z b->Mut (H b)) (S1:Same H H') (hb:Same H0 (off P HB)) (hs:Same (off Z H') (off W HB)):∀{ss ss':List S}{vs:List V},TVs K Z H0 H H' ss vs->passes ss=some ss'->TVs K W (off P HB) HB HB ss' vs
 |_,_,_,.nil,e=>by cases e;exact .nil
 |_,_,_,.cons h r,e=>by
  unfold passes at e;split at e
  ·rename_i s1 r1 e1 e2;cases e
   exact .cons (h.pass h0 hm S1 hb hs e1) (TVs.pass h0 hm S1 hb hs r e2)
  ·cases e
def Bw{c:Pw}{i:Nat}{o:O}{a:Addr}{ss ss':List S}{us:List V}{R:Γ->D->Prop}{X:Γ->Str->Prop}{Q:VK}{Ec:XK}(env:EnvR K H0 B H σ γ)(hB:∀b,B b->∃o,H0 b=some o)(S1:Same H H1)(hi:γ[i]?=some (some (.own o)))(ha:σ[i]?=some (some (.ref a)))(t1:TVs K (zof B γ σ) H0 H H1 ss us)(hp:passes ss=some ss')(hc:c o ss' (fun o' d=>R (γ.set i (some (.own o'))) d) (fun o' e=>X (γ.set i (some (.own o'))) e))(q:∀γ' d v H',R γ' d->EnvR K H0 B H' σ γ'->Fr B H σ γ H' σ γ'->Rp K (off (zof B γ' σ) H') d v->Q v H')(qx:∀γ' c H',X γ' c->EnvR K H0 B H' σ γ'->Fr B H σ γ H' σ γ'->XE mg Ec c H'):spW mg c K (.ref a::us) H1 Q Ec:=by
 have env1:=env.grow S1;obtain⟨v,h1,a',ev,h3,h4⟩:=env1.slot i _ hi;rw[ha]at h1;cases h1
 cases ev
 have za:∀b,o.adr a b->zof B γ σ b:=fun b hb=>.inr ⟨i,o,a,hi,ha,hb⟩
 have aft:∀o' H',After K (fun b=>zof B γ σ b/\¬o.adr a b) H1 a o o' H'->EnvR K H0 B H' σ (γ.set i (some (.own o')))/\Fr B H σ γ H' σ (γ.set i (some (.own o')))/\∀b x,H' b=some x->¬((zof B γ σ b/\¬o.adr a b)\/o'.adr a b)->¬zof B (γ.set i (some (.own o'))) σ b:=fun o' H' A=>by
  have hzz:∀b x,H' b=some x->¬((zof B γ σ b/\¬o.adr a b)\/o'.adr a b)->¬zof B (γ.set i (some (.own o'))) σ b:=fun b x _ n z=>by
   rcases z with z|⟨j,fs,a',e1,e2,e3⟩
   ·refine n (.inl ⟨.inl z,fun w=>?_⟩);obtain⟨u,hu⟩:=hB b z;rw[h3 b w]at hu;cases hu
   ·rcases Uu e1 with⟨ej,q,_⟩|⟨nj,q⟩
    ·subst ej;cases q
     rw[ha]at e2;cases e2
     exact n (.inr e3)
    ·exact n (.inl ⟨.inr ⟨j,fs,a',q,e2,e3⟩,fun w=>nj (env.own j i a' a fs o b q hi e2 ha e3 w)⟩)
  obtain⟨k1,k2⟩:=env1.change (o':=o') (H':=H') hi ha (fun b x hx n=>A.same b x (Ur hx n)) (fun b hb=>A.at_.mut b (A.old b hb)) A.new (A.at_.mono (JV (Same.refl _) fun b x hx z=>hzz b x hx z) fun _ _ _ q=>q);exact⟨k1,(Fr.grow S1).trans k2,hzz⟩
 refine⟨o,a,ss',us,fun b=>zof B γ σ b/\¬o.adr a b,_,_,rfl,fun b hb=>⟨env1.zm b hb.1,hb.2⟩,h4.mono (JV (Same.refl _) fun b _ _ z y=>z (y.elim (fun y=>y.1) (za b))) fun _ _ _ q=>q,?_,Ni hp,hc,fun o' d v H' hR A rd=>?_,fun o' e H' hX A=>?_⟩
 ·refine t1.pass env1.same env.zm S1 (fun b x hx=>Ur (env1.same b x hx) fun w=>?_) (JV (Same.refl _) fun b _ _ z y=>z (y.elim (fun y=>y.1) (za b))) hp;rw[h3 b w]at hx;cases hx
 ·obtain⟨k1,k2,k3⟩:=aft o' H' A;exact q _ d v H' hR k1 k2 (Rp.mono (fun b x h=>let ⟨p1,p2⟩:=XJ h;Ur p1 (k3 b x p1 p2)) rd)
 ·obtain⟨k1,k2,_⟩:=aft o' H' A;exact qx _ e H' hX k1 k2
def Ze2(i:Nat)(c:Pw)(r:PTA):PTW:=fun γ R X=>match γ[i]? with
 |some (some (.own o))=>r γ (fun ss=>match passes ss with|some ss'=>c o ss' (fun o' d=>R (γ.set i (some (.own o'))) d) (fun o' e=>X (γ.set i (some (.own o'))) e)|none=>False) (X γ)
 |_=>False
def CH(i:Nat)(c:Pw)(r:PTA):PTW:=fun γ R X=>match γ[i]? with
 |some (some (.own o))=>r γ (fun ss=>match passes ss with|some ss'=>c o ss' (fun o' d=>R (γ.set i (some (.own o'))) d) (fun _ _=>False)|none=>False) (X γ)
 |_=>False
def RX(i:Nat){c:Pw}{ta:TA}{r:PTA}(hr:SndA K mg E ta r):SndW K mg E (KA (spW mg c K) [] E0 (UH (tVar i) ta)) (CH i c r):=by
 intro H0 B H σ γ R X Q hB env h q qx;unfold CH at h;split at h
 ·rename_i o hi;obtain⟨v,hv,a,rfl,_,_⟩:=env.slot i _ hi;refine⟨_,hv,hr H0 B H σ γ _ _ _ env h (fun ss us H1 h1 S1 t1=>?_) fun c H' hc S'=>qx γ c H' hc (env.grow S') (Fr.grow S')⟩;show spW mg c K ((V.ref a::us)++[]) H1 Q E0;rw[YW];split at h1
  ·rename_i ss' ep;exact Bw (X:=fun _ _=>False) env hB S1 hi hv t1 ep h1 q fun _ _ _ z=>z.elim
  ·exact h1.elim
 ·exact h.elim
def fFld(C:Addr)(xs:List Str)(j:Nat):S->(S->Prop)->Prop
 | .view (.ins _ C' xs' cs),R=>C'=C/\xs'=xs/\∃c,cs[j]?=some c/\R (.view (.lst c.2))
 | .bor (.ins C' xs' ds),R=>C'=C/\xs'=xs/\∃d,ds[j]?=some d/\R (arg d)
 |_,_=>False
def pFld(C:Addr)(xs:List Str)(j:Nat)(a:PTE):PTE:=fun γ R X=>a γ (fun s=>fFld C xs j s R) X
def Rp.ins_inv {C:Addr}{xs:List Str}{ds:List D}{v:V} (h:Rp K H (.ins C xs ds) v):∃a dx vs,v=.ref a/\H a=some (.ins C dx (xs.zip vs))/\xs.length=vs.length/\Rps K H ds vs:=by
 cases h with
 |ins h e r=>exact⟨_,_,_,rfl,h,e,r⟩
def FldAt(f:Str)(xs:List Str)(j:Nat):Prop:=∀vs:List V,xs.length=vs.length->(xs.zip vs).lookup f=vs[j]?
def Tw{C:Addr}{f:Str}{xs:List Str}(j:Nat){a:PTE}(hc:Cls K C)(hn:NoAttr K C f)(hj:FldAt f xs j)(ha:SndE K mg E te a):SndE K mg E (tFld K te f) (pFld C xs j a):=by
 intro H0 B H σ γ R X Q env p q qx;refine ha H0 B H σ γ _ X _ env p (fun s v H1 h1 S1 t1=>?_) qx;have env1:=env.grow S1;unfold fFld at h1;split at h1
 ·rename_i x C' xs' cs;obtain⟨rfl,rfl,c,ec,hR⟩:=h1;obtain⟨b,rfl,e1,e2,⟨dx,e3⟩,e4,e5⟩:=t1;obtain⟨us,u1,u2⟩:=e4 c (Y8 ec);refine⟨b,_,dx,_,_,rfl,e3,hc,hn,?_,q _ _ H1 hR S1 ⟨c.1,rfl,us,u1,u2⟩⟩;rw[hj _ (by rw[Yi];exact e2),Yw,ec];rfl
 ·rename_i C' xs' ds;obtain⟨rfl,rfl,d,ed,hR⟩:=h1;obtain⟨b,dx,vs,rfl,e1,e2,e3⟩:=Rp.ins_inv (show Rp K H0 (.ins C' xs' ds) v from t1)
  obtain⟨u,hu,ru⟩:=e3.get ed;refine⟨b,_,dx,_,u,rfl,env1.same _ _ e1,hc,hn,by rw[hj _ e2];exact hu,q _ _ H1 hR S1 (argR env1.zm env1.same ru)⟩
 ·exact h1.elim
def Cs(C:Addr)(xs:List Str)(c:Pc)(a:PTE)(r:PTA):PTE:=fun γ R X=>a γ (fun s=>match s.d with
 | .ins C' xs' ds=>C'=C/\xs'=xs/\r γ (fun ss=>c (.ins C' xs' ds::ss.map S.d) (fun s=>R s.back) X) X
 |_=>False) X
def NoFld(m:Str)(xs:List Str):Prop:=∀vs:List V,(xs.zip vs).lookup m=none
def Fl(C:Addr)(m:Str)(sp:Sp)(E:L2.St->XK)(ta:TE)(t:TA):TE:=fun σ H Q=>ta σ H fun x H1=>∃a dx fs,x=.ref a/\H1 a=some (.ins C dx fs)/\fs.lookup m=none/\t σ H1 fun vs H2=>sp (x::(vs++[])) H2 Q (E σ)
def CF{C:Addr}{m:Str}{xs:List Str}{c:Pc}{ta:TA}{a:PTE}{r:PTA}(hx:NoFld m xs)(ha:SndE K mg E te a)(hr:SndA K mg E ta r):SndE K mg E (Fl C m (spOf mg c K) E te ta) (Cs C xs c a r):=by
 intro H0 B H σ γ R X Q env p q qx;refine ha H0 B H σ γ _ X _ env p (fun s v H1 h1 S1 t1=>?_) qx;have env1:=env.grow S1;split at h1
 ·rename_i C' xs' ds ed;obtain⟨rfl,rfl,h1⟩:=h1;have rs:=t1.rp env1.same;rw[ed]at rs;obtain⟨b,dx,vs,rfl,e1,e2,e3⟩:=Rp.ins_inv rs;refine⟨b,dx,_,rfl,e1,hx vs,hr H0 B H1 σ γ _ X _ env1 h1 (fun ss us H2 h2 S2 t2=>?_) fun c H' hc S'=>qx c H' hc (S1.trans S')⟩;have env2:=env1.grow S2;rw[YW];refine⟨_,_,X,Rps.cons (Rp.mono S2 rs) (t2.rps env2.same),h2,fun s v H' hs S3 tv=>q _ _ H' hs ((S1.trans S2).trans S3) (tv.back env2 (S1.trans S2) S3),fun e H' he S3=>qx e H' he ((S1.trans S2).trans S3)⟩
 ·exact h1.elim
def TU{C:Addr}{m:Str}{xs:List Str}{c:Pc}{ta:TA}{a:PTE}{r:PTA}{Ec:XK}(hx:NoFld m xs)(ha:SndE K mg (fun _=>Ec) te a)(hr:SndA K mg (fun _=>Ec) ta r):SndE K mg (fun _=>Ec) (KL C m (spOf mg c K) [] Ec te ta) (Cs C xs c a r):=CF (E:=fun _=>Ec) hx ha hr
def Ot(C:Addr)(xs:List Str)(c:Pc)(a:PTE)(r:PTA):PTE:=fun γ R X=>a γ (fun s=>match s.d with
 | .ins C' xs' ds=>C'=C/\xs'=xs/\r γ (fun ss=>c (.ins C' xs' ds::ss.map S.d) (fun s=>R s.back) fun _=>False) X
 |_=>False) X
def UL{C:Addr}{m:Str}{xs:List Str}{c:Pc}{ta:TA}{a:PTE}{r:PTA}(hx:NoFld m xs)(ha:SndE K mg E te a)(hr:SndA K mg E ta r):SndE K mg E (KL C m (spOf mg c K) [] E0 te ta) (Ot C xs c a r):=by
 intro H0 B H σ γ R X Q env p q qx;refine ha H0 B H σ γ _ X _ env p (fun s v H1 h1 S1 t1=>?_) qx;have env1:=env.grow S1;split at h1
 ·rename_i C' xs' ds ed;obtain⟨rfl,rfl,h1⟩:=h1;have rs:=t1.rp env1.same;rw[ed]at rs;obtain⟨b,dx,vs,rfl,e1,e2,e3⟩:=Rp.ins_inv rs;refine⟨b,dx,_,rfl,e1,hx vs,hr H0 B H1 σ γ _ X _ env1 h1 (fun ss us H2 h2 S2 t2=>?_) fun c H' hc S'=>qx c H' hc (S1.trans S')⟩;have env2:=env1.grow S2;rw[YW];exact⟨_,_,_,Rps.cons (Rp.mono S2 rs) (t2.rps env2.same),h2,fun s v H' hs S3 tv=>q _ _ H' hs ((S1.trans S2).trans S3) (tv.back env2 (S1.trans S2) S3),fun _ _ z=>z.elim⟩
 ·exact h1.elim
def F5(i:Nat)(C:Addr)(xs:List Str)(c:Pw)(r:PTA):PTW:=fun γ R X=>match γ[i]? with
 |some (some (.own (.ins x C' xs' cs)))=>C'=C/\xs'=xs/\r γ (fun ss=>match passes ss with|some ss'=>c (.ins x C' xs' cs) ss' (fun o' d=>R (γ.set i (some (.own o'))) d) (fun o' e=>X (γ.set i (some (.own o'))) e)|none=>False) (X γ)
 |_=>False
def RB(i:Nat){C:Addr}{m:Str}{xs:List Str}{c:Pw}{ta:TA}{r:PTA}(hx:NoFld m xs)(hr:SndA K mg E ta r):SndW K mg E (Fl C m (spW mg c K) E (tVar i) ta) (F5 i C xs c r):=by
 intro H0 B H σ γ R X Q hB env h q qx;unfold F5 at h;split at h
 ·rename_i x C' xs' cs hi;obtain⟨rfl,rfl,h⟩:=h;obtain⟨v,hv,a,rfl,_,e1,e2,⟨dx,e3⟩,e4⟩:=env.slot i _ hi;refine⟨_,hv,a,dx,_,rfl,e3,hx _,hr H0 B H σ γ _ _ _ env h (fun ss us H1 h1 S1 t1=>?_) fun c H' hc S'=>qx γ c H' hc (env.grow S') (Fr.grow S')⟩;rw[YW];split at h1
  ·rename_i ss' ep;exact Bw env hB S1 hi hv t1 ep h1 q qx
  ·exact h1.elim
 ·exact h.elim
def Nc(i:Nat){C:Addr}{m:Str}{xs:List Str}{c:Pw}{ta:TA}{r:PTA}{Ec:XK}(hx:NoFld m xs)(hr:SndA K mg (fun _=>Ec) ta r):SndW K mg (fun _=>Ec) (KL C m (spW mg c K) [] Ec (tVar i) ta) (F5 i C xs c r):=RB (E:=fun _=>Ec) i hx hr
def DB(i:Nat)(C:Addr)(xs:List Str)(c:Pw)(r:PTA):PTW:=fun γ R X=>match γ[i]? with
 |some (some (.own (.ins x C' xs' cs)))=>C'=C/\xs'=xs/\r γ (fun ss=>match passes ss with|some ss'=>c (.ins x C' xs' cs) ss' (fun o' d=>R (γ.set i (some (.own o'))) d) (fun _ _=>False)|none=>False) (X γ)
 |_=>False
def PB(i:Nat){C:Addr}{m:Str}{xs:List Str}{c:Pw}{ta:TA}{r:PTA}(hx:NoFld m xs)(hr:SndA K mg E ta r):SndW K mg E (KL C m (spW mg c K) [] E0 (tVar i) ta) (DB i C xs c r):=by
 intro H0 B H σ γ R X Q hB env h q qx;unfold DB at h;split at h
 ·rename_i x C' xs' cs hi;obtain⟨rfl,rfl,h⟩:=h;obtain⟨v,hv,a,rfl,_,e1,e2,⟨dx,e3⟩,e4⟩:=env.slot i _ hi;refine⟨_,hv,a,dx,_,rfl,e3,hx _,hr H0 B H σ γ _ _ _ env h (fun ss us H1 h1 S1 t1=>?_) fun c H' hc S'=>qx γ c H' hc (env.grow S') (Fr.grow S')⟩;rw[YW];split at h1
  ·rename_i ss' ep;exact Bw (X:=fun _ _=>False) env hB S1 hi hv t1 ep h1 q fun _ _ _ z=>z.elim
  ·exact h1.elim
 ·exact h.elim
def EU{α:Type}:∀{l:List α}{i j:Nat}{x:α},l.Nodup->l[i]?=some x->l[j]?=some x->i=j
 |[],_,_,_,_,h,_=>by simp at h
 |y::r,0,0,_,_,_,_=>rfl
 |y::r,0,j+1,x,hn,h1,h2=>by
  have e:y=x:=by simpa using h1
  exact absurd (e▸Y8 (show r[j]?=some x by simpa using h2)) (Wa.mp hn).1
 |y::r,i+1,0,x,hn,h1,h2=>by
  have e:y=x:=by simpa using h2
  exact absurd (e▸Y8 (show r[i]?=some x by simpa using h1)) (Wa.mp hn).1
 |y::r,i+1,j+1,x,hn,h1,h2=>YQ (· + 1) (EU (l:=r) (Wa.mp hn).2 (by simpa using h1) (by simpa using h2))
def EnvR.cell {i j:Nat}{x C:Addr}{xs:List Str}{cs:List (Addr×List D)}{b:Addr}{ds es:List D}{us:List V} (env:EnvR K H0 B H σ γ) (hi:γ[i]?=some (some (.own (.ins x C xs cs)))) (hj:cs[j]?=some (b,ds)) (r:Rps K (off (zof B γ σ) H) es us) :
  EnvR K H0 B (upd H b (.lst us)) σ (γ.set i (some (.own (.ins x C xs (cs.set j (b,es))))))/\Fr B H σ γ (upd H b (.lst us)) σ (γ.set i (some (.own (.ins x C xs (cs.set j (b,es)))))):=by
 obtain⟨v,hv,a,rfl,e0,e1,e2,⟨dx,e3⟩,e4,e5⟩:=env.slot i _ hi;subst e1;have hjl:j<cs.length:=(Y2.mp hj).1;have hbm:(b,ds)∈cs:=Y8 hj
 have hab:a≠b:=fun z=>by
  obtain⟨ws,w1,_⟩:=e4 _ hbm;rw[←show a=b from z,e3]at w1
  cases w1
 have em:(cs.set j (b,es)).map (·.1)=cs.map (·.1):=by
  apply Vq;intro k;rw[Yw,Yw,List.getElem?_set];by_cases e:j=k
  ·subst e;rw[Yn rfl,Yn hjl,hj];rfl
  ·rw[Yo e]
 have em2:(cs.set j (b,es)).map (fun c=>V.ref c.1)=cs.map fun c=>V.ref c.1:=by
  have:=YQ (List.map V.ref) em
  rw[Wk,Wk]at this;exact this
 have adr:∀c,(O.ins a C xs (cs.set j (b,es))).adr a c->(O.ins a C xs cs).adr a c:=fun c hc=>by
  rcases hc with hc|⟨d,hd,hc⟩
  ·exact .inl hc
  ·have:d.1∈(cs.set j (b,es)).map (·.1):=Vd hd
   rw[em]at this;obtain⟨d',q1,q2⟩:=YU.mp this;exact .inr ⟨d',q1,hc.trans q2.symm⟩
 have zb:∀c,(O.ins a C xs cs).adr a c->zof B γ σ c:=fun c hc=>.inr ⟨i,_,a,hi,hv,hc⟩
 have So:Same (off (zof B γ σ) H) (off (zof B (γ.set i (some (.own (.ins a C xs (cs.set j (b,es)))))) σ) (upd H b (.lst us))):=fun c u h=>by
  obtain⟨q1,q2⟩:=XJ h;have nb:c≠b:=fun z=>q2 (zb c (.inr ⟨_,hbm,z⟩));refine Ur (by rw[JI nb];exact q1) fun z=>q2 ?_;rcases z with z|⟨k,fs,a',k1,k2,k3⟩
  ·exact .inl z
  ·rcases Uu k1 with⟨ek,q,_⟩|⟨_,q⟩
   ·subst ek;cases q
    rw[hv]at k2;cases k2
    exact zb c (adr c k3)
   ·exact .inr ⟨k,fs,a',q,k2,k3⟩
 refine env.change hi hv (fun c u hu n=>?_) (fun c hc=>?_) (fun c hc=>.inl (adr c hc)) ⟨rfl,by rw[Wj];exact e2,⟨dx,?_⟩,fun c hc=>?_,by rw[em];exact e5⟩
 ·rw[JI fun z=>n (.inr ⟨_,hbm,z⟩)];exact hu
 ·by_cases z:c=b
  ·rw[z,Ug];trivial
  ·rw[JI z];exact env.zm c (zb c hc)
 ·rw[JI hab,em2];exact e3
 ·obtain⟨k,hk,ek⟩:=List.getElem_of_mem hc;have hk':(cs.set j (b,es))[k]?=some c:=by rw[Yj hk,ek]
  rcases Uu hk' with⟨_,q,_⟩|⟨nk,q⟩
  ·subst q;exact⟨us,Ug,Rps.mono So r⟩
  ·obtain⟨ws,w1,w2⟩:=e4 c (Y8 q)
   have nb:c.1≠b:=fun z=>nk (by
    have h1:(cs.map (·.1))[k]?=some b:=by rw[Yw,q];exact YQ some z
    have h2:(cs.map (·.1))[j]?=some b:=by rw[Yw,hj];rfl
    exact EU e5 h1 h2)
   exact⟨ws,by rw[JI nb];exact w1,Rps.mono So w2⟩
def G9(i j:Nat)(C:Addr)(xs:List Str)(a:PTE):PTW:=fun γ R X=>match γ[i]? with
 |some (some (.own (.ins x C' xs' cs)))=>C'=C/\xs'=xs/\∃c,cs[j]?=some c/\a γ (fun s=>match s.shd with
  |some d=>c.2.length<10000000/\R (γ.set i (some (.own (.ins x C' xs' (cs.set j (c.1,c.2++[d])))))) .non
  |none=>False) (X γ)
 |_=>False
def FK(i j:Nat){C:Addr}{f:Str}{xs:List Str}{a:PTE}(hc:Cls K C)(hn:NoAttr K C f)(hj:FldAt f xs j)(ha:SndE K mg E te a):SndW K mg E (tBM K "list" SC (tFld K (tVar i) f) (UH te tNil)) (G9 i j C xs a):=by
 intro H0 B H σ γ R X Q hB env h q qx;unfold G9 at h;split at h
 ·rename_i x C' xs' cs hi;obtain⟨rfl,rfl,c,ec,h⟩:=h;obtain⟨v,hv,b,rfl,_,e1,e2,⟨dx,e3⟩,e4,e5⟩:=env.slot i _ hi;obtain⟨us,u1,u2⟩:=e4 c (Y8 ec);refine⟨_,hv,b,_,dx,_,V.ref c.1,rfl,e3,hc,hn,?_,.inl ⟨rfl,us,SqL.of u1⟩,ha H0 B H σ γ _ _ _ env h (fun s u H1 h1 S1 t1=>?_) fun c H' hc S'=>qx γ c H' hc (env.grow S') (Fr.grow S')⟩
  ·rw[hj _ (by rw[Yi];exact e2),Yw,ec];rfl
  ·have env1:=env.grow S1;split at h1
   ·rename_i d ed;have rd:=t1.shd env1.same env.zm S1 ed;refine⟨c.1,us,u,rfl,rfl,S1 _ _ u1,by rw[u2.len];exact Qn h1.1 (by decide),?_⟩;obtain⟨k1,k2⟩:=env1.cell (es:=c.2++[d]) (us:=us++[u]) hi ec (Rps.append (Rps.mono (JV S1 fun _ _ _ z=>z) u2) (.cons rd .nil));exact q _ _ _ _ h1.2 k1 ((Fr.grow S1).trans k2) .non
   ·exact h1.elim
 ·exact h.elim
def AK(i j:Nat)(C:Addr)(xs:List Str):PTW:=fun γ R _=>match γ[i]? with
 |some (some (.own (.ins x C' xs' cs)))=>C'=C/\xs'=xs/\∃c d,cs[j]?=some c/\c.2[c.2.length-1]?=some d/\R (γ.set i (some (.own (.ins x C' xs' (cs.set j (c.1,c.2.dropLast)))))) d
 |_=>False
def Rps.dropLast:∀{ds:List D}{vs:List V},Rps K H ds vs->Rps K H ds.dropLast vs.dropLast
 |_,_,.nil=>.nil
 |_,_,.cons _ .nil=>.nil
 |_,_,.cons h (.cons h' r)=>.cons h (Rps.dropLast (.cons h' r))
def SR(i j:Nat){C:Addr}{f:Str}{xs:List Str}(hc:Cls K C)(hn:NoAttr K C f)(hj:FldAt f xs j):SndW K mg E (tBM0 K "list" rPop (tFld K (tVar i) f)) (AK i j C xs):=by
 intro H0 B H σ γ R X Q hB env h q qx;unfold AK at h;split at h
 ·rename_i x C' xs' cs hi;obtain⟨rfl,rfl,c,d,ec,ed,h⟩:=h;obtain⟨v,hv,b,rfl,_,e1,e2,⟨dx,e3⟩,e4,e5⟩:=env.slot i _ hi;obtain⟨us,u1,u2⟩:=e4 c (Y8 ec);obtain⟨u,hu,ru⟩:=u2.get ed;refine⟨_,hv,b,_,dx,_,V.ref c.1,rfl,e3,hc,hn,?_,.inl ⟨rfl,us,SqL.of u1⟩,c.1,us,u,rfl,rfl,u1,by rw[u2.len];exact hu,?_⟩
  ·rw[hj _ (by rw[Yi];exact e2),Yw,ec];rfl
  ·obtain⟨k1,k2⟩:=env.cell (es:=c.2.dropLast) (us:=us.dropLast) hi ec (Rps.dropLast u2);exact q _ _ _ _ h k1 k2 (Rp.mono k2.off ru)
 ·exact h.elim
def PutAt(f:Str)(xs:List Str):Prop:=∀(vs:List V) (y:V),xs.length=vs.length->putF f y (xs.zip vs)=(xs++[f]).zip (vs++[y])
def Ob(i:Nat)(C:Addr)(f:Str)(xs:List Str)(a:PTE):PTS:=fun R γ=>a γ (fun s=>match s with
 | .own (.lst ds)=>(match γ[i]? with
  |some (some (.own (.ins x C' xs' cs)))=>C'=C/\xs'=xs/\xs.length<1000/\∀b,R.nx (γ.set i (some (.own (.ins x C' (xs++[f]) (cs++[(b,ds)])))))
  |_=>False)
 |_=>False) (R.ex γ)
def Bq(i:Nat){C:Addr}{f:Str}{xs:List Str}{a:PTE}(hc:Cls K C)(hn:NoAttr K C f)(hp:PutAt f xs)(ha:SndE K mg E te a):SndS K mg E (sFld K (tVar i) te f) (Ob i C f xs a):=by
 intro H0 B H σ γ R D hB env h e;refine ha H0 B H σ γ _ _ _ env h (fun s v H1 h1 S1 t1=>?_) fun c H' hc S'=>e.ex σ γ c H' hc (env.grow S') (Fr.grow S');have env1:=env.grow S1;split at h1
 ·rename_i ds;split at h1
  ·rename_i x C' xs' cs hi;obtain⟨rfl,rfl,hl,h1⟩:=h1;obtain⟨u,hv,b,rfl,e0,e1,e2,⟨dx,e3⟩,e4,e5⟩:=env.slot i _ hi;subst e1;obtain⟨l,rfl,l0,vs,l1,l2⟩:=t1;have l0:H l=none:=l0 l rfl;have na:b≠l:=U8 e3 l0;refine⟨_,hv,b,_,dx,_,rfl,S1 _ _ e3,hc,hn,?_,?_⟩
   ·rw[List.length_zip,Yi];omega
   ·rw[hp _ _ (by rw[Yi];exact e2)]
    have nl:∀c∈cs,c.1≠l:=fun c hc=>by
     obtain⟨ws,w1,_⟩:=e4 c hc;exact U8 w1 l0
    have nb:∀c∈cs,c.1≠b:=fun c hc z=>by
     obtain⟨ws,w1,_⟩:=e4 c hc;rw[z,e3]at w1;cases w1
    have zb:∀c,(O.ins b C' xs' cs).adr b c->zof B γ σ c:=fun c hc=>.inr ⟨i,_,b,hi,hv,hc⟩
    have key:∀c u,H1 c=some u->¬(zof B γ σ c\/c=l)->¬zof B (γ.set i (some (.own (.ins b C' (xs'++[f]) (cs++[(l,ds)]))))) σ c:=fun c u _ n z=>by
     rcases z with z|⟨k,fs,a',k1,k2,k3⟩
     ·exact n (.inl (.inl z))
     ·rcases Uu k1 with⟨ek,q,_⟩|⟨_,q⟩
      ·subst ek;cases q
       rw[hv]at k2;cases k2
       rcases k3 with k3|⟨d,hd,k3⟩
       ·exact n (.inl (zb c (.inl k3)))
       ·rcases Y4.mp hd with hd|hd
        ·exact n (.inl (zb c (.inr ⟨d,hd,k3⟩)))
        ·rw[Ym]at hd;subst hd;exact n (.inr k3)
      ·exact n (.inl (.inr ⟨k,fs,a',q,k2,k3⟩))
    have So:Same (off (fun c=>zof B γ σ c\/c=l) H1) (off (zof B (γ.set i (some (.own (.ins b C' (xs'++[f]) (cs++[(l,ds)]))))) σ) (upd H1 b (.ins C' dx ((xs'++[f]).zip ((cs.map fun c=>V.ref c.1)++[.ref l]))))):=fun c u h=>by
     obtain⟨q1,q2⟩:=XJ h;exact Ur (by rw[JI fun z=>q2 (.inl (zb c (.inl z)))];exact q1) (key c u q1 q2)
    have S0:Same (off (zof B γ σ) H) (off (fun c=>zof B γ σ c\/c=l) H1):=JV S1 fun c u hc z y=>y.elim z fun y=>by rw[y,l0]at hc;cases hc
    obtain⟨k1,k2⟩:=env.change (o':=.ins b C' (xs'++[f]) (cs++[(l,ds)])) (H':=upd H1 b (.ins C' dx ((xs'++[f]).zip ((cs.map fun c=>V.ref c.1)++[.ref l])))) hi hv
     (fun c u hu n=>by rw[JI fun z=>n (.inl z)];exact S1 _ _ hu)
     (fun c hc=>by
      by_cases z:c=b
      ·rw[z,Ug];trivial
      ·rw[JI z];exact env1.zm c (zb c hc))
     (fun c hc=>by
      rcases hc with hc|⟨d,hd,hc⟩
      ·exact .inl (.inl hc)
      ·rcases Y4.mp hd with hd|hd
       ·exact .inl (.inr ⟨d,hd,hc⟩)
       ·rw[Ym]at hd;subst hd;exact .inr (by rw[show c=l from hc];exact l0))
     ⟨rfl,by rw[Yt,Yt,e2];rfl,⟨dx,by rw[Ug,Y5];rfl⟩,fun c hc=>by
      rcases Y4.mp hc with hc|hc
      ·obtain⟨ws,w1,w2⟩:=e4 c hc;exact⟨ws,by rw[JI (nb c hc)];exact S1 _ _ w1,Rps.mono So (Rps.mono S0 w2)⟩
      ·rw[Ym]at hc;subst hc;exact⟨vs,by rw[JI (fun z=>na z.symm)];exact l1,Rps.mono So l2⟩,by
      rw[Y5,W1]
      exact⟨e5,by simp,fun c hc d hd z=>by
       obtain⟨c',q1,q2⟩:=YU.mp hc
       have:d=l:=by simpa using hd
       exact nl c' q1 (q2.trans (z.trans this))⟩⟩
    exact e.nx _ _ _ (h1 l) k1 k2
  ·exact h1.elim
 ·exact h1.elim
def OQ{C:Addr}{c:Pw}{ss ss':List S}{us:List V}{R:S->Prop}{X:XR}{Q:VK}{Ec:XK}(env:EnvR K H0 B H σ γ)(S1:Same H H1)(t1:TVs K (zof B γ σ) H0 H H1 ss us)(ep:passes ss=some ss')(h1:∀x,c (.ins x C [] []) ss' (fun o' d=>d=.non/\R (.own o')) (fun _ e=>X e))(q:∀s v H',R s->Same H H'->TV K (zof B γ σ) H0 H H' s v->Q v H')(qx:∀c H',X c->Same H H'->XE mg Ec c H') :
  ∀x dx,H1 x=none->H1 dx=none->dx≠x->spW mg c K (.ref x::us) (upd (upd H1 dx (.own x)) x (.ins C dx [])) (fun v H2=>v=.non/\Q (.ref x) H2) Ec:=by
 have env1:=env.grow S1;intro x dx nx ndx nex
 have S2:Same H1 (upd (upd H1 dx (.own x)) x (.ins C dx [])):=fun b o e=>by
  rw[JI (U8 e nx),JI (U8 e ndx)];exact e
 have aft:∀o' H',After K (zof B γ σ) (upd (upd H1 dx (.own x)) x (.ins C dx [])) x (.ins x C [] []) o' H'->Same H1 H'/\∀b,o'.adr x b->H b=none:=fun o' H' A=>by
  refine⟨fun b o e=>A.same b o (Ur (S2 b o e) fun z=>?_),fun b hb=>?_⟩
  ·rcases z with z|⟨c,hc,_⟩
   ·rw[z,nx]at e;cases e
   ·cases hc
  ·rcases A.new b hb with(z|⟨c,hc,_⟩)|z
   ·rw[z];exact S1.free nx
   ·cases hc
   ·exact S1.free (S2.free z)
 refine⟨.ins x C [] [],x,ss',us,zof B γ σ,_,_,rfl,fun b hb=>⟨XT S2 (env1.zm b hb),fun z=>?_⟩,⟨rfl,rfl,⟨dx,Ug⟩,(fun c hc=>by cases hc),WZ⟩,?_,Ni ep,h1 x,fun o' d v H' hR A rd=>?_,fun o' e H' hX A=>?_⟩
 ·rcases z with z|⟨c,hc,_⟩
  ·have:=env1.zm b hb
   rw[z,nx]at this;exact this
  ·cases hc
 ·refine t1.pass env1.same env.zm S1 (fun b o e=>Ur (S2 _ _ (env1.same b o e)) fun z=>?_) (JV S2 fun b o e z y=>?_) ep
  ·rcases z with z|⟨c,hc,_⟩
   ·rw[z,(env1.same).free nx]at e;cases e
   ·cases hc
  ·rcases y with y|y|⟨c,hc,_⟩
   ·exact z y
   ·rw[y,nx]at e;cases e
   ·cases hc
 ·obtain⟨rfl,hR⟩:=hR;obtain⟨k1,k2⟩:=aft o' H' A;exact⟨Rp.non_inv rd,q _ _ H' hR (S1.trans k1) ⟨x,rfl,k2,A.at_⟩⟩
 ·exact qx e H' hX (S1.trans (aft o' H' A).1)
def IY(C:Addr)(c:Pw)(r:PTA):PTE:=fun γ R X=>r γ (fun ss=>match passes ss with|some ss'=>∀x,c (.ins x C [] []) ss' (fun o' d=>d=.non/\R (.own o')) (fun _ _=>False)|none=>False) X
def Zdd{C:Addr}{c:Pw}{ta:TA}{r:PTA}(hr:SndA K mg E ta r):SndE K mg E (FL C (spW mg c K) [] E0 ta) (IY C c r):=by
 intro H0 B H σ γ R X Q env p q qx;refine hr H0 B H σ γ _ X _ env p (fun ss us H1 h1 S1 t1=>?_) qx;split at h1
 ·rename_i ss' ep;rw[YW];exact OQ (X:=fun _=>False) env S1 t1 ep h1 q fun _ _ z=>z.elim
 ·exact h1.elim
end
def len1{α:Type}{us:List α}(h:us.length=1):∃a,us=[a]:=List.length_eq_one_iff.mp h
def len2{α:Type}{us:List α}(h:us.length=2):∃a b,us=[a,b]:=by
 cases us with
 |nil=>cases h
 |cons a r=>obtain⟨b,rfl⟩:=len1 (us:=r) (by simpa using h);exact⟨a,b,rfl⟩
def len3{α:Type}{us:List α}(h:us.length=3):∃a b c,us=[a,b,c]:=by
 cases us with
 |nil=>cases h
 |cons a r=>obtain⟨b,c,rfl⟩:=len2 (us:=r) (by simpa using h);exact⟨a,b,c,rfl⟩
def len4{α:Type}{us:List α}(h:us.length=4):∃a b c d,us=[a,b,c,d]:=by
 cases us with
 |nil=>cases h
 |cons a r=>obtain⟨b,c,d,rfl⟩:=len3 (us:=r) (by simpa using h);exact⟨a,b,c,d,rfl⟩
def len5{α:Type}{us:List α}(h:us.length=5):∃a b c d e,us=[a,b,c,d,e]:=by
 cases us with
 |nil=>cases h
 |cons a r=>obtain⟨b,c,d,e,rfl⟩:=len4 (us:=r) (by simpa using h);exact⟨a,b,c,d,e,rfl⟩
structure DefM (K:Za) (W:Addr->Prop) (x q:Str) (st:Stmt) (ps:List Str):Prop where
 ex:∃f fd,Fun K x q st f fd/\W f/\Binds K fd ps []
structure CalleeM (P:Program) (w:World) (K:Za) (mg:Str->Option Value) (base:Heap) (CX:CXT) (k:Nat) (W:Addr->Prop) (ps:List Str) (sp:Sp):Prop where
 ex:∃f fd,FnOk P w K mg base CX k f fd ps sp/\W f/\Binds K fd ps []
section
variable {P:Program}{w:World}{K:Za}{mg:Str->Option Value}{base:Heap}{W:Addr->Prop}
def DefM.ok {x q:Str}{st:Stmt}{N ps:List Str}{k:Nat}{sp:Sp} (D:DefM K W x q st ps) (S:FnScope N ps (JE st)) (len:∀vs H Q E,sp vs H Q E->vs.length=ps.length)
  (hbody:∀(f:Addr) (cdv:Value) (A:Around) (outer:List Env) (s:Shared) (H:Hp) (vs:List V) (Q:VK) (E:XK),Room k (A.deeper (envOfC q (JE st) s.heap.objs.size f cdv))->sp vs H Q E->
   ∃t,PSs (cxOf CX0 P w K mg base N q (JE st) f cdv A outer s H E).nox (UA st) t/\t {nx:=fun _ H'=>Q .non H',rt:=Q} (start N vs) H):CalleeM P w K mg base CX0 (k+1) W ps sp:=by
 obtain⟨f,fd,F,hm,hb⟩:=D.ex;exact⟨f,fd,F.ok S len fun cdv A outer s H vs Q E hr h=>hbody f cdv A outer s H vs Q E hr h,hm,hb⟩
def DefM.okX {x q:Str}{st:Stmt}{N ps:List Str}{k:Nat}{sp:Sp} (D:DefM K W x q st ps) (S:FnScope N ps (JE st)) (len:∀vs H Q E,sp vs H Q E->vs.length=ps.length)
  (hbody:∀(f:Addr) (cdv:Value) (A:Around) (outer:List Env) (s:Shared) (H:Hp) (vs:List V) (Q:VK) (E:XK),Room k (A.deeper (envOfC q (JE st) s.heap.objs.size f cdv))->sp vs H Q E->
   ∃t,PSs (cxOf (ExcR.CXe P w) P w K mg base N q (JE st) f cdv A outer s H E) (UA st) t/\t {nx:=fun _ H'=>Q .non H',rt:=Q} (start N vs) H):CalleeM P w K mg base (ExcR.CXe P w) (k+1) W ps sp:=by
 obtain⟨f,fd,F,hm,hb⟩:=D.ex;obtain⟨oc,od,kV,doc,pm,an,cdv,ct,osl,rfl,lk,hcd⟩:=F.ex;exact⟨f,_,Fs lk hcd S len fun A outer s H vs Q E hr hsp=>hbody f cdv A outer s H vs Q E hr hsp,hm,hb⟩
def Se{X:Cx}:X8 (ExcR.CXe P w) X E0:=fun _ _ _ _ _ _ _ h=>by
 obtain⟨a,T,C,dx,H',_,_,z⟩:=h;exact z.elim
end
section
variable {X:Cx}{CX:CXT}{k:Nat}{Cc:Addr}{ps:List Str}{sp:Sp}{E:XK}{ES:L2.St->XK}{x m:Str}{p pos apos:Pos}{e o:Expr}{es:List Expr}{ta:TE}{t:TA}
def XW{pl:Sem Bool}(C:CalleeM X.prog X.w X.K X.mg X.base CX k (Meth X.K Cc m) ps sp)(c:Cls X.K Cc)(hr:Room k X.A)(hx:X8 CX X E)(he:PE X o ta)(ha:PA X (e::es) t)(hst:starEach (e::es) X.env=(false,eval e X.env)::starEach es X.env:=by rfl)(hpl:(backTo pos (starEach es X.env)).any (·.1)=false:=by rfl)
  (ht:eval (.Call (.Attribute o m apos) (e::es) [] pos) X.env=(do
   let ov ←eval o X.env
   standAt apos.atName
   let (f,first) ←holding [ov] (getMethod ov m pl)
   callWith pos f first (backTo pos (starEach (e::es) X.env)) (backToKw pos (keywordEach [] X.env))):=by rfl) :
  PE X (.Call (.Attribute o m apos) (e::es) [] pos) (KL Cc m sp [] E ta t):=by
 obtain⟨f,fd,F,hm,hb⟩:=C.ex;exact L6 he c hm F hr hb .nil hx ha hst hpl ht
def U6{pl:Sem Bool}(C:CalleeM X.prog X.w X.K X.mg X.base CX k (Meth X.K Cc m) ps sp)(c:Cls X.K Cc)(hr:Room k X.A)(hx:X8 CX X E)(he:PE X o ta)
  (ht:eval (.Call (.Attribute o m apos) [] [] pos) X.env=(do
   let ov ←eval o X.env
   standAt apos.atName
   let (f,first) ←holding [ov] (getMethod ov m pl)
   callWith pos f first (backTo pos (starEach [] X.env)) (backToKw pos (keywordEach [] X.env))):=by rfl) :
  PE X (.Call (.Attribute o m apos) [] [] pos) (KL Cc m sp [] E ta tNil):=by
 obtain⟨f,fd,F,hm,hb⟩:=C.ex;exact II he c hm F hr hb .nil hx ht
def Zcq{f:Addr}{fd:FuncData}{pins:List (Addr×Obj)}{σ:L2.St}{H:Hp}{s:Shared}{Q:VK}{us:List Value}{vs:List V}(F:FnOk X.prog X.w X.K X.mg X.base CX k f fd ps sp)(hr:Room k X.A)(hb:Binds X.K fd ps [])(hx:ExcR.F4 CX X ES)(I:Inv X pins σ H s)(r:Vals vs us)(h:sp vs H Q (ES σ)):wpAny (model X.prog X.w) X.A (call (.ref f) us) (EP X pins σ Q) X.xe s:=by
 have hl:(us++[]).length=ps.length:=by rw[YW,←r.length];exact F.len _ _ _ _ h
 refine QS (WJ (F.run X.A X.stack s H ⟨us,[]⟩ (us++[]) vs Q (ES σ) hr I.env0 (hb s us I.kIn hl) (by simpa using r) h) fun r s' hq=>?_);cases r with
 |error e=>exact hx pins σ H s e s' I hq
 |ok fl=>
  cases fl with
  |ret u=>exact I.after hq
  |next=>exact False.elim hq
  |brk=>exact False.elim hq
  |cont=>exact False.elim hq
def M1{pl:Sem Bool}(C:CalleeM X.prog X.w X.K X.mg X.base CX k (Meth X.K Cc m) ps sp)(c:Cls X.K Cc)(hr:Room k X.A)(hx:ExcR.F4 CX X ES)(he:PE X o ta)
  (ht:eval (.Call (.Attribute o m apos) [] [] pos) X.env=(do
   let ov ←eval o X.env
   standAt apos.atName
   let (f,first) ←holding [ov] (getMethod ov m pl)
   callWith pos f first (backTo pos (starEach [] X.env)) (backToKw pos (keywordEach [] X.env))):=by rfl) :
  PE X (.Call (.Attribute o m apos) [] [] pos) (Fl Cc m sp ES ta tNil):=by
 obtain⟨f,fd,F,hm,hb⟩:=C.ex;intro pins s σ H Q I h;refine Qm (pl:=pl) (thn (he pins s σ H _ I h) fun u s1 ⟨x,H1,I1,rx,a,dx,fs,ex,ea,l,q⟩=>?_) ht;subst ex;obtain rfl:u=Value.ref a:=rx;refine Sf I1 ea c hm l ?_;exact PySem.W.callWith_K0 (first:=[.ref a]) I1.kIn hm.kp (Zcq (us:=[.ref a]) (vs:=[.ref a]) F hr hb hx I1 (.cons rfl .nil) q)
def M4(C:CalleeM X.prog X.w X.K X.mg X.base CX k (Mk X.K Cc) ps sp)(hm:X.mg x=some (.ref Cc))(hr:Room (k+1) X.A)(hx:X8 CX X E)(ha:PA X (e::es) t)(hg:Gl X x:=by rfl)(hdb:(x==("__debug__" : Str))=false:=by decide)(he:starEach (e::es) X.env=(false,eval e X.env)::starEach es X.env:=by rfl)(hpl:(backTo pos (starEach es X.env)).any (·.1)=false:=by rfl) :
  PE X (.Call (.Name x p) (e::es) [] pos) (FL Cc sp [] E t):=by
 obtain⟨f,fd,F,M,hb⟩:=C.ex;exact Zaj M F hr hg hm hb .nil hx ha hdb he hpl
end
abbrev PTF:=Γ->Str->(Str->Prop)->XR->Prop
section
variable {K:Za}{mg:Str->Option Value}{E:L2.St->XK}{t:ExcR.TF}{p:PTF}{te:TE}{a:PTE}
def SndF(K:Za)(mg:Str->Option Value)(E:L2.St->XK)(t:ExcR.TF)(p:PTF):Prop:=∀(H0:Hp) (B:Addr->Prop) (H:Hp) (σ:L2.St) (γ:Γ) (out:Str) (R:Str->Prop) (X:XR) (Q:Str->Hp->Prop),EnvR K H0 B H σ γ->p γ out R X->
 (∀x H',R x->Same H H'->Q x H')->(∀c H',X c->Same H H'->XE mg (E σ) c H')->t σ H out Q
def HG:PTF:=fun _ out R _=>out.length<=sizeLine/\R out
def Pm:SndF K mg E ExcR.fNil HG:=fun H0 B H σ γ out R X Q env h q _=>⟨h.1,q _ H h.2 (Same.refl _)⟩
def Rh(x:Str)(p:PTF):PTF:=fun γ out R X=>(out++x).length<=sizeLine/\p γ (out++x) R X
def XG{x:Str}(h:SndF K mg E t p):SndF K mg E (ExcR.fStr x t) (Rh x p):=fun H0 B H σ γ out R X Q env hp q qx=>⟨hp.1,h H0 B H σ γ _ R X Q env hp.2 q qx⟩
def Zb5(a:PTE)(p:PTF):PTF:=fun γ out R X=>a γ (fun s=>match s.d with
 | .int i=>i.natAbs.log2<1920/\(out++(Str.ofString (toString i))).length<=sizeLine/\p γ (out++Str.ofString (toString i)) R X
 | .str x=>x.length<=sizeLine/\(out++x).length<=sizeLine/\p γ (out++x) R X
 |_=>False) X
def KU(ha:SndE K mg E te a)(h:SndF K mg E t p):SndF K mg E (ExcR.fVal te t) (Zb5 a p):=fun H0 B H σ γ out R X Q env hp q qx=>by
 refine ha H0 B H σ γ _ X _ env hp (fun s v H1 h1 S1 t1=>?_) qx;have env1:=env.grow S1;have rs:=t1.rp env1.same;split at h1
 ·rename_i i ei;rw[ei]at rs;exact .inl ⟨i,rs.int_inv,h1.1,h1.2.1,h H0 B H1 σ γ _ R X Q env1 h1.2.2 (fun x H' hx S'=>q x H' hx (S1.trans S')) fun c H' hc S'=>qx c H' hc (S1.trans S')⟩
 ·rename_i x ex;rw[ex]at rs;exact .inr ⟨x,rs.str_inv,h1.1,h1.2.1,h H0 B H1 σ γ _ R X Q env1 h1.2.2 (fun x H' hx S'=>q x H' hx (S1.trans S')) fun c H' hc S'=>qx c H' hc (S1.trans S')⟩
 ·exact h1.elim
def pF(p:PTF):PTE:=fun γ R X=>p γ Str.empty (fun x=>R (.sh (.str x))) X
def se_f(h:SndF K mg E t p):SndE K mg E (ExcR.tF t) (pF p):=fun H0 B H σ γ R X Q env hp q qx=>
 h H0 B H σ γ _ _ X _ env hp (fun x H' hx S'=>q _ _ H' hx S' (.str x)) qx
end
open M
abbrev plD(f:List (Int×Int)):D:=.lst (f.map prD)
abbrev dD(q:Str×List Int):D:=.tup (.str q.1::q.2.map D.int)
abbrev vF:List Str:=["book","fields","wished"]
abbrev vO(C x b1 b2 b3:Addr)(bk:List (Str×List Int))(fs ws:List (List (Int×Int))):O:=.ins x C vF [(b1,bk.map dD),(b2,fs.map plD),(b3,ws.map plD)]
abbrev vilD(C:Addr)(bk:List (Str×List Int))(fs ws:List (List (Int×Int))):D:=.ins C vF [.lst (bk.map dD),.lst (fs.map plD),.lst (ws.map plD)]
def GR{α:Type}(f:α->D)(xs:List α)(x:α):atI ((xs++[x]).map f) (-1)=some (f x):=by
 refine Pe ?_;unfold atI ixN;rw[Yo (by omega),Yn (by rw[Yt,Wi];omega)];show(xs++[x])[_]?=some x;have e:((-1:Int)+((xs++[x]).length:Int)).toNat=xs.length:=by rw[Yt,Wi];omega
 rw[e,YO (Yr _),Nat.sub_self];rfl
def U5(e:Option Str)(X:Str->Prop)(R:Prop):Prop:=match e with|some c=>X c|none=>R
def PJ(h:Int):Option Str:=if 1<=h/\h<=10 then none else some "BadHolder"
def K8:List (Int×Int)->Option Str
 |[]=>none
 |q::r=>if ¬(1<=q.1/\q.1<=10)then some "BadHolder" else if ¬(1<=q.2/\q.2<=1000)then some "BadWidth" else K8 r
def PP(ps:List (Int×Int)):Option Str:=if 40<ps.length then some "TooManyStrips" else K8 ps
def AY:∀{ps:List (Int×Int)},Field ps->K8 ps=none
 |[],_=>rfl
 |q::r,h=>by
  obtain⟨h1,h2,h3,h4⟩:=h q YL;unfold K8;rw[Yo (fun z=>z ⟨h1,h2⟩),Yo (fun z=>z ⟨h3,h4⟩)];exact AY fun x hx=>h x (YB _ hx)
def Zbc{ps:List (Int×Int)}(h:Field ps)(hl:ps.length<=40):PP ps=none:=by
 unfold PP;rw[Yo (by omega)];exact AY h
def NP(ps:List (Int×Int))(p:Int):Option Str:=if p<1\/(ps.length:Int)<p then some "NoStrip" else none
def atP1(ps:List (Int×Int))(p:Int):Int×Int:=ps.getD (p-1).toNat (0,0)
def Xp(ps:List (Int×Int))(p h:Int):Option Str:=if p<1\/(ps.length:Int)<p then some "NoStrip" else if ¬(1<=h/\h<=10)then some "BadHolder" else if (atP1 ps p).1=h then some "OwnStrip" else none
def Kk(ps:List (Int×Int))(p h:Int):List (Int×Int):=ps.set (p-1).toNat (h,(atP1 ps p).2)
def Ah{ps:List (Int×Int)}{p:Int}{x:Int×Int}(h1:1<=p)(h2:p<=ps.length):cutD (ps.map prD) none (some (p-1))++[prD x]++cutD (ps.map prD) (some p) none=(ps.set (p-1).toNat x).map prD:=by
 rw[KC,KC,N0 ps (by omega),ND ps (by omega)];have e:p.toNat=(p-1).toNat+1:=by omega
 rw[e,List.set_eq_take_append_cons_drop,Yn (by omega),Y5,YH,Vp];rfl
def Ks{ps:List (Int×Int)}{p:Int}(h1:1<=p)(h2:p<=ps.length):atI (ps.map prD) (p-1)=some (prD (atP1 ps p)):=by
 rw[Po (by omega) (by omega)];unfold atP1;rw[Y1,Yj (show(p-1).toNat<ps.length by omega)];rfl
def LW(ps:List (Int×Int))(p h:Int):(Kk ps p h).length=ps.length:=Wj ..
def Zb6{ps:List (Int×Int)}{p h:Int}(hF:Field ps)(e:Xp ps p h=none):Field (Kk ps p h):=by
 unfold Xp at e;split at e
 ·cases e
 ·split at e
  ·cases e
  ·rename_i c1 c2;have hl:(p-1).toNat<ps.length:=by omega
   intro q hq;unfold Kk at hq;rcases List.mem_or_eq_of_mem_set hq with hq|rfl
   ·exact hF q hq
   ·have:atP1 ps p∈ps:=by
     unfold atP1;rw[Y1,Yj hl];exact YC hl
    obtain⟨_,_,w1,w2⟩:=hF _ this
    have:=Wm.mp c2
    exact⟨this.1,this.2,w1,w2⟩
def OV(q:Int×Int)(r:List (Int×Int)):K8 (q::r)=if ¬(1<=q.1/\q.1<=10)then some ("BadHolder" : Str)else if ¬(1<=q.2/\q.2<=1000)then some ("BadWidth" : Str)else K8 r:=rfl
def UB(ps:List (Int×Int))(p w:Int):Option Str:=if p<1\/(ps.length:Int)<p then some "NoStrip" else if w<1\/(atP1 ps p).2<=w then some "BadPart" else if 40<=ps.length then some "TooManyStrips" else none
def X9(ps:List (Int×Int))(p w:Int):List (Int×Int):=ps.take (p-1).toNat++[((atP1 ps p).1,w),((atP1 ps p).1,(atP1 ps p).2-w)]++ps.drop p.toNat
def Nr(ps:List (Int×Int))(p w:Int):List Bool:=if p<1\/(ps.length:Int)<p then[true,true,false,false]else if w<1\/(atP1 ps p).2<=w then[true,false,true,false]else if 40<=ps.length then[true,false,false,true]else[]
def MT(ps:List (Int×Int))(p w:Int):(UB ps p w=some ("NoStrip" : Str)/\Nr ps p w=[true,true,false,false])\/(UB ps p w=some ("BadPart" : Str)/\Nr ps p w=[true,false,true,false])\/(UB ps p w=some ("TooManyStrips" : Str)/\Nr ps p w=[true,false,false,true])\/
  (UB ps p w=none/\Nr ps p w=[]/\1<=p/\p<=ps.length/\1<=w/\w<(atP1 ps p).2/\ps.length<40):=by
 unfold UB Nr;by_cases c:p<1\/(ps.length:Int)<p
 ·rw[Yn c,Yn c];exact .inl ⟨rfl,rfl⟩
 ·rw[Yo c,Yo c];by_cases c2:w<1\/(atP1 ps p).2<=w
  ·rw[Yn c2,Yn c2];exact .inr (.inl ⟨rfl,rfl⟩)
  ·rw[Yo c2,Yo c2];by_cases c3:40<=ps.length
   ·rw[Yn c3,Yn c3];exact .inr (.inr (.inl ⟨rfl,rfl⟩))
   ·rw[Yo c3,Yo c3];exact .inr (.inr (.inr ⟨rfl,rfl,by omega,by omega,by omega,by omega,by omega⟩))
def NS{ps:List (Int×Int)}{p:Int}(h1:1<=p)(h2:p<=ps.length):atP1 ps p∈ps:=by
 have hl:(p-1).toNat<ps.length:=by omega
 unfold atP1;rw[Y1,Yj hl];exact YC hl
def AM{ps:List (Int×Int)}{p w:Int}(h1:1<=p):cutD (ps.map prD) none (some (p-1))++[prD ((atP1 ps p).1,w),prD ((atP1 ps p).1,(atP1 ps p).2-w)]++cutD (ps.map prD) (some p) none=(X9 ps p w).map prD:=by
 rw[KC,KC,N0 ps (by omega),ND ps (by omega)];unfold X9;rw[Y5,Y5];rfl
def HN{ps:List (Int×Int)}{p w:Int}(h1:1<=p)(h2:p<=ps.length):(X9 ps p w).length=ps.length+1:=by
 unfold X9;rw[Yt,Yt,YJ,Qc];simp;omega
def Os{ps:List (Int×Int)}{p w:Int}(hF:Field ps)(h1:1<=p)(h2:p<=ps.length)(h3:1<=w)(h4:w<(atP1 ps p).2):Field (X9 ps p w):=by
 obtain⟨a1,a2,a3,a4⟩:=hF _ (NS h1 h2);intro q hq;unfold X9 at hq;rcases Y4.mp hq with hq|hq
 ·rcases Y4.mp hq with hq|hq
  ·exact hF q (WX hq)
  ·rcases Yx.mp hq with rfl|hq
   ·exact⟨a1,a2,h3,by show w<=1000;omega⟩
   ·rw[Ym]at hq;subst hq;exact⟨a1,a2,by show 1<=_-w;omega,by show _-w<=1000;omega⟩
 ·exact hF q (QY hq)
def DJ:∀{a b:List Int},sl a b->¬sl b a
 |[],_,h,_=>by cases h
 |_::_,[],h,_=>by cases h
 |a::r,b::t,h,k=>by
  rcases h with h|⟨e,h⟩
  ·rcases k with k|⟨e,_⟩<;>omega
  ·rcases k with k|⟨_,k⟩
   ·omega
   ·exact DJ h k
def U4(ws:List (Int×Int))(a b:Int):Option Str:=if ¬(1<=a/\a<=10)then some "BadHolder" else if ¬(1<=b/\b<=10)then some "BadHolder" else if a=b then some "LikeHolders" else if (a,b)∈ws then some "WishStands" else if 20<=ws.length then some "TooManyWishes" else none
def UE(ws:List (Int×Int))(a b:Int):Option Str:=if (a,b)∈ws then none else some "NoWish"
def PL(ws:List (Int×Int))(a b:Int):List (Int×Int):=ws.filter fun q=>!decide (q=(a,b))
def uniE(ps:List (Int×Int))(p:Int):Option Str:=if p<1\/(ps.length:Int)<=p then some "NoStrip" else if ¬(atP1 ps p).1=(atP1 ps (p+1)).1 then some "UnlikeHolders" else if 1000<(atP1 ps p).2+(atP1 ps (p+1)).2 then some "TooWide" else none
def uniL(ps:List (Int×Int))(p:Int):List (Int×Int):=ps.take (p-1).toNat++[((atP1 ps p).1,(atP1 ps p).2+(atP1 ps (p+1)).2)]++ps.drop (p+1).toNat
def Dj{ps:List (Int×Int)}{p:Int}(h1:1<=p):cutD (ps.map prD) none (some (p-1))++[prD ((atP1 ps p).1,(atP1 ps p).2+(atP1 ps (p+1)).2)]++cutD (ps.map prD) (some (p+1)) none=(uniL ps p).map prD:=by
 rw[KC,KC,N0 ps (by omega),ND ps (by omega)];unfold uniL;rw[Y5,Y5];rfl
def Zdh{ps:List (Int×Int)}{p:Int}(h1:1<=p)(h2:p<ps.length):(uniL ps p).length+1=ps.length:=by
 unfold uniL;rw[Yt,Yt,YJ,Qc];simp;omega
def HY{ps:List (Int×Int)}{p:Int}(hF:Field ps)(e:uniE ps p=none):Field (uniL ps p):=by
 unfold uniE at e;split at e
 ·cases e
 split at e
 ·cases e
 split at e
 ·cases e
 rename_i c1 c2 c3;obtain⟨a1,a2,a3,a4⟩:=hF _ (NS (ps:=ps) (p:=p) (by omega) (by omega));obtain⟨b1,b2,b3,b4⟩:=hF _ (NS (ps:=ps) (p:=p+1) (by omega) (by omega));intro q hq;unfold uniL at hq;rcases Y4.mp hq with hq|hq
 ·rcases Y4.mp hq with hq|hq
  ·exact hF q (WX hq)
  ·rw[Ym]at hq;subst hq;exact⟨a1,a2,by show 1<=_+_;omega,by show _+_<=1000;omega⟩
 ·exact hF q (QY hq)
def Hc{ws:List (Int×Int)}{a b:Int}(h:Kf ws)(e:U4 ws a b=none):Kf (ws++[(a,b)]):=by
 unfold U4 at e;split at e
 ·cases e
 split at e
 ·cases e
 split at e
 ·cases e
 split at e
 ·cases e
 split at e
 ·cases e
 rename_i c1 c2 c3 c4 c5;obtain⟨h1,h2,h3⟩:=h;have k1:=Wm.mp c1;have k2:=Wm.mp c2;refine⟨by rw[Yt,Wi];omega,?_,fun q hq=>?_⟩
 ·rw[W1];exact⟨h2,by simp,fun x hx y hy z=>by rw[Ym]at hy;subst hy;exact c4 (z▸hx)⟩
 ·rcases Y4.mp hq with hq|hq
  ·exact h3 q hq
  ·rw[Ym]at hq;subst hq;exact⟨⟨k1.1,k1.2,k2.1,k2.2⟩,c3⟩
def Oq{ws:List (Int×Int)}{a b:Int}(h:Kf ws):Kf (PL ws a b):=
 ⟨Yy (Wc _ _) h.1,h.2.1.filter _,fun q hq=>h.2.2 q (YG.mp hq).1⟩
def Ln:Kf []:=⟨by decide,WZ,fun q hq=>by cases hq⟩
def Hw(m:List Int)(k:Int):Int:=1+(k*m.getD 1 0+m.getD 2 0) % 10
def Ph(ps:List (Int×Int))(os:List Int):Option Str:=if os.isPerm (JX ps)=true then none else some "BadOrder"
def Zcf{ps:List (Int×Int)}{os:List Int}(h:os.Perm (JX ps)):Ph ps os=none:=by
 unfold Ph;rw[Yn (List.isPerm_iff.mpr h)]
def Oa{ps:List (Int×Int)}{os ns:List Int}(h1:ns.Perm os)(h2:ns.Pairwise (·<=·)):(ns=JX ps)↔os.isPerm (JX ps)=true:=by
 rw[List.isPerm_iff];exact⟨fun z=>z▸h1.symm,fun z=>Zew z h1 h2⟩
def uniK(ps:List (Int×Int))(p:Int):List Bool:=if p<1\/(ps.length:Int)<=p then[true,true,false,false]else if ¬(atP1 ps p).1=(atP1 ps (p+1)).1 then[true,false,true,false]else if 1000<(atP1 ps p).2+(atP1 ps (p+1)).2 then[true,false,false,true]else[]
def MD(ps:List (Int×Int))(p:Int):(uniE ps p=some ("NoStrip" : Str)/\uniK ps p=[true,true,false,false])\/(uniE ps p=some ("UnlikeHolders" : Str)/\uniK ps p=[true,false,true,false])\/(uniE ps p=some ("TooWide" : Str)/\uniK ps p=[true,false,false,true])\/
  (uniE ps p=none/\uniK ps p=[]/\1<=p/\p<ps.length):=by
 unfold uniE uniK;by_cases c:p<1\/(ps.length:Int)<=p
 ·rw[Yn c,Yn c];exact .inl ⟨rfl,rfl⟩
 ·rw[Yo c,Yo c];by_cases c2:(atP1 ps p).1=(atP1 ps (p+1)).1
  ·rw[Yo (Wm.mpr c2),Yo (Wm.mpr c2)];by_cases c3:1000<(atP1 ps p).2+(atP1 ps (p+1)).2
   ·rw[Yn c3,Yn c3];exact .inr (.inr (.inl ⟨rfl,rfl⟩))
   ·rw[Yo c3,Yo c3];exact .inr (.inr (.inr ⟨rfl,rfl,by omega,by omega⟩))
  ·rw[Yn c2,Yn c2];exact .inr (.inl ⟨rfl,rfl⟩)
def IJ{ps:List (Int×Int)}{p:Int}(h1:1<=p)(h2:p<ps.length):atI (ps.map prD) p=some (prD (atP1 ps (p+1))):=by
 have:=Ks (ps:=ps) (p:=p+1) (by omega) (by omega)
 rwa[show p+1-1=p by omega]at this
abbrev d3(k:Str)(a b:Int):D:=.tup [.str k,.int a,.int b]
end Pu
namespace M
open PySem PySem.Spec PyProof.Rows L2 Own Pu
def IK{ws:List (Int×Int)}{o:List Int}(hk:Keeps ws o){a b:Int}(ha:a∈o)(hb:b∈o.take (o.idxOf a)):(a,b)∉ws:=by
 obtain⟨j,hj,e⟩:=YE.mp hb;rw[YJ]at hj;rw[Ws]at e;have g:=Qe.mpr ha
 have:=YZ.mp hk j (o.idxOf a) (by omega) g (by omega)
 rw[e,Q6 g]at this;exact this
end M
namespace Pu
open PySem PySem.Spec PyProof.Rows L2 Own
section
variable {K:Za}{mg:Str->Option Value}{E:L2.St->XK}
def rNeT(K:Za):R2:=fun x y H Q=>∃(p q:Addr) (xs ys:List V),x=.ref p/\y=.ref q/\SqT K H p xs/\SqT K H q ys/\xs.all Xu=true/\ys.all Xu=true/\Q (.bl (!eqL xs ys)) H
def A7{X:Cx}(hu:X.A.units<cLine)(hK:X.K=K:=by rfl):OpR X (compareOp .NotEq) (rNeT K):=by
 subst hK;intro pins s σ H x y v u Q I rx ry h;obtain⟨p,q,xs,ys,rfl,rfl,hp,hq,f1,f2,k⟩:=h;obtain rfl:v=Value.ref p:=rx;obtain rfl:u=Value.ref q:=ry;obtain⟨us,r1,p1,_⟩:=I.tuple hp;obtain⟨ws,r2,p2,_⟩:=I.tuple hq;have l1:=r1.length;have l2:=r2.length;refine SeqAt.RcNeAt.tuples p1 p2 hu (fun j h1 h2=>Bi r1 r2 f1 f2 j h1 h2) _ _ _ _ ⟨.bl (!eqL xs ys),H,I,?_,k⟩;show _=Value.bool (!eqL xs ys);unfold eqL;rw[Yz,Yz,←l1,←l2];by_cases e:xs.length=ys.length
 ·rw[Yl e,WO,←e,Nat.min_self,beq_self_eq_true,Bool.and_true]
 ·rw[Y0 e,WY,Wt.mpr e,Bool.and_false]
def fNeT:S->S->(S->Prop)->Prop:=fun x y R=>∃xs ys:List Int,x.d=.tup (xs.map D.int)/\y.d=.tup (ys.map D.int)/\R (.sh (.bl (!decide (xs=ys))))
def Gy{ta tb:TE}{a b:PTE}(ha:SndE K mg E ta a)(hb:SndE K mg E tb b):SndE K mg E (tOp (rNeT K) ta tb) (p2 a b fNeT):=by
 refine se_2 ha hb fun H0 H H2 Z x y v u R Q s0 s1 hm tx ty h q=>?_;obtain⟨xs,ys,e1,e2,hR⟩:=h;have rx:=tx.rp s0;have ry:=ty.rp s0;rw[e1]at rx;rw[e2]at ry;obtain⟨p,us,rfl,hp,r1⟩:=Rp.tup_inv rx;obtain⟨p',ws,rfl,hp',r2⟩:=Rp.tup_inv ry;rw[r1.ints]at hp;rw[r2.ints]at hp';refine⟨p,p',_,_,rfl,rfl,SqT.of hp,SqT.of hp',Ky _,Ky _,?_⟩;rw[Ft];exact q _ _ H2 hR (Same.refl _) (.bl _)
def Ao:List S->(S->Prop)->Prop
 |[s],R=>(match s.d with | .int i=>R (.sh (.int i)) | .bl k=>R (.sh (.int (if k then 1 else 0)))|_=>False)
 |_,_=>False
def IX{ta:TA}{r:PTA}(hr:SndA K mg E ta r):SndE K mg E (tCB (fun xs H Q=>(∃i,xs=[.int i]/\Q (.int i) H)\/∃k,xs=[.bl k]/\Q (.int (if k then 1 else 0)) H) ta) (pCB Ao r):=by
 refine XI hr fun H0 H H1 Z ss vs R Q s0 s1 hm tv h q=>?_;unfold Ao at h;split at h
 ·rename_i s;obtain⟨v,rfl,t1⟩:=tv.one_inv;have rv:=t1.rp s0;split at h
  ·rename_i i e;rw[e]at rv;exact .inl ⟨i,by rw[rv.int_inv],q _ _ H1 h (Same.refl _) (.int _)⟩
  ·rename_i k e;rw[e]at rv;exact .inr ⟨k,by rw[rv.bl_inv],q _ _ H1 h (Same.refl _) (.int _)⟩
  ·exact h.elim
 ·exact h.elim
def Zbm(p q:Int×Int):decide ([p.1,p.2]=[q.1,q.2])=decide (p=q):=by
 by_cases h:p=q
 ·rw[h,Yl rfl,Yl rfl]
 ·rw[Y0 h,Y0];intro z;simp only[Qz,and_true]at z;exact h (Prod.ext z.1 z.2)
def Lx{p q:Int×Int}{R:S->Prop}(h:R (.sh (.bl (!decide (p=q))))):fNeT (.sh (prD p)) (.sh (prD q)) R:=by
 refine⟨[p.1,p.2],[q.1,q.2],rfl,rfl,?_⟩
 have e:decide ([p.1,p.2]=[q.1,q.2])=decide (p=q):=by
  by_cases h:p=q
  ·rw[h,Yl rfl,Yl rfl]
  ·rw[Y0 h,Y0];intro z;simp only[Qz,and_true]at z;exact h (Prod.ext z.1 z.2)
 rw[e];exact h
end
structure DI (K:Za) (x:Str) (st:Stmt):Prop where
 ex:∃f fd,PySem.W.nsIn K mainGlobals x=some (some (.ref f))/\Fun K x x st f fd
structure MI (K:Za) (C:Addr) (m q:Str) (st:Stmt):Prop where
 ex:∃f fd,PySem.W.findIn K (.ref C) m=some (some (.ref f))/\PySem.W.isFn K (.ref f)=true/\Fun K m q st f fd
section
variable {K:Za}{h:Heap}{mg:Str->Option Value}
def di{x:Str}{st:Stmt}{f:Addr}{oc:Value}{od an:Option Addr}{osl:Array (Option Value)}{kV doc pm cdv ct:Value}(a:PySem.W.nsIn K mainGlobals x=some (some (.ref f)))(l:K.lookup f=some ⟨oc,od,.func (PySem.W.fnOf x x (X3 st) (UA st) (JE st) .none kV doc pm an cdv ct),osl⟩)(c:PySem.W.codeIn K cdv x=true)(k:PySem.W.keepIn K (.ref f)=true):DI K x st:=⟨f,_,a,NV l c k⟩
def mi{C:Addr}{m q:Str}{st:Stmt}{f:Addr}{oc:Value}{od an:Option Addr}{osl:Array (Option Value)}{kV doc pm cdv ct:Value}(a:PySem.W.findIn K (.ref C) m=some (some (.ref f)))(i:PySem.W.isFn K (.ref f)=true)(l:K.lookup f=some ⟨oc,od,.func (PySem.W.fnOf m q (X3 st) (UA st) (JE st) .none kV doc pm an cdv ct),osl⟩)(c:PySem.W.codeIn K cdv q=true)(k:PySem.W.keepIn K (.ref f)=true):MI K C m q st:=⟨f,_,a,i,NV l c k⟩
def DI.d {x:Str}{st:Stmt}{ps:List Str} (D:DI K x st) (X:K.In h) (G0:h.Ns mainGlobals mg)
  (b:∀(kV doc pm:Value) (an:Option Addr) (cdv ct:Value) (us:List Value),us.length=ps.length->bindArgs (PySem.W.fnOf x x (X3 st) (UA st) (JE st) .none kV doc pm an cdv ct) ⟨us,[]⟩=pure (ps.zip us)):Def K mg x st ps:=
 let ⟨_,_,a,F⟩:=D.ex
 ⟨_,_,F,Wf X G0 a,F.binds b⟩
def MI.d {C C':Addr}{m q:Str}{st:Stmt}{ps:List Str} (D:MI K C m q st) (e:C'=C)
  (b:∀(kV doc pm:Value) (an:Option Addr) (cdv ct:Value) (us:List Value),us.length=ps.length->bindArgs (PySem.W.fnOf m q (X3 st) (UA st) (JE st) .none kV doc pm an cdv ct) ⟨us,[]⟩=pure (ps.zip us)):DefM K (Meth K C' m) m q st ps:=
 let ⟨_,_,a,i,F⟩:=D.ex
 ⟨_,_,F,by rw[e];exact⟨a,i,F.kp⟩,F.binds b⟩
def MI.i {C C':Addr}{q:Str}{st:Stmt}{ps:List Str} (D:MI K C "__init__" q st) (e:C'=C) (mk:PySem.W.makesIn K C=true) (kc:PySem.W.keepIn K (.ref C)=true)
  (b:∀(kV doc pm:Value) (an:Option Addr) (cdv ct:Value) (us:List Value),us.length=ps.length->bindArgs (PySem.W.fnOf "__init__" q (X3 st) (UA st) (JE st) .none kV doc pm an cdv ct) ⟨us,[]⟩=pure (ps.zip us)):DefM K (Mk K C') "__init__" q st ps:=
 let ⟨_,_,a,i,F⟩:=D.ex
 ⟨_,_,F,by rw[e];exact⟨mk,a,i,kc⟩,F.binds b⟩
end
def fs{N P:List Str}{sc:Scope}(h1:sc.kind=.function:=by rfl)(h2:sc.isCoroutine=false:=by rfl)(h3:sc.isGenerator=false:=by rfl)(h4:N.Nodup:=by decide +kernel)(h5:N.take P.length=P:=by rfl)(h6:∀x∈P,sc.names.lookup x=some .local\/sc.names.lookup x=some .cell:=by decide +kernel)(h7:∀y∈sc.names,y.2≠.free:=by decide +kernel):FnScope N P sc:=⟨h1,h2,h3,h4,h5,h6,h7⟩
def pz{X:Cx}{pos:Pos}{x:Str}{e:Expr}{te:TE}{pos':Pos}(i:Nat)(hN:X.N.Nodup)(he:PE X e te)(hi:X.N[i]?=some x:=by rfl)(hx:Loc X.env.scope x:=by first|exact Or.inl rfl|exact Or.inr rfl)(hs:swapsWith e (some (.Name x pos')) pos.line X.env=pure false:=by rfl)(hf:X.fn x=true\/X.env.scope.names.lookup x=some .local:=by first|exact .inl rfl|exact .inr rfl|assumption) :
  PS X (.Assign [.Name x pos'] e pos) (tAsg te (P8 i)):=Zey hN hi hx he hs hf
section
variable {K:Za}{mg:Str->Option Value}{E:L2.St->XK}{H0 H H1 H':Hp}{B Z Z':Addr->Prop}{σ:L2.St}{γ:Γ}
def EnvR.named {i:Nat}{a:Addr}{ds:List D} (env:EnvR K H0 B H σ γ) (hi:γ[i]?=some (some (.own (.lst ds)))) (ha:σ[i]?=some (some (.ref a))):EnvR K H0 B H σ (γ.set i (some (.own (.lsA a ds))))/\Fr B H σ γ H σ (γ.set i (some (.own (.lsA a ds)))):=by
 obtain⟨v,hv,b,rfl,hb0,us,hb,rb⟩:=env.slot i _ hi;rw[ha]at hv;cases hv
 have hz:∀b,zof B (γ.set i (some (.own (.lsA a ds)))) σ b->zof B γ σ b:=fun b z=>by
  rcases z with z|⟨j,fs,a',e1,e2,e3⟩
  ·exact .inl z
  ·rcases Uu e1 with⟨ej,q,_⟩|⟨_,e⟩
   ·subst ej;cases q
    rw[ha]at e2;cases e2
    exact .inr ⟨j,_,a,hi,ha,e3⟩
   ·exact .inr ⟨j,fs,a',e,e2,e3⟩
 exact env.change (o:=.lst ds) (o':=.lsA a ds) hi ha (fun _ _ h _=>h) (fun b h=>by rw[show b=a from h,hb];trivial) (fun b h=>.inl h) ⟨rfl,us,hb,Rps.mono (JV (Same.refl _) fun b _ _ z y=>z (hz b y)) rb⟩
def pNm(i:Nat)(p:PTS):PTS:=fun R γ=>match γ[i]? with
 |some (some (.own (.lst ds)))=>∀a,p R (γ.set i (some (.own (.lsA a ds))))
 |_=>p R γ
def FQ(i:Nat){t:TS}{p:PTS}(hp:SndS K mg E t p):SndS K mg E t (pNm i p):=by
 intro H0 B H σ γ R D hB env h e;unfold pNm at h;split at h
 ·rename_i ds hi;obtain⟨v,hv,b,rfl,hb0,us,hb,rb⟩:=env.slot i _ hi;obtain⟨e1,f1⟩:=env.named hi hv;exact hp H0 B H σ _ R D hB e1 (h b) (e.from f1)
 ·exact hp H0 B H σ γ R D hB env h e
def EnvR.change2 {i j:Nat}{a1 a2:Addr}{o1 o1' o2 o2':O} (E:EnvR K H0 B H σ γ) (hij:i≠j) (hi:γ[i]?=some (some (.own o1))) (hj:γ[j]?=some (some (.own o2))) (ha1:σ[i]?=some (some (.ref a1))) (ha2:σ[j]?=some (some (.ref a2)))
  (hH:∀b x,H b=some x->¬o1.adr a1 b->¬o2.adr a2 b->H' b=some x) (hm:∀b,o1.adr a1 b\/o2.adr a2 b->Mut (H' b)) (n1:∀b,o1'.adr a1 b->o1.adr a1 b\/H b=none) (n2:∀b,o2'.adr a2 b->o2.adr a2 b\/H b=none) (ap:∀b,o1'.adr a1 b->¬o2'.adr a2 b)
  (r1:OR K (Pu.off (zof B ((γ.set i (some (.own o1'))).set j (some (.own o2'))) σ) H') H' a1 o1') (r2:OR K (Pu.off (zof B ((γ.set i (some (.own o1'))).set j (some (.own o2'))) σ) H') H' a2 o2') :
  EnvR K H0 B H' σ ((γ.set i (some (.own o1'))).set j (some (.own o2')))/\Fr B H σ γ H' σ ((γ.set i (some (.own o1'))).set j (some (.own o2'))):=by
 generalize eg:(γ.set i (some (S.own o1'))).set j (some (.own o2'))=γ2 at r1 r2 ⊢
 have get:∀(k:Nat) (s:S),γ2[k]?=some (some s)->(k=j/\s=.own o2')\/(k=i/\k≠j/\s=.own o1')\/(k≠i/\k≠j/\γ[k]?=some (some s)):=fun k s h=>by
  rw[←eg]at h;rcases Uu h with⟨e1,e2,_⟩|⟨e1,e2⟩
  ·exact .inl ⟨e1,(Yv e2).symm⟩
  ·rcases Uu e2 with⟨f1,f2,_⟩|⟨f1,f2⟩
   ·exact .inr (.inl ⟨f1,e1,(Yv f2).symm⟩)
   ·exact .inr (.inr ⟨f1,e1,f2⟩)
 obtain⟨v1,q1,x1,rfl,h1,k1⟩:=E.slot i _ hi;rw[ha1]at q1;cases q1
 obtain⟨v2,q2,x2,rfl,h2,k2⟩:=E.slot j _ hj;rw[ha2]at q2;cases q2
 have za:∀b,o1.adr a1 b\/o2.adr a2 b->zof B γ σ b:=fun b hb=>hb.elim (fun hb=>.inr ⟨i,o1,a1,hi,ha1,hb⟩) fun hb=>.inr ⟨j,o2,a2,hj,ha2,hb⟩
 have hz:∀b x,H b=some x->zof B γ2 σ b->zof B γ σ b:=fun b x hx z=>by
  rcases z with z|⟨k,fs,a',e1,e2,e3⟩
  ·exact .inl z
  ·rcases get k _ e1 with⟨ek,es⟩|⟨ek,_,es⟩|⟨_,_,e⟩
   ·subst ek;cases es;rw[ha2]at e2;cases e2;rcases n2 b e3 with w|w
    ·exact za b (.inr w)
    ·rw[w]at hx;cases hx
   ·subst ek;cases es;rw[ha1]at e2;cases e2;rcases n1 b e3 with w|w
    ·exact za b (.inl w)
    ·rw[w]at hx;cases hx
   ·exact .inr ⟨k,fs,a',e,e2,e3⟩
 have hH':∀b x,H b=some x->¬(o1.adr a1 b\/o2.adr a2 b)->H' b=some x:=fun b x hx n=>hH b x hx (fun z=>n (.inl z)) fun z=>n (.inr z)
 have S1:Same (Pu.off (zof B γ σ) H) (Pu.off (zof B γ2 σ) H'):=fun b x h=>by
  obtain⟨q1,q2⟩:=XJ h;exact Ur (hH' b x q1 fun k=>q2 (za b k)) fun z=>q2 (hz b x q1 z)
 have old:∀(k:Nat) (ds:O) (a b:Addr),γ[k]?=some (some (.own ds))->σ[k]?=some (some (.ref a))->ds.adr a b->∃o,H b=some o:=fun k ds a b e1 e2 e3=>by
  obtain⟨u,q1,a',q2,_,q3⟩:=E.slot k _ e1;rw[e2]at q1;cases q1
  cases q2
  exact Kv (q3.mut b e3)
 have apart1:∀(k:Nat) (ds:O) (a b:Addr),k≠i->γ[k]?=some (some (.own ds))->σ[k]?=some (some (.ref a))->ds.adr a b->¬o1'.adr a1 b:=fun k ds a b nk e1 e2 e3 w=>by
  rcases n1 b w with w|w
  ·exact nk (E.own k i a a1 ds o1 b e1 hi e2 ha1 e3 w)
  ·obtain⟨u,hu⟩:=old k ds a b e1 e2 e3;rw[w]at hu;cases hu
 have apart2:∀(k:Nat) (ds:O) (a b:Addr),k≠j->γ[k]?=some (some (.own ds))->σ[k]?=some (some (.ref a))->ds.adr a b->¬o2'.adr a2 b:=fun k ds a b nk e1 e2 e3 w=>by
  rcases n2 b w with w|w
  ·exact nk (E.own k j a a2 ds o2 b e1 hj e2 ha2 e3 w)
  ·obtain⟨u,hu⟩:=old k ds a b e1 e2 e3;rw[w]at hu;cases hu
 refine⟨⟨fun b x h=>?_,by rw[←eg,Wj,Wj];exact E.len,fun b hb=>?_,fun k l x x' fs fs' b e1 e2 e3 e4 e5 e6=>?_,fun k s h=>?_⟩,fun b x h z=>⟨?_,fun y=>z (hz b x h y)⟩⟩
 ·exact hH' b x (E.same b x h) fun k=>by
   rcases k with k|k
   ·rw[h1 b k]at h;cases h
   ·rw[h2 b k]at h;cases h
 ·by_cases k:o1.adr a1 b\/o2.adr a2 b
  ·exact hm b k
  ·have:=E.bm b hb
   obtain⟨x,hx⟩:=Kv this;rw[hH' b x hx k,←hx];exact this
 ·rcases get k _ e1 with⟨ek,es⟩|⟨ek,nk,es⟩|⟨nk,nk',e⟩<;>rcases get l _ e2 with⟨el,et⟩|⟨el,nl,et⟩|⟨nl,nl',e'⟩
  ·rw[ek,el]
  ·subst ek el;cases es;cases et;rw[ha2]at e3;cases e3;rw[ha1]at e4;cases e4;exact absurd e5 (ap b e6)
  ·subst ek;cases es;rw[ha2]at e3;cases e3;exact absurd e5 (apart2 l fs' x' b nl' e' e4 e6)
  ·subst ek el;cases es;cases et;rw[ha1]at e3;cases e3;rw[ha2]at e4;cases e4;exact absurd e6 (ap b e5)
  ·rw[ek,el]
  ·subst ek;cases es;rw[ha1]at e3;cases e3;exact absurd e5 (apart1 l fs' x' b nl e' e4 e6)
  ·subst el;cases et;rw[ha2]at e4;cases e4;exact absurd e6 (apart2 k fs x b nk' e e3 e5)
  ·subst el;cases et;rw[ha1]at e4;cases e4;exact absurd e6 (apart1 k fs x b nk e e3 e5)
  ·exact E.own k l x x' fs fs' b e e' e3 e4 e5 e6
 ·rcases get k s h with⟨ek,es⟩|⟨ek,_,es⟩|⟨nk,nk',e⟩
  ·subst ek es;exact⟨_,ha2,a2,rfl,fun b hb=>(n2 b hb).elim (h2 b) fun w=>E.same.free w,r2⟩
  ·subst ek es;exact⟨_,ha1,a1,rfl,fun b hb=>(n1 b hb).elim (h1 b) fun w=>E.same.free w,r1⟩
  ·obtain⟨v,q1,q2⟩:=E.slot k s e;refine⟨v,q1,?_⟩;cases s with
   |bor d=>exact q2
   |sh d=>exact Rp.mono S1 q2
   |own fs=>
    obtain⟨x,rfl,e3,e4⟩:=q2;exact⟨x,rfl,e3,e4.mono S1 fun b hb y e2=>hH b y e2 (fun w=>nk (E.own k i x a1 fs o1 b e hi q1 ha1 hb w)) fun w=>nk' (E.own k j x a2 fs o2 b e hj q1 ha2 hb w)⟩
   |view ds=>exact q2
   |tmp d=>exact q2
 ·exact hH' b x h fun k=>z (za b k)
abbrev Pw2:=O->O->List S->(O->O->D->Prop)->(O->O->Str->Prop)->Prop
def two(o1 o2:O)(a1 a2:Addr):Addr->Prop:=fun b=>o1.adr a1 b\/o2.adr a2 b
structure After2 (K:Za) (B:Addr->Prop) (H:Hp) (a1 a2:Addr) (o1 o2 o1' o2':O) (H':Hp):Prop where
 same:Same (off (two o1 o2 a1 a2) H) H'
 old1:∀b,o1.adr a1 b->o1'.adr a1 b
 old2:∀b,o2.adr a2 b->o2'.adr a2 b
 new1:∀b,o1'.adr a1 b->o1.adr a1 b\/H b=none
 new2:∀b,o2'.adr a2 b->o2.adr a2 b\/H b=none
 apart:∀b,o1'.adr a1 b->¬o2'.adr a2 b
 at1:OR K (off (fun b=>B b\/two o1' o2' a1 a2 b) H') H' a1 o1'
 at2:OR K (off (fun b=>B b\/two o1' o2' a1 a2 b) H') H' a2 o2'
def spW2(mg:Str->Option Value)(c:Pw2)(K:Za):Sp:=fun vs H Q E=>∃(o1 o2:O) (a1 a2:Addr) (ss:List S) (us:List V) (B:Addr->Prop) (R:O->O->D->Prop) (X:O->O->Str->Prop),
 vs=.ref a1 :: .ref a2::us/\(∀b,B b->Mut (H b)/\¬two o1 o2 a1 a2 b)/\(∀b,o1.adr a1 b->¬o2.adr a2 b)/\OR K (off (fun b=>B b\/two o1 o2 a1 a2 b) H) H a1 o1/\OR K (off (fun b=>B b\/two o1 o2 a1 a2 b) H) H a2 o2/\
 TVs K (fun b=>B b\/two o1 o2 a1 a2 b) (off (two o1 o2 a1 a2) H) H H ss us/\(∀s∈ss,s.flat)/\c o1 o2 ss R X/\
 (∀o1' o2' d v H',R o1' o2' d->After2 K B H a1 a2 o1 o2 o1' o2' H'->Rp K (off (fun b=>B b\/two o1' o2' a1 a2 b) H') d v->Q v H')/\∀o1' o2' e H',X o1' o2' e->After2 K B H a1 a2 o1 o2 o1' o2' H'->XE mg E e H'
def XZ(N:List Str)(o1 o2:O)(ss:List S):Γ:=some (.own o1)::some (.own o2)::(ss.map some++List.replicate (N.length-(ss.length+2)) none)
def LP{N:List Str}{o1 o2:O}{a1 a2:Addr}{ss:List S}{us:List V}(hB:∀b,B b->Mut (H b)/\¬two o1 o2 a1 a2 b)(ap:∀b,o1.adr a1 b->¬o2.adr a2 b)(ho1:OR K (off (fun b=>B b\/two o1 o2 a1 a2 b) H) H a1 o1)(ho2:OR K (off (fun b=>B b\/two o1 o2 a1 a2 b) H) H a2 o2)(r:TVs K (fun b=>B b\/two o1 o2 a1 a2 b) (off (two o1 o2 a1 a2) H) H H ss us)(hf:∀s∈ss,s.flat)(hn:ss.length+2<=N.length) :
  EnvR K (off (two o1 o2 a1 a2) H) B H (start N (.ref a1 :: .ref a2::us)) (XZ N o1 o2 ss):=by
 have hlen:=r.len
 have get:∀(i:Nat) (s:S),(XZ N o1 o2 ss)[i+2]?=some (some s)->ss[i]?=some s:=fun i s h=>by
  unfold XZ at h;rw[Wd,Wd]at h;by_cases hi:i<ss.length
  ·rw[YM (by rw[Yi];exact hi),Yw,Yj hi]at h;rw[Yj hi];exact YQ some (Yv (Yv h))
  ·rw[YO (by rw[Yi];omega),WB]at h;split at h<;>cases h
 have noown:∀(i:Nat) (es:O),(XZ N o1 o2 ss)[i+2]?≠some (some (.own es)):=fun i es h=>hf _ (Y8 (get i _ h))
 have st0:(start N (V.ref a1::V.ref a2::us))[0]?=some (some (.ref a1)):=by
  unfold L2.start;rfl
 have st1:(start N (V.ref a1::V.ref a2::us))[1]?=some (some (.ref a2)):=by
  unfold L2.start;rfl
 have g0:∀s,(XZ N o1 o2 ss)[0]?=some (some s)->s=.own o1:=fun s h=>by
  have h:some (some (S.own o1))=some (some s):=h;cases h
  rfl
 have g1:∀s,(XZ N o1 o2 ss)[1]?=some (some s)->s=.own o2:=fun s h=>by
  have h:some (some (S.own o2))=some (some s):=h;cases h
  rfl
 have hz:∀b,zof B (XZ N o1 o2 ss) (start N (V.ref a1::V.ref a2::us)) b->B b\/two o1 o2 a1 a2 b:=fun b z=>by
  rcases z with z|⟨i,es,a',h1,h2,h3⟩
  ·exact .inl z
  ·match i,h1,h2 with
   | 0,h1,h2=>
    rw[st0]at h2;cases h2
    cases g0 _ h1
    exact .inr (.inl h3)
   | 1,h1,h2=>
    rw[st1]at h2;cases h2
    cases g1 _ h1
    exact .inr (.inr h3)
   |i+2,h1,_=>exact absurd h1 (noown i es)
 have toz:∀{o:O} {a:Addr},OR K (off (fun b=>B b\/two o1 o2 a1 a2 b) H) H a o->OR K (off (zof B (XZ N o1 o2 ss) (start N (V.ref a1::V.ref a2::us))) H) H a o:=fun h=>h.mono (JV (Same.refl _) fun b _ _ z y=>z (hz b y)) fun _ _ _ q=>q;refine⟨off_sub,?_,fun b h=>(hB b h).1,fun i j x x' es es' b h1 h2 h3 h4 h5 h6=>?_,fun i s h=>?_⟩
 ·unfold L2.start XZ;simp[hlen]
 ·match i,j,h1,h2,h3,h4 with
  | 0,0,_,_,_,_=>rfl
  | 1,1,_,_,_,_=>rfl
  | 0,1,h1,h2,h3,h4=>
   cases g0 _ h1
   cases g1 _ h2
   rw[st0]at h3;cases h3
   rw[st1]at h4;cases h4
   exact absurd h6 (ap b h5)
  | 1,0,h1,h2,h3,h4=>
   cases g1 _ h1
   cases g0 _ h2
   rw[st1]at h3;cases h3
   rw[st0]at h4;cases h4
   exact absurd h5 (ap b h6)
  |i+2,_,h1,_,_,_=>exact absurd h1 (noown i es)
  | 0,j+2,_,h2,_,_=>exact absurd h2 (noown j es')
  | 1,j+2,_,h2,_,_=>exact absurd h2 (noown j es')
 ·match i,h with
  | 0,h=>
   cases g0 _ h
   refine⟨_,st0,a1,rfl,fun b hb=>?_,toz ho1⟩;unfold off;rw[Yn (.inl hb)]
  | 1,h=>
   cases g1 _ h
   refine⟨_,st1,a2,rfl,fun b hb=>?_,toz ho2⟩;unfold off;rw[Yn (.inr hb)]
  |i+2,h=>
   have hs:=get i s h;obtain⟨v,hv,tv⟩:=r.get hs;refine⟨v,?_,?_⟩
   ·unfold L2.start;rw[YM (by rw[Yi,Y6,Y6];have:=(Y2.mp hv).1;omega),Yw,Wd,Wd,hv];rfl
   ·have:=hf s (Y8 hs)
    cases s with
    |bor d=>exact tv
    |sh d=>exact Rp.mono (JV (Same.refl _) fun b _ _ z y=>z (hz b y)) tv
    |own _=>exact this.elim
    |view _=>exact this.elim
    |tmp _=>exact this.elim
def Ai(o1 o2:O)(R:O->O->D->Prop)(γ:Γ)(d:D):Prop:=∃o1' o2',γ[0]?=some (some (.own o1'))/\γ[1]?=some (some (.own o2'))/\o1.from o1'/\o2.from o2'/\R o1' o2' d
def Zdw(o1 o2:O)(X:O->O->Str->Prop)(γ:Γ)(e:Str):Prop:=∃o1' o2',γ[0]?=some (some (.own o1'))/\γ[1]?=some (some (.own o2'))/\o1.from o1'/\o2.from o2'/\X o1' o2' e
def EJ(o1 o2:O)(R:O->O->D->Prop)(X:O->O->Str->Prop):PEnds:={nx:=fun γ=>Ai o1 o2 R γ .non,rt:=fun _=>False,ex:=Zdw o1 o2 X,rv:=Ai o1 o2 R}
def FN{a1 a2:Addr}{o1 o2 o1' o2':O}{σ':L2.St}{γ':Γ}(ho1:OR K (off (fun b=>B b\/two o1 o2 a1 a2 b) H) H a1 o1)(ho2:OR K (off (fun b=>B b\/two o1 o2 a1 a2 b) H) H a2 o2)(e:EnvR K (off (two o1 o2 a1 a2) H) B H' σ' γ')(h1:γ'[0]?=some (some (.own o1')))(h2:γ'[1]?=some (some (.own o2')))(k1:o1.from o1')(k2:o2.from o2') :
  After2 K B H a1 a2 o1 o2 o1' o2' H'/\∀b,B b\/two o1' o2' a1 a2 b->zof B γ' σ' b:=by
 obtain⟨v1,s1,x1,rfl,p1,q1⟩:=e.slot 0 _ h1;obtain rfl:=O.from_at k1 ho1 q1;obtain⟨v2,s2,x2,rfl,p2,q2⟩:=e.slot 1 _ h2;obtain rfl:=O.from_at k2 ho2 q2
 have hz:∀b,B b\/two o1' o2' x1 x2 b->zof B γ' σ' b:=fun b z=>by
  rcases z with z|z|z
  ·exact .inl z
  ·exact .inr ⟨0,o1',x1,h1,s1,z⟩
  ·exact .inr ⟨1,o2',x2,h2,s2,z⟩
 have ap:∀b,o1'.adr x1 b->¬o2'.adr x2 b:=fun b z y=>absurd (e.own 0 1 x1 x2 o1' o2' b h1 h2 s1 s2 z y) (by decide);have fromZ:∀{o:O} {a:Addr},OR K (off (zof B γ' σ') H') H' a o->OR K (off (fun b=>B b\/two o1' o2' x1 x2 b) H') H' a o:=fun h=>h.mono (JV (Same.refl _) fun b _ _ z y=>z (hz b y)) fun _ _ _ q=>q
 have free:∀b,off (two o1 o2 x1 x2) H b=none->two o1 o2 x1 x2 b\/H b=none:=fun b w=>by
  unfold off at w;by_cases q:two o1 o2 x1 x2 b
  ·exact .inl q
  ·rw[Yo q]at w;exact .inr w
 refine⟨⟨e.same,O.from_adr k1,O.from_adr k2,fun b hb=>?_,fun b hb=>?_,ap,fromZ q1,fromZ q2⟩,hz⟩
 ·rcases free b (p1 b hb)with(w|w)|w
  ·exact .inl w
  ·exact absurd (O.from_adr k2 b w) (ap b hb)
  ·exact .inr w
 ·rcases free b (p2 b hb)with(w|w)|w
  ·exact absurd hb (ap b (O.from_adr k1 b w))
  ·exact .inl w
  ·exact .inr w
def LN{c:Pw2}{N:List Str}{t:TS}{p:PTS}{vs:List V}{Q:VK}{Ec:XK}{n:Nat}(h:spW2 mg c K vs H Q Ec)(snd:SndS K mg (fun _=>Ec) t p)(hn:n+2<=N.length)(hp:∀o1 o2 ss R X,c o1 o2 ss R X->ss.length=n/\p (EJ o1 o2 R X) (XZ N o1 o2 ss)):t {nx:=fun _ H'=>Q .non H',rt:=Q} (start N vs) H:=by
 obtain⟨o1,o2,a1,a2,ss,us,B,R,X,rfl,hB,ap,ho1,ho2,r,hf,hc,hQ,hX⟩:=h;obtain⟨e,hp⟩:=hp o1 o2 ss R X hc;have env:=LP (N:=N) hB ap ho1 ho2 r hf (by rw[e];exact hn);refine snd _ B H _ _ _ _ (fun b z=>?_) env hp ⟨fun σ' γ' H' h1 e1 f1=>?_,fun _ _ _ z=>z.elim,fun σ' γ' c H' h1 e1 f1=>?_,fun _ _ _ z=>z.elim,fun _ _ _ z=>z.elim,fun σ' γ' d v H' h1 e1 f1 rd=>?_⟩
 ·obtain⟨q1,q2⟩:=hB b z;obtain⟨x,hx⟩:=Kv q1;exact⟨x,Ur hx q2⟩
 ·obtain⟨o1',o2',q1,q2,q3,q4,q5⟩:=h1;exact hQ o1' o2' .non .non H' q5 (FN ho1 ho2 e1 q1 q2 q3 q4).1 .non
 ·obtain⟨o1',o2',q1,q2,q3,q4,q5⟩:=h1;exact hX o1' o2' c H' q5 (FN ho1 ho2 e1 q1 q2 q3 q4).1
 ·obtain⟨o1',o2',q1,q2,q3,q4,q5⟩:=h1;obtain⟨k1,k2⟩:=FN ho1 ho2 e1 q1 q2 q3 q4;exact hQ o1' o2' d v H' q5 k1 (Rp.mono (JV (Same.refl _) fun b _ _ z y=>z (k2 b y)) rd)
def LI{c:Pw2}{vs:List V}{Q:VK}{Ec:XK}{n:Nat}(h:spW2 mg c K vs H Q Ec)(hn:∀o1 o2 ss R X,c o1 o2 ss R X->ss.length=n):vs.length=n+2:=by
 obtain⟨o1,o2,a1,a2,ss,us,B,R,X,rfl,_,_,_,_,r,_,hc,_⟩:=h;rw[Y6,Y6,r.len,hn o1 o2 ss R X hc]
def IV{c:Pw2}{i j:Nat}{o1 o2:O}{a1 a2:Addr}{ss ss':List S}{us:List V}{R:Γ->D->Prop}{X:Γ->Str->Prop}{Q:VK}{Ec:XK}(env:EnvR K H0 B H σ γ)(hB:∀b,B b->∃o,H0 b=some o)(S1:Same H H1)(hij:i≠j)(hi:γ[i]?=some (some (.own o1)))(hj:γ[j]?=some (some (.own o2)))(ha1:σ[i]?=some (some (.ref a1)))(ha2:σ[j]?=some (some (.ref a2)))(t1:TVs K (zof B γ σ) H0 H H1 ss us)(hp:passes ss=some ss')(hc:c o1 o2 ss' (fun o1' o2' d=>R ((γ.set i (some (.own o1'))).set j (some (.own o2'))) d) (fun o1' o2' e=>X ((γ.set i (some (.own o1'))).set j (some (.own o2'))) e))(q:∀γ' d v H',R γ' d->EnvR K H0 B H' σ γ'->Fr B H σ γ H' σ γ'->Rp K (off (zof B γ' σ) H') d v->Q v H')(qx:∀γ' c H',X γ' c->EnvR K H0 B H' σ γ'->Fr B H σ γ H' σ γ'->XE mg Ec c H'):spW2 mg c K (.ref a1 :: .ref a2::us) H1 Q Ec:=by
 have env1:=env.grow S1;obtain⟨v1,h1,x1,e1,h3,h4⟩:=env1.slot i _ hi;rw[ha1]at h1;cases h1
 cases e1
 obtain⟨v2,h2,x2,e2,h5,h6⟩:=env1.slot j _ hj;rw[ha2]at h2;cases h2
 cases e2
 have ap:∀b,o1.adr a1 b->¬o2.adr a2 b:=fun b z y=>hij (env.own i j a1 a2 o1 o2 b hi hj ha1 ha2 z y);have za:∀b,two o1 o2 a1 a2 b->zof B γ σ b:=fun b hb=>hb.elim (fun hb=>.inr ⟨i,o1,a1,hi,ha1,hb⟩) fun hb=>.inr ⟨j,o2,a2,hj,ha2,hb⟩;have h0:∀b,two o1 o2 a1 a2 b->H0 b=none:=fun b hb=>hb.elim (h3 b) (h5 b);have down:∀{o:O} {a:Addr},OR K (off (zof B γ σ) H1) H1 a o->OR K (off (fun b=>(zof B γ σ b/\¬two o1 o2 a1 a2 b)\/two o1 o2 a1 a2 b) H1) H1 a o:=fun h=>h.mono (JV (Same.refl _) fun b _ _ z y=>z (y.elim (fun y=>y.1) (za b))) fun _ _ _ q=>q
 have aft:∀o1' o2' H',After2 K (fun b=>zof B γ σ b/\¬two o1 o2 a1 a2 b) H1 a1 a2 o1 o2 o1' o2' H'->EnvR K H0 B H' σ ((γ.set i (some (.own o1'))).set j (some (.own o2')))/\Fr B H σ γ H' σ ((γ.set i (some (.own o1'))).set j (some (.own o2')))/\∀b x,H' b=some x->¬((zof B γ σ b/\¬two o1 o2 a1 a2 b)\/two o1' o2' a1 a2 b)->¬zof B ((γ.set i (some (.own o1'))).set j (some (.own o2'))) σ b:=fun o1' o2' H' A=>by
  have hzz:∀b x,H' b=some x->¬((zof B γ σ b/\¬two o1 o2 a1 a2 b)\/two o1' o2' a1 a2 b)->¬zof B ((γ.set i (some (.own o1'))).set j (some (.own o2'))) σ b:=fun b x _ n z=>by
   rcases z with z|⟨k,fs,a',e1,e2,e3⟩
   ·refine n (.inl ⟨.inl z,fun w=>?_⟩);obtain⟨u,hu⟩:=hB b z;rw[h0 b w]at hu;cases hu
   ·rcases Uu e1 with⟨ek,q,_⟩|⟨nk,q⟩
    ·subst ek;cases q
     rw[ha2]at e2;cases e2
     exact n (.inr (.inr e3))
    ·rcases Uu q with⟨ek,q',_⟩|⟨nk',q'⟩
     ·subst ek;cases q'
      rw[ha1]at e2;cases e2
      exact n (.inr (.inl e3))
     ·refine n (.inl ⟨.inr ⟨k,fs,a',q',e2,e3⟩,fun w=>?_⟩);rcases w with w|w
      ·exact nk' (env.own k i a' a1 fs o1 b q' hi e2 ha1 e3 w)
      ·exact nk (env.own k j a' a2 fs o2 b q' hj e2 ha2 e3 w)
  have up:∀{o:O} {a:Addr},OR K (off (fun b=>(zof B γ σ b/\¬two o1 o2 a1 a2 b)\/two o1' o2' a1 a2 b) H') H' a o->OR K (off (zof B ((γ.set i (some (.own o1'))).set j (some (.own o2'))) σ) H') H' a o:=fun h=>h.mono (JV (Same.refl _) fun b x hx z=>hzz b x hx z) fun _ _ _ q=>q;obtain⟨k1,k2⟩:=env1.change2 (o1':=o1') (o2':=o2') (H':=H') hij hi hj ha1 ha2 (fun b x hx n1 n2=>A.same b x (Ur hx fun w=>w.elim n1 n2)) (fun b hb=>hb.elim (fun hb=>A.at1.mut b (A.old1 b hb)) fun hb=>A.at2.mut b (A.old2 b hb)) A.new1 A.new2 A.apart (up A.at1) (up A.at2);exact⟨k1,(Fr.grow S1).trans k2,hzz⟩
 refine⟨o1,o2,a1,a2,ss',us,fun b=>zof B γ σ b/\¬two o1 o2 a1 a2 b,_,_,rfl,fun b hb=>⟨env1.zm b hb.1,hb.2⟩,ap,down h4,down h6,?_,Ni hp,hc,fun o1' o2' d v H' hR A rd=>?_,fun o1' o2' e H' hX A=>?_⟩
 ·refine t1.pass env1.same env.zm S1 (fun b x hx=>Ur (env1.same b x hx) fun w=>?_) (JV (Same.refl _) fun b _ _ z y=>z (y.elim (fun y=>y.1) (za b))) hp;rw[h0 b w]at hx;cases hx
 ·obtain⟨k1,k2,k3⟩:=aft o1' o2' H' A;exact q _ d v H' hR k1 k2 (Rp.mono (fun b x h=>let ⟨p1,p2⟩:=XJ h;Ur p1 (k3 b x p1 p2)) rd)
 ·obtain⟨k1,k2,_⟩:=aft o1' o2' H' A;exact qx _ e H' hX k1 k2
def Ze0(i j:Nat)(c:Pw2)(r:PTA):PTW:=fun γ R X=>match γ[i]?,γ[j]? with
 |some (some (.own o1)),some (some (.own o2))=>r γ (fun ss=>match passes ss with|some ss'=>c o1 o2 ss' (fun o1' o2' d=>R ((γ.set i (some (.own o1'))).set j (some (.own o2'))) d) (fun o1' o2' e=>X ((γ.set i (some (.own o1'))).set j (some (.own o2'))) e)|none=>False) (X γ)
 |_,_=>False
def Gn(i j:Nat)(c:Pw2)(r:PTA):PTW:=fun γ R X=>match γ[i]?,γ[j]? with
 |some (some (.own o1)),some (some (.own o2))=>r γ (fun ss=>match passes ss with|some ss'=>c o1 o2 ss' (fun o1' o2' d=>R ((γ.set i (some (.own o1'))).set j (some (.own o2'))) d) (fun _ _ _=>False)|none=>False) (X γ)
 |_,_=>False
def Ey(i j:Nat)(hij:i≠j){c:Pw2}{ta:TA}{r:PTA}(hr:SndA K mg E ta r):SndW K mg E (KA (spW2 mg c K) [] E0 (UH (tVar i) (UH (tVar j) ta))) (Gn i j c r):=by
 intro H0 B H σ γ R X Q hB env h q qx;unfold Gn at h;split at h
 ·rename_i o1 o2 hi hj;obtain⟨v1,hv1,a1,rfl,_,_⟩:=env.slot i _ hi;obtain⟨v2,hv2,a2,rfl,_,_⟩:=env.slot j _ hj;refine⟨_,hv1,_,hv2,hr H0 B H σ γ _ _ _ env h (fun ss us H1 h1 S1 t1=>?_) fun c H' hc S'=>qx γ c H' hc (env.grow S') (Fr.grow S')⟩;show spW2 mg c K ((V.ref a1::V.ref a2::us)++[]) H1 Q E0;rw[YW];split at h1
  ·rename_i ss' ep;exact IV (X:=fun _ _=>False) env hB S1 hij hi hj hv1 hv2 t1 ep h1 q fun _ _ _ z=>z.elim
  ·exact h1.elim
 ·exact h.elim
abbrev PTV:=Γ->(Γ->Bool->Prop)->(Γ->Str->Prop)->Prop
def SndV(K:Za)(mg:Str->Option Value)(E:L2.St->XK)(t:TT)(p:PTV):Prop:=∀(H0:Hp) (B:Addr->Prop) (H:Hp) (σ:L2.St) (γ:Γ) (R:Γ->Bool->Prop) (X:Γ->Str->Prop) (Q:Bool->Hp->Prop),(∀b,B b->∃o,H0 b=some o)->EnvR K H0 B H σ γ->p γ R X->
 (∀γ' b H',R γ' b->EnvR K H0 B H' σ γ'->Fr B H σ γ H' σ γ'->Q b H')->(∀γ' c H',X γ' c->EnvR K H0 B H' σ γ'->Fr B H σ γ H' σ γ'->XE mg (E σ) c H')->t σ H Q
def pVW(w:PTW):PTV:=fun γ R X=>w γ (fun γ' d=>match d with | .bl c=>R γ' c|_=>False) X
def sv_w{te:TE}{w:PTW}(hw:SndW K mg E te w):SndV K mg E (tTru K te) (pVW w):=by
 intro H0 B H σ γ R X Q hB env h q qx;refine hw H0 B H σ γ _ _ _ hB env h (fun γ' d v H' h1 e1 f1 rd=>?_) qx;split at h1
 ·rw[rd.bl_inv];exact⟨_,rfl,q _ _ _ h1 e1 f1⟩
 ·exact h1.elim
def Hn(p:PTV):PTV:=fun γ R X=>p γ (fun γ' b=>R γ' (!b)) X
def EB{t:TT}{p:PTV}(hp:SndV K mg E t p):SndV K mg E (tNot t) (Hn p):=by
 intro H0 B H σ γ R X Q hB env h q qx;exact hp H0 B H σ γ _ _ _ hB env h (fun γ' b H' h1 e1 f1=>q γ' (!b) H' h1 e1 f1) qx
def pIfV(c:PTV)(p q:PTS):PTS:=fun R γ=>c γ (fun γ' b=>if b=true then p R γ' else q R γ') R.ex
def Ed{tt:TT}{c:PTV}{t u:TS}{p q:PTS}(hc:SndV K mg E tt c)(hp:SndS K mg E t p)(hq:SndS K mg E u q):SndS K mg E (tIfS tt t u) (pIfV c p q):=by
 intro H0 B H σ γ R D hB env h e;refine hc H0 B H σ γ _ _ _ hB env h (fun γ' b H' h1 e1 f1=>?_) fun γ' c H' h1 e1 f1=>e.ex _ _ _ _ h1 e1 f1;cases b with
 |true=>
  rw[Yn rfl];exact hp H0 B H' σ γ' R D hB e1 (by simpa using h1) (e.from f1)
 |false=>
  rw[Yo (by decide)];exact hq H0 B H' σ γ' R D hB e1 (by simpa using h1) (e.from f1)
def En(i:Nat):PTW:=fun γ R _=>match γ[i]? with
 |some (some (.own (.lsA x ds)))=>∃d,ds[ds.length-1]?=some d/\R (γ.set i (some (.own (.lsA x ds.dropLast)))) d
 |some (some (.own (.lst ds)))=>∃d,ds[ds.length-1]?=some d/\R (γ.set i (some (.own (.lst ds.dropLast)))) d
 |_=>False
def OX(i:Nat):SndW K mg E (tBM0 K "list" rPop (tVar i)) (En i):=by
 intro H0 B H σ γ R X Q hB env h q qx;unfold En at h;split at h
 ·rename_i x ds hi;obtain⟨d,ed,h⟩:=h;obtain⟨v,hv,b,rfl,hb0,rfl,us,hb,rb⟩:=env.slot i _ hi;obtain⟨u,hu,ru⟩:=rb.get ed;refine⟨_,hv,.inl ⟨rfl,us,SqL.of hb⟩,b,us,u,rfl,rfl,hb,by rw[rb.len];exact hu,?_⟩;obtain⟨e2,f2⟩:=env.mutate (es:=.lsA b ds.dropLast) (us:=.lst us.dropLast) hi hv trivial fun F H' SF hF=>⟨rfl,_,hF,Rps.mono SF (Rps.dropLast rb)⟩;exact q _ _ _ _ h e2 f2 (Rp.mono f2.off ru)
 ·rename_i ds hi;obtain⟨d,ed,h⟩:=h;obtain⟨v,hv,b,rfl,hb0,us,hb,rb⟩:=env.slot i _ hi;obtain⟨u,hu,ru⟩:=rb.get ed;refine⟨_,hv,.inl ⟨rfl,us,SqL.of hb⟩,b,us,u,rfl,rfl,hb,by rw[rb.len];exact hu,?_⟩;obtain⟨e2,f2⟩:=env.mutate (es:=.lst ds.dropLast) (us:=.lst us.dropLast) hi hv trivial fun F H' SF hF=>⟨_,hF,Rps.mono SF (Rps.dropLast rb)⟩;exact q _ _ _ _ h e2 f2 (Rp.mono f2.off ru)
 ·exact h.elim
abbrev Pq:=List S->(S->Prop)->(Str->Prop)->Prop
def spS(mg:Str->Option Value)(c:Pq)(K:Za):Sp:=fun vs H Q E=>∃(ss:List S) (B:Addr->Prop) (R:S->Prop) (X:Str->Prop),(∀b,B b->Mut (H b))/\TVs K B H H H ss vs/\(∀s∈ss,s.flat)/\c ss R X/\
 (∀s v H',R s->Same H H'->TV K B H H H' s v->Q v H')/\∀e H',X e->Same H H'->XE mg E e H'
def KD(N:List Str)(ss:List S):Γ:=ss.map some++List.replicate (N.length-ss.length) none
def OD{N:List Str}{ss:List S}{us:List V}(hB:∀b,B b->Mut (H b))(r:TVs K B H H H ss us)(hf:∀s∈ss,s.flat)(hn:ss.length<=N.length):EnvR K H B H (start N us) (KD N ss):=by
 have hlen:=r.len
 have get:∀(i:Nat) (s:S),(KD N ss)[i]?=some (some s)->ss[i]?=some s:=fun i s h=>by
  unfold KD at h;by_cases hi:i<ss.length
  ·rw[YM (by rw[Yi];exact hi),Yw,Yj hi]at h;rw[Yj hi];exact YQ some (Yv (Yv h))
  ·rw[YO (by rw[Yi];omega),WB]at h;split at h<;>cases h
 have noown:∀(i:Nat) (es:O),(KD N ss)[i]?≠some (some (.own es)):=fun i es h=>hf _ (Y8 (get i _ h))
 have hz:∀b,zof B (KD N ss) (start N us) b->B b:=fun b z=>by
  rcases z with z|⟨i,es,a',h1,h2,h3⟩
  ·exact z
  ·exact absurd h1 (noown i es)
 refine⟨Same.refl _,?_,hB,fun i j x x' es es' b h1 _ _ _ _ _=>absurd h1 (noown i es),fun i s h=>?_⟩
 ·unfold L2.start KD;simp[hlen]
 ·have hs:=get i s h;obtain⟨v,hv,tv⟩:=r.get hs;refine⟨v,?_,?_⟩
  ·unfold L2.start;rw[YM (by rw[Yi];exact(Y2.mp hv).1),Yw,hv];rfl
  ·have:=hf s (Y8 hs)
   cases s with
   |bor d=>exact tv
   |sh d=>exact Rp.mono (JV (Same.refl _) fun b _ _ z y=>z (hz b y)) tv
   |own _=>exact this.elim
   |view _=>exact this.elim
   |tmp _=>exact this.elim
def Zeu{c:Pq}{N:List Str}{t:TS}{p:PTS}{vs:List V}{Q:VK}{Ec:XK}{n:Nat}(h:spS mg c K vs H Q Ec)(snd:SndS K mg (fun _=>Ec) t p)(hn:n<=N.length)(hp:∀ss R X,c ss R X->ss.length=n/\p {nx:=fun _=>R (.sh .non),rt:=R,ex:=fun _ e=>X e} (KD N ss)):t {nx:=fun _ H'=>Q .non H',rt:=Q} (start N vs) H:=by
 obtain⟨ss,B,R,X,hB,r,hf,hc,hQ,hX⟩:=h;obtain⟨e,hp⟩:=hp ss R X hc;exact snd H B H _ _ _ _ (fun b z=>Kv (hB b z)) (OD hB r hf (by rw[e];exact hn)) hp ⟨fun σ' γ' H' h1 e1 f1=>hQ _ _ H' h1 e1.same .non,fun s v H' h1 S1 tv=>hQ s v H' h1 S1 tv,fun σ' γ' c H' h1 e1 f1=>hX c H' h1 e1.same,fun _ _ _ z=>z.elim,fun _ _ _ z=>z.elim,fun _ _ _ _ _ z=>z.elim⟩
def Zb8{c:Pq}{vs:List V}{Q:VK}{Ec:XK}{n:Nat}(h:spS mg c K vs H Q Ec)(hn:∀ss R X,c ss R X->ss.length=n):vs.length=n:=by
 obtain⟨ss,B,R,X,_,r,_,hc,_⟩:=h;rw[r.len];exact hn ss R X hc
def TV.backS {s:S}{v:V} (env:EnvR K H0 B H1 σ γ) (S1:Same H H1) (S2:Same H1 H') (h:TV K (zof B γ σ) H1 H1 H' s v):TV K (zof B γ σ) H0 H H' s.back v:=by
 cases s with
 |bor d=>exact XX (fun b z=>XT S2 (env.zm b z)) (Rp.mono S2 h)
 |sh d=>exact h
 |own ds=>
  obtain⟨a,rfl,e0,r⟩:=h;exact⟨a,rfl,(fun b hb=>S1.free (e0 b hb)),r⟩
 |view ds=>
  obtain⟨a,rfl,r⟩:=h;exact r.rp off_sub
 |tmp d=>exact h
def TV.passS {s s':S}{v:V} (env:EnvR K H0 B H1 σ γ) (hm:∀b,zof B γ σ b->Mut (H b)) (S1:Same H H1) (h:TV K (zof B γ σ) H0 H H1 s v) (e:s.pass=some s'):TV K (zof B γ σ) H1 H1 H1 s' v:=by
 have shd:∀d,s.shd=some d->Rp K (off (zof B γ σ) H1) d v:=fun d ed=>h.shd env.same hm S1 ed;cases s with
 |sh d=>cases e;exact shd _ rfl
 |own o=>cases e;exact shd _ rfl
 |view o=>cases e
 |tmp d=>
  unfold S.pass at e;cases q:imm d with
  |false=>simp[q]at e
  |true=>simp[q]at e;subst e;exact shd d (by unfold S.shd;simp[q])
 |bor d=>
  unfold S.pass at e;cases q:imm d with
  |false=>simp[q]at e;subst e;exact Rp.mono env.same h
  |true=>simp[q]at e;subst e;exact shd d (by unfold S.shd;simp[q])
def TVs.passS (env:EnvR K H0 B H1 σ γ) (hm:∀b,zof B γ σ b->Mut (H b)) (S1:Same H H1):∀{ss ss':List S}{vs:List V},TVs K (zof B γ σ) H0 H H1 ss vs->passes ss=some ss'->TVs K (zof B γ σ) H1 H1 H1 ss' vs
 |_,_,_,.nil,e=>by cases e;exact .nil
 |_,_,_,.cons h r,e=>by
  unfold passes at e;split at e
  ·rename_i s1 r1 e1 e2;cases e
   exact .cons (h.passS env hm S1 e1) (TVs.passS env hm S1 r e2)
  ·cases e
def Il(c:Pq)(r:PTA):PTE:=fun γ R X=>r γ (fun ss=>match passes ss with|some ss'=>c ss' (fun s=>R s.back) (fun _=>False)|none=>False) X
def BW{c:Pq}{ta:TA}{r:PTA}(hr:SndA K mg E ta r):SndE K mg E (KA (spS mg c K) [] E0 ta) (Il c r):=by
 intro H0 B H σ γ R X Q env p q qx;refine hr H0 B H σ γ _ X _ env p (fun ss vs H1 h1 S1 t1=>?_) qx;rw[YW];have env1:=env.grow S1;split at h1
 ·rename_i ss' ep;exact⟨ss',zof B γ σ,_,_,env1.zm,t1.passS env1 env.zm S1 ep,Ni ep,h1,fun s v H' hs S2 tv=>q _ _ H' hs (S1.trans S2) (tv.backS env1 S1 S2),fun _ _ z=>z.elim⟩
 ·exact h1.elim
def pSlN(a:PTE)(l u:PTO):PTE:=fun γ R X=>a γ (fun s=>l γ (fun lo=>u γ (fun hi=>match s.d with | .scr ns=>R (.own ((cutD ns lo hi).map D.int))|_=>False) X) X) X
def Zbo(ns:List Int)(lo hi:Option Int):cutV (ns.map V.int) lo hi=(cutD ns lo hi).map V.int:=by
 unfold cutV cutD;rw[Yi,List.map_take,List.map_drop]
def Rv{te:TE}{tl th:TO}{a:PTE}{l u:PTO}(ha:SndE K mg E te a)(hl:SndO K mg E tl l)(hu:SndO K mg E th u):SndE K mg E (tSl (rSlL K) te tl th) (pSlN a l u):=by
 intro H0 B H σ γ R X Q env p q qx;refine ha H0 B H σ γ _ X _ env p (fun x v H1 h1 S1 t1=>?_) qx;refine hl H0 B H1 σ γ _ X _ (env.grow S1) h1 (fun lo H2 h2 S2=>?_) fun c H' hc S'=>qx c H' hc (S1.trans S');refine hu H0 B H2 σ γ _ X _ ((env.grow S1).grow S2) h2 (fun hi H3 h3 S3=>?_) fun c H' hc S'=>qx c H' hc ((S1.trans S2).trans S');have S13:=(S1.trans S2).trans S3;split at h3
 ·rename_i ns e;have rx:=(t1.grow (S2.trans S3)).rp (env.grow S13).same;rw[e]at rx;obtain⟨b,rfl,hb⟩:=rx.scr_inv;refine⟨b,_,rfl,hb,fun m nm=>?_⟩;rw[Zbo];exact q _ _ _ h3 (S13.trans (U0 nm)) (KW S13 nm (Rps.of_ints _))
 ·exact h3.elim
end
open M
inductive Dd where
 |sell (p h:Int)|part (p w:Int)|unite (p:Int)|wish (a b:Int)|drop (a b:Int)
def Dd.q:Dd->Str×List Int
 | .sell p h=>("sell",[p,h]) | .part p w=>("part",[p,w]) | .unite p=>("unite",[p]) | .wish a b=>("wish",[a,b]) | .drop a b=>("drop",[a,b])
def Dd.land:Dd->Bool
 | .sell _ _=>true | .part _ _=>true | .unite _=>true|_=>false
def Dd.err (f w:List (Int×Int)):Dd->Option Str
 | .sell p h=>Xp f p h | .part p v=>UB f p v | .unite p=>uniE f p | .wish a b=>U4 w a b | .drop a b=>UE w a b
def Dd.fld (f:List (Int×Int)):Dd->List (Int×Int)
 | .sell p h=>Kk f p h | .part p v=>X9 f p v | .unite p=>uniL f p|_=>f
def Dd.wsh (w:List (Int×Int)):Dd->List (Int×Int)
 | .wish a b=>w++[(a,b)] | .drop a b=>PL w a b|_=>w
def codeN:Option Str->Int
 |none=>0
 |some c=>if c=("NoStrip" : Str)then 1 else if c=("BadHolder" : Str)then 2 else if c=("OwnStrip" : Str)then 3 else if c=("BadPart" : Str)then 4 else if c=("TooManyStrips" : Str)then 5 else if c=("UnlikeHolders" : Str)then 6 else if c=("TooWide" : Str)then 7 else if c=("LikeHolders" : Str)then 8 else if c=("WishStands" : Str)then 9 else if c=("TooManyWishes" : Str)then 10 else 11
def Sb:codeN (some "NoStrip")=1:=by decide +kernel
def NC:codeN (some "BadHolder")=2:=by decide +kernel
def AE:codeN (some "OwnStrip")=3:=by decide +kernel
def Bh:codeN (some "BadPart")=4:=by decide +kernel
def Gg:codeN (some "TooManyStrips")=5:=by decide +kernel
def DE:codeN (some "UnlikeHolders")=6:=by decide +kernel
def E9:codeN (some "TooWide")=7:=by decide +kernel
def GK:codeN (some "LikeHolders")=8:=by decide +kernel
def Gf:codeN (some "WishStands")=9:=by decide +kernel
def G6:codeN (some "TooManyWishes")=10:=by decide +kernel
def Gv:codeN (some "NoWish")=11:=by decide +kernel
def Dd.fld' (f:List (Int×Int)) (x:Dd):List (Int×Int):=if x.err f []=none then x.fld f else f
def Dd.wsh' (w:List (Int×Int)) (x:Dd):List (Int×Int):=if x.err [] w=none then x.wsh w else w
def Dd.nf (f w:List (Int×Int)) (x:Dd):List (Int×Int):=if x.err f w=none then x.fld f else f
def Dd.nw (f w:List (Int×Int)) (x:Dd):List (Int×Int):=if x.err f w=none then x.wsh w else w
def Dd.err_land {x:Dd} (h:x.land=true) (f w u:List (Int×Int)):x.err f w=x.err f u:=by
 cases x<;>first|rfl|cases h
def Dd.err_wish {x:Dd} (h:x.land=false) (f g w:List (Int×Int)):x.err f w=x.err g w:=by
 cases x<;>first|rfl|cases h
def Dd.err_cases (f w : List (Int × Int)) (x : Dd) : x.err f w = none ∨ x.err f w = some ("NoStrip" : Str) ∨ x.err f w = some ("BadHolder" : Str) ∨ x.err f w = some ("OwnStrip" : Str) ∨ x.err f w = some ("BadPart" : Str) ∨ x.err f w = some ("TooManyStrips" : Str) ∨ x.err f w = some ("UnlikeHolders" : Str) ∨ x.err f w = some ("TooWide" : Str) ∨ x.err f w = some ("LikeHolders" : Str) ∨ x.err f w = some ("WishStands" : Str) ∨ x.err f w = some ("TooManyWishes" : Str) ∨ x.err f w = some ("NoWish" : Str) := by
  cases x with
  | sell p h => show Xp f p h = _ ∨ Xp f p h = _ ∨ Xp f p h = _ ∨ Xp f p h = _ ∨ _; unfold Xp; repeat' split
                all_goals simp
  | part p h => show UB f p h = _ ∨ UB f p h = _ ∨ UB f p h = _ ∨ UB f p h = _ ∨ UB f p h = _ ∨ UB f p h = _ ∨ _; unfold UB; repeat' split
                all_goals simp
  | unite p => show uniE f p = _ ∨ uniE f p = _ ∨ uniE f p = _ ∨ uniE f p = _ ∨ uniE f p = _ ∨ uniE f p = _ ∨ uniE f p = _ ∨ uniE f p = _ ∨ _; unfold uniE; repeat' split
               all_goals simp
  | wish a b => show U4 w a b = _ ∨ U4 w a b = _ ∨ U4 w a b = _ ∨ U4 w a b = _ ∨ U4 w a b = _ ∨ U4 w a b = _ ∨ U4 w a b = _ ∨ U4 w a b = _ ∨ U4 w a b = _ ∨ U4 w a b = _ ∨ U4 w a b = _ ∨ _; unfold U4; repeat' split
                all_goals simp
  | drop a b => show UE w a b = _ ∨ UE w a b = _ ∨ UE w a b = _ ∨ UE w a b = _ ∨ UE w a b = _ ∨ UE w a b = _ ∨ UE w a b = _ ∨ UE w a b = _ ∨ UE w a b = _ ∨ UE w a b = _ ∨ UE w a b = _ ∨ UE w a b = _; unfold UE; repeat' split
                all_goals simp
abbrev Hist:=List (Dd×List (Int×Int)×List (Int×Int))
def bkH(hs:Hist):List (Str×List Int):=hs.map fun h=>h.1.q
def fsH(f0:List (Int×Int))(hs:Hist):List (List (Int×Int)):=f0::hs.map fun h=>h.2.1
def wsH(hs:Hist):List (List (Int×Int)):=[]::hs.map fun h=>h.2.2
def pstD(h:Dd×List (Int×Int)×List (Int×Int)):D:=.tup [plD h.2.1,plD h.2.2,dD h.1.q]
def pst0(f0:List (Int×Int)):D:=.tup [plD f0,.lst [],.tup []]
def U9(f0:List (Int×Int))(hs:Hist):List D:=pst0 f0::hs.map pstD
def curF(f0:List (Int×Int))(hs:Hist):List (Int×Int):=match hs.getLast? with|some h=>h.2.1|none=>f0
def curW(hs:Hist):List (Int×Int):=match hs.getLast? with|some h=>h.2.2|none=>[]
def Pf(f0:List (Int×Int))(hs:Hist):∃fs,fsH f0 hs=fs++[curF f0 hs]/\fs.length=hs.length:=by
 unfold fsH curF;rcases W6 hs with rfl|⟨h,x,rfl⟩
 ·exact⟨[],rfl,rfl⟩
 ·refine⟨f0::h.map fun h=>h.2.1,?_,by simp⟩;simp
def Pi(hs:Hist):∃ws,wsH hs=ws++[curW hs]/\ws.length=hs.length:=by
 unfold wsH curW;rcases W6 hs with rfl|⟨h,x,rfl⟩
 ·exact⟨[],rfl,rfl⟩
 ·refine⟨[]::h.map fun h=>h.2.2,?_,by simp⟩;simp
def Pt(f0:List (Int×Int))(hs:Hist):∃d,atI (U9 f0 hs) (-1)=some (.tup [plD (curF f0 hs),plD (curW hs),d]):=by
 have key:∀(l:List D) (x:D),l≠[]->l[l.length-1]?=some x->atI l (-1)=some x:=fun l x hn h=>by
  have hp:0<l.length:=Qf.mpr hn;unfold atI ixN;rw[Yo (by omega),Yn (by omega)];show l[_]?=_;rw[show((-1:Int)+(l.length:Int)).toNat=l.length-1 by omega];exact h
 unfold U9 curF curW;rcases W6 hs with rfl|⟨h,x,rfl⟩
 ·exact⟨.tup [],key _ _ (by simp) rfl⟩
 ·refine⟨dD x.1.q,key _ _ (by simp) ?_⟩;rw[Qq,List.getLast?_concat,Y6,Yi,Yt,Wi,Q7,Wd,Y5,YO (by rw[Yi];exact Yr _),Yi,Nat.sub_self];rfl
def BO(hs:Hist)(h:Dd×List (Int×Int)×List (Int×Int)):bkH (hs++[h])=bkH hs++[h.1.q]:=by unfold bkH;rw[Y5];rfl
def Nt(f0:List (Int×Int))(hs:Hist)(h:Dd×List (Int×Int)×List (Int×Int)):fsH f0 (hs++[h])=fsH f0 hs++[h.2.1]:=by unfold fsH;rw[Y5];rfl
def Sm(hs:Hist)(h:Dd×List (Int×Int)×List (Int×Int)):wsH (hs++[h])=wsH hs++[h.2.2]:=by unfold wsH;rw[Y5];rfl
def BH(f0:List (Int×Int))(hs:Hist)(h:Dd×List (Int×Int)×List (Int×Int)):U9 f0 (hs++[h])=U9 f0 hs++[pstD h]:=by unfold U9;rw[Y5];rfl
def Bu(hs:Hist):(bkH hs).length=hs.length:=Yi ..
def MQ(f0:List (Int×Int))(hs:Hist):(fsH f0 hs).length=hs.length+1:=by unfold fsH;rw[Y6,Yi]
def Ml(hs:Hist):(wsH hs).length=hs.length+1:=by unfold wsH;rw[Y6,Yi]
def Nv(f0:List (Int×Int))(hs:Hist):(U9 f0 hs).length=hs.length+1:=by unfold U9;rw[Y6,Yi]
end Pu
namespace Pu
@[irreducible] def mixP (c k:Int):Int:=((c % 2147483647+7919*k+1)*48271 % 2147483647+104729*k+11)*69621 % 2147483647
open L2 M Own PyProof.Rows PySem PySem.Spec
def Dd.fld_ok {f w:List (Int×Int)}{d:Dd} (hF:Field f) (hl:f.length<=40) (e:d.err f w=none):Field (d.fld f)/\(d.fld f).length<=40:=by
 cases d with
 |sell p h=>exact⟨Zb6 hF e,by rw[show(Dd.sell p h).fld f=Kk f p h from rfl,LW];exact hl⟩
 |part p v=>
  have e:UB f p v=none:=e;rcases MT f p v with⟨z,_⟩|⟨z,_⟩|⟨z,_⟩|⟨_,_,h1,h2,h3,h4,h5⟩
  ·rw[e]at z;cases z
  ·rw[e]at z;cases z
  ·rw[e]at z;cases z
  ·exact⟨Os hF h1 h2 h3 h4,by rw[show(Dd.part p v).fld f=X9 f p v from rfl,HN h1 h2];omega⟩
 |unite p=>
  have e:uniE f p=none:=e;rcases MD f p with⟨z,_⟩|⟨z,_⟩|⟨z,_⟩|⟨_,_,h1,h2⟩
  ·rw[e]at z;cases z
  ·rw[e]at z;cases z
  ·rw[e]at z;cases z
  ·exact⟨HY hF e,by rw[show(Dd.unite p).fld f=uniL f p from rfl];have:=Zdh h1 h2;omega⟩
 |wish a b=>exact⟨hF,hl⟩
 |drop a b=>exact⟨hF,hl⟩
def Dd.wsh_ok {f w:List (Int×Int)}{d:Dd} (hW:Kf w) (e:d.err f w=none):Kf (d.wsh w):=by
 cases d with
 |wish a b=>exact Hc hW e
 |drop a b=>exact Oq hW
 |sell p h=>exact hW
 |part p v=>exact hW
 |unite p=>exact hW
def FineH(f0:List (Int×Int))(hs:Hist):Prop:=(∀g∈fsH f0 hs,Field g/\g.length<=40)/\∀g∈wsH hs,Kf g
def FineH.cur {f0:List (Int×Int)}{hs:Hist} (h:FineH f0 hs):(Field (curF f0 hs)/\(curF f0 hs).length<=40)/\Kf (curW hs):=by
 obtain⟨fs,ef,_⟩:=Pf f0 hs;obtain⟨ws,ew,_⟩:=Pi hs;exact⟨h.1 _ (by rw[ef];simp),h.2 _ (by rw[ew];simp)⟩
def FineH.nil {f0:List (Int×Int)} (hF:Field f0) (hl:f0.length<=40):FineH f0 []:=
 ⟨fun g hg=>by rw[show fsH f0 []=[f0]from rfl,Ym]at hg;subst hg;exact⟨hF,hl⟩,fun g hg=>by rw[show wsH []=[[]]from rfl,Ym]at hg;subst hg;exact Ln⟩
def FineH.snoc {f0:List (Int×Int)}{hs:Hist}{x:Dd×List (Int×Int)×List (Int×Int)} (h:FineH f0 hs) (h1:Field x.2.1/\x.2.1.length<=40) (h2:Kf x.2.2):FineH f0 (hs++[x]):=
 ⟨fun g hg=>by rw[Nt]at hg;rcases Y4.mp hg with hg|hg;{exact h.1 g hg};{rw[Ym]at hg;subst hg;exact h1},fun g hg=>by rw[Sm]at hg;rcases Y4.mp hg with hg|hg;{exact h.2 g hg};{rw[Ym]at hg;subst hg;exact h2}⟩
def FineH.init {f0:List (Int×Int)}{hs:Hist}{x:Dd×List (Int×Int)×List (Int×Int)} (h:FineH f0 (hs++[x])):FineH f0 hs:=
 ⟨fun g hg=>h.1 g (by rw[Nt];exact Wo _ hg),fun g hg=>h.2 g (by rw[Sm];exact Wo _ hg)⟩
def FineH.back {f0:List (Int×Int)}{hs:Hist} (h:FineH f0 hs):FineH f0 hs.dropLast:=by
 rcases W6 hs with rfl|⟨l,x,rfl⟩
 ·exact h
 ·rw[Qq]at h ⊢;rw[W9];exact h.init
def addH(f0:List (Int×Int))(hs:Hist)(d:Dd):Hist:=if d.err (curF f0 hs) (curW hs)=none then hs++[(d,d.fld (curF f0 hs),d.wsh (curW hs))]else hs
def SY(f0:List (Int×Int))(hs:Hist)(d:Dd):(addH f0 hs d).length<=hs.length+1:=by
 unfold addH;split
 ·rw[Yt,Wi];exact Yr _
 ·omega
def FineH.add {f0:List (Int×Int)}{hs:Hist} (h:FineH f0 hs) (d:Dd):FineH f0 (addH f0 hs d):=by
 unfold addH;split
 ·rename_i e;obtain⟨⟨h1,h2⟩,h3⟩:=h.cur;exact h.snoc (Dd.fld_ok h1 h2 e) (Dd.wsh_ok h3 e)
 ·exact h
def Dd.code_pos {f w:List (Int×Int)}{x:Dd} (h:¬x.err f w=none):0<codeN (x.err f w):=by
 rcases x.err_cases f w with e|e|e|e|e|e|e|e|e|e|e|e<;>rw[e]at h ⊢
 ·exact absurd rfl h
 ·rw[Sb];decide
 ·rw[NC];decide
 ·rw[AE];decide
 ·rw[Bh];decide
 ·rw[Gg];decide
 ·rw[DE];decide
 ·rw[E9];decide
 ·rw[GK];decide
 ·rw[Gf];decide
 ·rw[G6];decide
 ·rw[Gv];decide
def Dd.not_back (d:Dd):¬d.q.1=("back" : Str):=by
 cases d with
 |sell p h=>exact(by decide +kernel:¬("sell" : Str) = "back")
 |part p h=>exact(by decide +kernel:¬("part" : Str) = "back")
 |unite p=>exact(by decide +kernel:¬("unite" : Str) = "back")
 |wish p h=>exact(by decide +kernel:¬("wish" : Str) = "back")
 |drop p h=>exact(by decide +kernel:¬("drop" : Str) = "back")
def Zam{m:List Int}(hM:Menu m){v:Int}(h:1<=v/\v<=10):Menu (m.set 0 v):=by
 obtain⟨a,b,c,d,e,rfl,ha,hb,hc,hd,he⟩:=hM;exact⟨v,b,c,d,e,rfl,h,hb,hc,hd,he⟩
end Pu
namespace Own
open PySem PySem.Spec PyProof.Rows L2
section
variable {prog:Program}{w:World}{A:Around}{E:Value->Shared->Prop}{s:Shared}{l:Addr}{xs:Array (Int×Tok)}
def R5{Q:Value->Shared->Prop}(hh:A.handled=none)(hl:s.heap.IsTuple l (intItems xs))(hne:0<xs.size)(h:∀v h' tk,(intItems xs)[argBest (fun i j=>decide (numAt xs i<numAt xs j)) (xs.size-1)]?=some v->(∀b o,s.heap.get? b=some o->h'.get? b=some o)->Q v {s with heap:=h',toks:=tk}) :
  wpAny (model prog w) A (call (.builtin "min") [.ref l]) Q E s:=by
 have hlt:l<s.heap.objs.size:=by obtain⟨_,e,_⟩:=hl;exact Yu e
 refine call_min_walk (wpAny_pyIter_tuple hl ?_);refine⟨_,[_,l],[_],_,_,_,_,rfl,Walks.tuple (A:=A.in1) hh _ l (YA hlt) (intItems xs),⟨⟨_,Y3 _ rfl,rfl,rfl⟩,hl.push _⟩,fun c hc=>?_,by simpa [intItems]using hne,CmpOf.ints_lt (numAt xs) (fun _ _=>intItems_at),fun v h' tk hP hk=>?_⟩
 ·show c<(s.heap.push _).objs.size;rw[WE];rcases Yx.mp hc with rfl|hc
  ·exact Qb _
  ·rcases Yx.mp hc with rfl|hc
   ·exact WT hlt
   ·cases hc
 ·refine h v h' tk (by simpa [intItems]using hP) fun b o e=>hk b o (fun hm=>?_) (Yq _ e);rcases Yx.mp hm with e1|hm
  ·exact absurd (e1▸Yu e) (Wq _)
  ·cases hm
def M8{Q:Value->Shared->Prop}(hh:A.handled=none)(hl:s.heap.IsTuple l (intItems xs))(hne:0<xs.size)(h:∀v h' tk,(intItems xs)[argBest (fun i j=>decide (numAt xs i>numAt xs j)) (xs.size-1)]?=some v->(∀b o,s.heap.get? b=some o->h'.get? b=some o)->Q v {s with heap:=h',toks:=tk}) :
  wpAny (model prog w) A (call (.builtin "max") [.ref l]) Q E s:=by
 have hlt:l<s.heap.objs.size:=by obtain⟨_,e,_⟩:=hl;exact Yu e
 refine call_max_walk (wpAny_pyIter_tuple hl ?_);refine⟨_,[_,l],[_],_,_,_,_,rfl,Walks.tuple (A:=A.in1) hh _ l (YA hlt) (intItems xs),⟨⟨_,Y3 _ rfl,rfl,rfl⟩,hl.push _⟩,fun c hc=>?_,by simpa [intItems]using hne,CmpOf.ints_gt (numAt xs) (fun _ _=>intItems_at),fun v h' tk hP hk=>?_⟩
 ·show c<(s.heap.push _).objs.size;rw[WE];rcases Yx.mp hc with rfl|hc
  ·exact Qb _
  ·rcases Yx.mp hc with rfl|hc
   ·exact WT hlt
   ·cases hc
 ·refine h v h' tk (by simpa [intItems]using hP) fun b o e=>hk b o (fun hm=>?_) (Yq _ e);rcases Yx.mp hm with e1|hm
  ·exact absurd (e1▸Yu e) (Wq _)
  ·cases hm
end
section
variable {X:Cx}{K:Za}
def Zc1(hc:X.calm=true)(hK:X.K=K:=by rfl):UJ X (.builtin "min") (fun xs H Q=>∃(p:Addr) (a b:Int),xs=[.ref p]/\SqT K H p [.int a,.int b]/\Q (.int (if b<a then b else a)) H):=by
 subst hK;intro pins s σ H xs us Q I rv h;obtain⟨p,a,b,rfl,hS,q⟩:=h;obtain⟨u,rfl,ru⟩:=rv.one;obtain rfl:u=Value.ref p:=ru;obtain⟨its,r,pl,_⟩:=I.tuple hS;cases r with
 |cons r1 r=>
  cases r with
  |cons r2 r=>
   cases r
   obtain⟨t1,rfl⟩:=r1;obtain⟨t2,rfl⟩:=r2;have hl:s.heap.IsTuple p (intItems #[(a,t1),(b,t2)]):=by have this:s.heap.IsTuple p _:=pl;simpa [intItems]using this
   refine R5 (I.ok.hd hc) hl (by simp) fun v h' tk hP hk=>?_;have hP':(intItems #[(a,t1),(b,t2)])[argBest (fun i j=>decide (numAt #[(a,t1),(b,t2)] i<numAt #[(a,t1),(b,t2)] j)) 1]?=some v:=hP;by_cases hba:b<a
   ·have e:argBest (fun i j=>decide (numAt #[(a,t1),(b,t2)] i<numAt #[(a,t1),(b,t2)] j)) 1=1:=by simp[argBest,numAt,hba]
    rw[e]at hP';obtain rfl:Value.int b t2=v:=by simpa [intItems]using hP'
    rw[Yn hba]at q;exact⟨.int b,H,I.kept (t':=tk) hk,⟨_,rfl⟩,q⟩
   ·have e:argBest (fun i j=>decide (numAt #[(a,t1),(b,t2)] i<numAt #[(a,t1),(b,t2)] j)) 1=0:=by simp[argBest,numAt,hba]
    rw[e]at hP';obtain rfl:Value.int a t1=v:=by simpa [intItems]using hP'
    rw[Yo hba]at q;exact⟨.int a,H,I.kept (t':=tk) hk,⟨_,rfl⟩,q⟩
def Zc9(hc:X.calm=true)(hK:X.K=K:=by rfl):UJ X (.builtin "max") (fun xs H Q=>∃(p:Addr) (a b:Int),xs=[.ref p]/\SqT K H p [.int a,.int b]/\Q (.int (if b>a then b else a)) H):=by
 subst hK;intro pins s σ H xs us Q I rv h;obtain⟨p,a,b,rfl,hS,q⟩:=h;obtain⟨u,rfl,ru⟩:=rv.one;obtain rfl:u=Value.ref p:=ru;obtain⟨its,r,pl,_⟩:=I.tuple hS;cases r with
 |cons r1 r=>
  cases r with
  |cons r2 r=>
   cases r
   obtain⟨t1,rfl⟩:=r1;obtain⟨t2,rfl⟩:=r2;have hl:s.heap.IsTuple p (intItems #[(a,t1),(b,t2)]):=by have this:s.heap.IsTuple p _:=pl;simpa [intItems]using this
   refine M8 (I.ok.hd hc) hl (by simp) fun v h' tk hP hk=>?_;have hP':(intItems #[(a,t1),(b,t2)])[argBest (fun i j=>decide (numAt #[(a,t1),(b,t2)] i>numAt #[(a,t1),(b,t2)] j)) 1]?=some v:=hP;by_cases hba:b>a
   ·have e:argBest (fun i j=>decide (numAt #[(a,t1),(b,t2)] i>numAt #[(a,t1),(b,t2)] j)) 1=1:=by simp[argBest,numAt,hba]
    rw[e]at hP';obtain rfl:Value.int b t2=v:=by simpa [intItems]using hP'
    rw[Yn hba]at q;exact⟨.int b,H,I.kept (t':=tk) hk,⟨_,rfl⟩,q⟩
   ·have e:argBest (fun i j=>decide (numAt #[(a,t1),(b,t2)] i>numAt #[(a,t1),(b,t2)] j)) 1=0:=by simp[argBest,numAt,hba]
    rw[e]at hP';obtain rfl:Value.int a t1=v:=by simpa [intItems]using hP'
    rw[Yo hba]at q;exact⟨.int a,H,I.kept (t':=tk) hk,⟨_,rfl⟩,q⟩
end
end Own
namespace Pu
open PySem PySem.Spec PyProof.Rows L2 Own
section
variable {K:Za}{mg:Str->Option Value}{E:L2.St->XK}
def Ek:List S->(S->Prop)->Prop
 |[s],R=>(match s.d with | .tup [.int a,.int b]=>R (.sh (.int (if b<a then b else a)))|_=>False)
 |_,_=>False
def A9:List S->(S->Prop)->Prop
 |[s],R=>(match s.d with | .tup [.int a,.int b]=>R (.sh (.int (if b>a then b else a)))|_=>False)
 |_,_=>False
def HL{ta:TA}{r:PTA}(hr:SndA K mg E ta r):SndE K mg E (tCB (fun xs H Q=>∃(p:Addr) (a b:Int),xs=[.ref p]/\SqT K H p [.int a,.int b]/\Q (.int (if b<a then b else a)) H) ta) (pCB Ek r):=by
 refine XI hr fun H0 H H1 Z ss vs R Q s0 s1 hm tv h q=>?_;unfold Ek at h;split at h
 ·rename_i s;obtain⟨v,rfl,t1⟩:=tv.one_inv;have rv:=t1.rp s0;split at h
  ·rename_i a b e;rw[e]at rv;obtain⟨p,us,rfl,hp,r1⟩:=Rp.tup_inv rv;obtain⟨x,y,rfl,q1,q2⟩:=r1.two_inv;rw[q1.int_inv,q2.int_inv]at hp;exact⟨p,a,b,rfl,SqT.of hp,q _ _ H1 h (Same.refl _) (.int _)⟩
  ·exact h.elim
 ·exact h.elim
def RM{ta:TA}{r:PTA}(hr:SndA K mg E ta r):SndE K mg E (tCB (fun xs H Q=>∃(p:Addr) (a b:Int),xs=[.ref p]/\SqT K H p [.int a,.int b]/\Q (.int (if b>a then b else a)) H) ta) (pCB A9 r):=by
 refine XI hr fun H0 H H1 Z ss vs R Q s0 s1 hm tv h q=>?_;unfold A9 at h;split at h
 ·rename_i s;obtain⟨v,rfl,t1⟩:=tv.one_inv;have rv:=t1.rp s0;split at h
  ·rename_i a b e;rw[e]at rv;obtain⟨p,us,rfl,hp,r1⟩:=Rp.tup_inv rv;obtain⟨x,y,rfl,q1,q2⟩:=r1.two_inv;rw[q1.int_inv,q2.int_inv]at hp;exact⟨p,a,b,rfl,SqT.of hp,q _ _ H1 h (Same.refl _) (.int _)⟩
  ·exact h.elim
 ·exact h.elim
end
section
variable {X:Cx}{k j:Nat}{x:Str}{ps:List Str}{sp:Sp}{e a b c:Expr}{es:List Expr}{t:TA}{te tf tg:TE}{p pos:Pos}
def fz(C:Callee X.prog X.w X.K X.mg X.base CX0 k x ps sp)(hr:Room j X.A)(ha:PA X (e::es) t)(hk:k<=j:=by decide)(hg:Gl X x:=by rfl)(hdb:(x==("__debug__" : Str))=false:=by decide)(he:starEach (e::es) X.env=(false,eval e X.env)::starEach es X.env:=by rfl)(hpl:(backTo pos (starEach es X.env)).any (·.1)=false:=by rfl) :
  PE X (.Call (.Name x p) (e::es) [] pos) (KA sp [] E0 t):=UK C (hr.mono hk) U7 ha hg hdb he hpl
def jx(K:Za)(ha:PE X a te)(hb:PE X b tf)(hK:X.K=K:=by rfl)(hs:AF b:=by intro _ _;rfl):PE X (.Subscript a b pos) (tOp (fun x y H Q=>rIxL K x y H Q\/rIxT K x y H Q) te tf):=Gb (CK hK) ha hb hs
def gz(i:Nat)(hN:X.N.Nodup)(hi:X.N[i]?=some x:=by rfl)(hx:Loc X.env.scope x:=by first|exact Or.inl rfl|exact Or.inr rfl)(hf:X.fn x=true\/X.env.scope.names.lookup x=some .local:=by first|exact .inl rfl|exact .inr rfl|assumption):PG X (.Name x pos) (P8 i):=B0 hN hi hx hf
def ln(K:Za)(hm:X.mg "len"=none)(ha:PE X a te)(hK:X.K=K:=by rfl)(hg:Gl X "len":=by rfl)(hs:starEach [a] X.env=(false,eval a X.env)::starEach [] X.env:=by rfl)(hpl:(backTo pos (starEach [] X.env)).any (·.1)=false:=by rfl) :
  PE X (.Call (.Name "len" p) [a] [] pos) (tCB (fun xs H Q=>∃x n,xs=[x]/\LenV K x H n/\Q (.int (n:Nat)) H) (UH te tNil)):=UI (R7 hK) hg hm PySem.boot_len (JQ ha Uh hs) (by decide) (by decide) hs hpl
def cq(K:Za)(hr:Room j X.A)(ha:PE X a te)(hb:PE X b tf)(hK:X.K=K:=by rfl):PT X (.Compare a [.Eq] [b] pos) (Sg (tOp (fun x y H Q=>rEq x y H Q\/rEqL K false x y H Q) te tf)):=JT (TL hr.units0 hK) ha hb (Ua _)
def cn(K:Za)(hr:Room j X.A)(ha:PE X a te)(hb:PE X b tf)(hK:X.K=K:=by rfl):PT X (.Compare a [.NotEq] [b] pos) (Sg (tOp (fun x y H Q=>rNe x y H Q\/rEqL K true x y H Q) te tf)):=JT (M2 hr.units0 hK) ha hb (Ua _)
def az(ha:PE X a te)(h1:starEach [a] X.env=(false,eval a X.env)::starEach [] X.env:=by rfl):PA X [a] (UH te tNil):=JQ ha Uh h1
def bz(ha:PE X a te)(hb:PE X b tf)(h1:starEach [a,b] X.env=(false,eval a X.env)::starEach [b] X.env:=by rfl)(h2:starEach [b] X.env=(false,eval b X.env)::starEach [] X.env:=by rfl):PA X [a,b] (UH te (UH tf tNil)):=JQ ha (JQ hb Uh h2) h1
def dz(ha:PE X a te)(hb:PE X b tf)(hc:PE X c tg)(h1:starEach [a,b,c] X.env=(false,eval a X.env)::starEach [b,c] X.env:=by rfl)(h2:starEach [b,c] X.env=(false,eval b X.env)::starEach [c] X.env:=by rfl)(h3:starEach [c] X.env=(false,eval c X.env)::starEach [] X.env:=by rfl):PA X [a,b,c] (UH te (UH tf (UH tg tNil))):=JQ ha (JQ hb (JQ hc Uh h3) h2) h1
end
section
variable {K:Za}{mg:Str->Option Value}{E:L2.St->XK}{ta tb tc:TE}{a b c:PTE}
def sz(ha:SndE K mg E ta a):SndA K mg E (UH ta tNil) (KO a pNil):=JY ha JW
def tz(ha:SndE K mg E ta a)(hb:SndE K mg E tb b):SndA K mg E (UH ta (UH tb tNil)) (KO a (KO b pNil)):=JY ha (sz hb)
def uz(ha:SndE K mg E ta a)(hb:SndE K mg E tb b)(hc:SndE K mg E tc c):SndA K mg E (UH ta (UH tb (UH tc tNil))) (KO a (KO b (KO c pNil))):=JY ha (tz hb hc)
end
section
variable {K:Za}{h:Heap}{mg:Str->Option Value}{C C':Addr}{x m q:Str}{st:Stmt}{ps:List Str}
abbrev Bd(x q:Str)(st:Stmt)(ps:List Str):Prop:=∀(kV doc pm:Value) (an:Option Addr) (cdv ct:Value) (us:List Value),us.length=ps.length->bindArgs (PySem.W.fnOf x q (X3 st) (UA st) (JE st) .none kV doc pm an cdv ct) ⟨us,[]⟩=pure (ps.zip us)
def DI.e (D:DI K x st) (X:K.In h) (G0:h.Ns mainGlobals mg) (b:Bd x x st ps:=by
  intro _ _ _ _ _ _ us hl
  first
   |(obtain⟨_,rfl⟩:=Pu.len1 hl;rfl)
   |(obtain⟨_,_,rfl⟩:=Pu.len2 hl;rfl)
   |(obtain⟨_,_,_,rfl⟩:=Pu.len3 hl;rfl)
   |(obtain⟨_,_,_,_,rfl⟩:=Pu.len4 hl;rfl)
   |(obtain⟨_,_,_,_,_,rfl⟩:=Pu.len5 hl;rfl)):Def K mg x st ps:=D.d X G0 b
def MI.e (D:MI K C m q st) (e:C'=C) (b:Bd m q st ps:=by
  intro _ _ _ _ _ _ us hl
  first
   |(obtain⟨_,rfl⟩:=Pu.len1 hl;rfl)
   |(obtain⟨_,_,rfl⟩:=Pu.len2 hl;rfl)
   |(obtain⟨_,_,_,rfl⟩:=Pu.len3 hl;rfl)
   |(obtain⟨_,_,_,_,rfl⟩:=Pu.len4 hl;rfl)):DefM K (Meth K C' m) m q st ps:=D.d e b
def MI.j (D:MI K C "__init__" q st) (e:C'=C) (mk:PySem.W.makesIn K C=true) (kc:PySem.W.keepIn K (.ref C)=true) (b:Bd "__init__" q st ps:=by
  intro _ _ _ _ _ _ us hl
  first
   |(obtain⟨_,rfl⟩:=Pu.len1 hl;rfl)
   |(obtain⟨_,_,rfl⟩:=Pu.len2 hl;rfl)
   |(obtain⟨_,_,_,rfl⟩:=Pu.len3 hl;rfl)):DefM K (Mk K C') "__init__" q st ps:=D.i e mk kc b
end
section
variable {P:Program}{w:World}{K:Za}{mg:Str->Option Value}{base:Heap}{N ps:List Str}{sp:Sp}{p:PTS}{x q:Str}{st:Stmt}{k:Nat}{W:Addr->Prop}
structure Uz (K:Za) (mg:Str->Option Value) (N ps:List Str) (sp:Sp) (p:PTS):Prop where
 len:∀vs H Q E,sp vs H Q E->vs.length=ps.length
 run:∀vs H Q E t,sp vs H Q E->SndS K mg (fun _=>E) t p->t {nx:=fun _ H'=>Q .non H',rt:=Q} (start N vs) H
def Uz.a {c:Pc} (hp:∀ds R X,c ds R X->ds.length=ps.length/\p {nx:=fun _=>R (.sh .non),rt:=R,ex:=fun _ e=>X e} (Kj N ds)) (hn:ps.length<=N.length:=by decide):Uz K mg N ps (spOf mg c K) p:=
 ⟨fun _ _ _ _ h=>O6 h fun ds R X z=>(hp ds R X z).1,fun _ _ _ _ _ h s=>HS h s hn hp⟩
def Uz.b {c:Pq} (hp:∀ss R X,c ss R X->ss.length=ps.length/\p {nx:=fun _=>R (.sh .non),rt:=R,ex:=fun _ e=>X e} (KD N ss)) (hn:ps.length<=N.length:=by decide):Uz K mg N ps (spS mg c K) p:=
 ⟨fun _ _ _ _ h=>Zb8 h fun ds R X z=>(hp ds R X z).1,fun _ _ _ _ _ h s=>Zeu h s hn hp⟩
def Uz.c {c:Pw}{y:Str} (hp:∀o ss R X,c o ss R X->ss.length=ps.length/\p (Aw o R X) (K0 N o ss)) (hn:ps.length+1<=N.length:=by decide):Uz K mg N (y::ps) (spW mg c K) p:=
 ⟨fun _ _ _ _ h=>Ih h fun o ds R X z=>(hp o ds R X z).1,fun _ _ _ _ _ h s=>Lg h s hn hp⟩
def Uz.d {c:Pw2}{y z:Str} (hp:∀o1 o2 ss R X,c o1 o2 ss R X->ss.length=ps.length/\p (EJ o1 o2 R X) (XZ N o1 o2 ss)) (hn:ps.length+2<=N.length:=by decide):Uz K mg N (y::z::ps) (spW2 mg c K) p:=
 ⟨fun _ _ _ _ h=>LI h fun o1 o2 ds R X z=>(hp o1 o2 ds R X z).1,fun _ _ _ _ _ h s=>LN h s hn hp⟩
def _root_.Own.Def.oz (D:Def K mg x st ps) (S:FnScope N ps (JE st))
  (tr:∀(f:Addr) (cdv:Value) (A:Around) (outer:List Env) (s:Shared) (H:Hp) (E:XK),Room k (A.deeper (envOfC x (JE st) s.heap.objs.size f cdv))->
   ∃t,PSs (cxOf CX0 P w K mg base N x (JE st) f cdv A outer s H E).nox (UA st) t/\SndS K mg (fun _=>E) t p) (u:Uz K mg N ps sp p):Callee P w K mg base CX0 (k+1) x ps sp:=
 D.ok S u.len fun f cdv A outer s H vs Q E hr h=>(tr f cdv A outer s H E hr).elim fun t z=>⟨t,z.1,u.run _ _ _ _ _ h z.2⟩
def _root_.Own.Def.ox (D:Def K mg x st ps) (S:FnScope N ps (JE st))
  (tr:∀(f:Addr) (cdv:Value) (A:Around) (outer:List Env) (s:Shared) (H:Hp) (E:XK),Room k (A.deeper (envOfC x (JE st) s.heap.objs.size f cdv))->
   ∃t,PSs (cxOf (ExcR.CXe P w) P w K mg base N x (JE st) f cdv A outer s H E) (UA st) t/\SndS K mg (fun _=>E) t p) (u:Uz K mg N ps sp p):Callee P w K mg base (ExcR.CXe P w) (k+1) x ps sp:=
 ExcR.Def.okX D S u.len fun f cdv A outer s H vs Q E hr h=>(tr f cdv A outer s H E hr).elim fun t z=>⟨t,z.1,u.run _ _ _ _ _ h z.2⟩
def DefM.oz (D:DefM K W x q st ps) (S:FnScope N ps (JE st))
  (tr:∀(f:Addr) (cdv:Value) (A:Around) (outer:List Env) (s:Shared) (H:Hp) (E:XK),Room k (A.deeper (envOfC q (JE st) s.heap.objs.size f cdv))->
   ∃t,PSs (cxOf CX0 P w K mg base N q (JE st) f cdv A outer s H E).nox (UA st) t/\SndS K mg (fun _=>E) t p) (u:Uz K mg N ps sp p):CalleeM P w K mg base CX0 (k+1) W ps sp:=
 D.ok S u.len fun f cdv A outer s H vs Q E hr h=>(tr f cdv A outer s H E hr).elim fun t z=>⟨t,z.1,u.run _ _ _ _ _ h z.2⟩
def DefM.ox (D:DefM K W x q st ps) (S:FnScope N ps (JE st))
  (tr:∀(f:Addr) (cdv:Value) (A:Around) (outer:List Env) (s:Shared) (H:Hp) (E:XK),Room k (A.deeper (envOfC q (JE st) s.heap.objs.size f cdv))->
   ∃t,PSs (cxOf (ExcR.CXe P w) P w K mg base N q (JE st) f cdv A outer s H E) (UA st) t/\SndS K mg (fun _=>E) t p) (u:Uz K mg N ps sp p):CalleeM P w K mg base (ExcR.CXe P w) (k+1) W ps sp:=
 D.okX S u.len fun f cdv A outer s H vs Q E hr h=>(tr f cdv A outer s H E hr).elim fun t z=>⟨t,z.1,u.run _ _ _ _ _ h z.2⟩
end
section
variable {K:Za}{h:Heap}{mg:Str->Option Value}{x:Str}{C:Addr}
structure EI (K:Za) (x:Str) (C:Addr):Prop where
 a:PySem.W.nsIn K mainGlobals x=some (some (.ref C))
 g:ExcR.ErrGet K C
def ei{d:ClassData}(a:PySem.W.nsIn K mainGlobals x=some (some (.ref C)))(q:PySem.W.excIn K C [.type "ValueError",.type "Exception",.type "BaseException",.type "object"] "ValueError.__new__"=true)(ga:PySem.W.findIn K (.ref C) "__getattribute__"=some (some (.builtin "BaseException.__getattribute__")))(gt:PySem.W.findIn K (.ref C) "__getattr__"=some none)(cl:PySem.W.findIn K (.ref C) "__class__"=some (some (.builtin "object.__class__")))(i:PySem.W.clsIn K C=some d):EI K x C:=⟨a,⟨⟨q⟩,ga,gt,cl,by rw[i];rfl⟩⟩
def EI.c (y:EI K x C) (X:K.In h) (G0:h.Ns mainGlobals mg):ExcR.JD mg x=C:=ExcR.FX (Wf X G0 y.a)
def EI.m (y:EI K x C) (X:K.In h) (G0:h.Ns mainGlobals mg):mg x=some (.ref (ExcR.JD mg x)):=by rw[y.c X G0];exact Wf X G0 y.a
def EI.k (y:EI K x C) (X:K.In h) (G0:h.Ns mainGlobals mg):ExcR.ErrGet K (ExcR.JD mg x):=by rw[y.c X G0];exact y.g
end
def NoFld.of {m:Str}:∀{xs:List Str},(xs.all fun x=>!(m==x))=true->NoFld m xs
 |[],_,_=>rfl
 |_::_,_,[]=>rfl
 |x::xs,h,v::vs=>by
  rw[QJ,Y9]at h;show(match m==x with|true=>some v|false=>(xs.zip vs).lookup m)=none
  rw[show(m==x)=false by simpa using h.1];exact NoFld.of h.2 vs
def FldAt.of {f:Str} (h0:(f==f)=true):∀{xs:List Str}{j:Nat},((xs.take j).all fun x=>!(f==x))=true->xs[j]?=some f->FldAt f xs j
 |[],_,_,e,_,_=>by simp at e
 |_::_,_,_,_,[],e=>by cases e
 |x::xs,0,_,e,v::vs,_=>by
  simp at e;subst e;show(match x==x with|true=>some v|false=>(xs.zip vs).lookup x)=some v
  rw[h0]
 |x::xs,j+1,h,e,v::vs,l=>by
  rw[List.take_succ_cons,QJ,Y9]at h;show(match f==x with|true=>some v|false=>(xs.zip vs).lookup f)=(v::vs)[j+1]?
  rw[show(f==x)=false by simpa using h.1];exact FldAt.of h0 (j:=j) h.2 (by simpa using e) vs (by simpa using l)
def PutAt.of {f:Str}:∀{xs:List Str},(xs.all fun x=>decide (x≠f))=true->PutAt f xs
 |[],_,[],_,_=>rfl
 |[],_,_::_,_,e=>by cases e
 |_::_,_,[],_,e=>by cases e
 |x::xs,h,v::vs,y,e=>by
  rw[QJ,Y9]at h;show(if x=f then(x,y)::xs.zip vs else(x,v)::putF f y (xs.zip vs))=(x,v)::(xs++[f]).zip (vs++[y]);rw[Yo (Yp h.1),PutAt.of h.2 vs y (by simpa using e)]
end Pu
namespace Lam
open PySem PySem.Spec PyProof.Rows L2 Own
section
variable {X:Cx}{pins:List (Addr×Obj)}{σ:L2.St}{H:Hp}{A:Around}{E:Value->Shared->Prop}{s:Shared}{kS D:Addr}{vs:List Value}{kz:List Int}{keys:Array Value}{e e1:Nat}
def Re{P:Program}{w:World}{H:Hp}{h:Heap}{a:Addr}{o:HO}(x:HOk P w H h)(hn:H a=none)(new:ObjOk P w (upd H a o) h a o):HOk P w (upd H a o) h:=fun b u e=>by
 by_cases hb:b=a
 ·subst hb;rw[Ug]at e;cases e;exact new
 ·rw[JI hb]at e;exact(x b u e).stay (fun c v _ q=>q) (fun c q=>by rw[JI (U8 q hn)];exact q) fun c xs q=>by rw[JI (U8 q hn)];exact q
variable {P:PySem.Fin->Shared->Prop}
end
end Lam
namespace ExcR
open PySem PySem.Spec PyProof.Rows L2
open Sem (wp)
section
variable {prog:Program}{w:World}{A:Around}{E:Value->Shared->Prop}{h:Heap}{g:Array GenState}{d:Drawn}{t:Nat}{os:OsState}
variable {nm q:Str}{C N:Addr}{bs bm bmB:List Value}{hdct:Bool}{sn:List Str}{sub:List Value}{ab:Bool}{col:Option Bool}{dd:Option Addr}{k0 k1 k2 k3 k5:Option Value}{B Bn newId nid initId inN:String}{bmN:List Value}
def XH(C t:Addr)(dx:Option Addr):Obj:={cls:=.ref C,dict:=dx,data:=.fields #[.ref t,.none,.none,.none,.bool false,.none]}
def Rq(Fn:ExcBaseFacts Bn newId inN bmN)(hBn:bmB.contains (.type Bn)=true)(F:ExcBaseFacts B nid initId bmB)(T:OwnTail h bmB bm){mN:Str->Option Value}{rest:List Value}{fI:Addr}{oI:Obj}{Q:PySem.Fin->Shared->Prop}(hC:h.get? C=some (excClassObj nm q C N bs bm hdct sn sub ab col dd k0 k1 k2 k3 k5 newId))(hn:h.Ns N mN)(hi:mN "__init__"=some (.ref fI))(hfI:h.get? fI=some oI)(hfc:oI.cls=.type "function")(hq:∀h' e,Heap.MadeExcOf h h' e (.ref C) rest->wpAny (model prog w) A (call (.ref fI) (.ref e::rest)) (fun r s'=>r=.none/\Q (.done (.ret (.ref e))) s') E ⟨h',g,d,t,os⟩)(hrest:rest.length<=sizeLine:=by size_fits) :
  wpAny (model prog w) A (Builtin.«type.__call__» ⟨.ref C::rest,[]⟩) Q E ⟨h,g,d,t,os⟩:=by
 repeat (first|with_reducible refine W3 hC ?_|with_reducible refine wpAny_madeBy_exc hC ?_|wp_step)
 refine codeAny_call_builtin_code (Code.quiet_builtin _ Fn.quiet) (wpAny_check_new_subU Fn hBn T hC ?_);refine codeAny_exc_new_subU Fn hBn F T hC ?_ hrest;show wpAny _ _ _ _ _ _
 have k:∀b o,h.get? b=some o->((h.push {cls:=.type "tuple",data:=.seq rest.toArray}).push {cls:=.ref C,data:=.fields #[.ref h.objs.size,.none,.none,.none,.bool false,.none]}).get? b=some o:=
  fun b o e=>Yq _ (Yq _ e)
 have hC₁:=k _ _ hC;have hfI₁:=k _ _ hfI;have hn₁:=hn.keeps k;have T₁:=T.keeps k
 have hget:((h.push {cls:=.type "tuple",data:=.seq rest.toArray}).push
   {cls:=.ref C,data:=.fields #[.ref h.objs.size,.none,.none,.none,.bool false,.none]}).get? (h.objs.size+1)=some
   {cls:=.ref C,data:=.fields #[.ref h.objs.size,.none,.none,.none,.bool false,.none]}:=by heap_get
 have hcC:(Value.ref C::bm).contains (.ref C)=true:=by simp
 unfold isInstance
 repeat (first|with_reducible refine W3 hget ?_|(with_reducible refine Ve hC₁ ?_;rw[hcC])|wp_step)
 show wpAny _ _ (typeLookup (.ref C) _) _ _ _;refine wpAny_typeLookup_tail hC₁ hn₁ T₁ F.mroIs F.init.lookup ?_;rw[hi];refine Wx (Yk ?_);unfold bindSpecial;refine Yk (wpAny_typeOf (T:="function") ⟨_,hfI₁,hfc⟩ ?_);rw[Yn (by decide)];refine Ys (Yk (YS (hq _ (h.objs.size+1) ⟨k,WU (WH _),h.objs.size,hget,WU (Yr _),?_⟩) (fun r s' hr=>?_) fun _ _ x=>x))
 ·exact Yq _ (Heap.get?_push_at rfl rfl)
 ·obtain⟨rfl,hQ⟩:=hr
  wp_walk
  exact hQ
def Zdx(Fn:ExcBaseFacts Bn newId inN bmN)(hBn:bmB.contains (.type Bn)=true)(F:ExcBaseFacts B nid initId bmB)(T:OwnTail h bmB bm){mN:Str->Option Value}{rest:List Value}{fI:Addr}{oI:Obj}{Q:Value->Shared->Prop}(hC:h.get? C=some (excClassObj nm q C N bs bm hdct sn sub ab col dd k0 k1 k2 k3 k5 newId))(hn:h.Ns N mN)(hi:mN "__init__"=some (.ref fI))(hfI:h.get? fI=some oI)(hfc:oI.cls=.type "function")(hq:∀h' e,Heap.MadeExcOf h h' e (.ref C) rest->wpAny (model prog w) (A.under (.builtin "type.__call__" ⟨.ref C::rest,[]⟩)) (call (.ref fI) (.ref e::rest)) (fun r s'=>r=.none/\Q (.ref e) s') E ⟨h',g,d,t,os⟩)(hrest:rest.length<=sizeLine:=by size_fits) :
  wpAny (model prog w) A (call (.ref C) rest) Q E ⟨h,g,d,t,os⟩:=by
 have f1:=tc_lookup;have f2:=tc_bind (.ref C);have hT:(⟨h,g,d,t,os⟩:Shared).TypeIs (.ref C) "type":=⟨_,hC,rfl⟩;refine QS (codeAny_of_tree ?_);show wpAny _ _ (callAny (.ref C) _) _ _ _
 repeat (any_goals (first|assumption|with_reducible refine W3 hC ?_|wp_step))
 refine⟨rfl,?_⟩;refine codeAny_call_builtin_at (Code.quiet_builtin _ (by decide +kernel)) entry_typeCall (wpAny_check_type_call_sub hC (Rq (hrest:=hrest) Fn hBn F T hC hn hi hfI hfc fun h' e hm=>?_));exact hq h' e hm
end
section
variable {prog:Program}{w:World}{A:Around}{E:Value->Shared->Prop}{s:Shared}{env:Env}
variable {nm q:Str}{C N:Addr}{bs bm bmB:List Value}{hdct:Bool}{sn:List Str}{sub:List Value}{ab:Bool}{col:Option Bool}{dd:Option Addr}{k0 k1 k2 k3 k5:Option Value}{B Bn newId nid initId inN:String}{bmN:List Value}
def Zb4{x:Sem Value}{Q:Flow->Shared->Prop}(hbase:bm.contains (.type "BaseException")=true)(hh:A.handled=none)(h:wpAny (model prog w) A x (fun v s₁=>∃e t dx,v=.ref e/\s₁.heap.get? C=some (excClassObj nm q C N bs bm hdct sn sub ab col dd k0 k1 k2 k3 k5 newId)/\s₁.heap.get? e=some (XH C t dx)/\E (.ref e) s₁) E s) :
  wpAny (model prog w) A (raiseStmt env (some x) none) Q E s:=by
 have hcB:(Value.ref C::bm).contains (.type "BaseException")=true:=by rw[Vk,hbase,Bool.or_true]
 unfold raiseStmt;refine Yk (YS h (fun v s₁ h₁=>?_) fun _ _ x=>x);obtain⟨e,t,dx,rfl,hC,he,hE⟩:=h₁;obtain⟨hp,g,d,tk,os⟩:=s₁;unfold XH at he
 repeat (first|with_reducible refine W3 he ?_|with_reducible refine W3 hC ?_|(with_reducible refine Ve hC ?_;rw[hcB])|wp_step)
 exact wpAny_raiseNew_none hh hE
def ON(Fn:ExcBaseFacts Bn newId inN bmN)(hBn:bmB.contains (.type Bn)=true)(F:ExcBaseFacts B nid initId bmB){mN:Str->Option Value}{x:Str}{np cpos pos:Pos}{args:List Expr}{fI:Addr}{oI:Obj}{Q:Flow->Shared->Prop}(hbase:bm.contains (.type "BaseException")=true)(hh:A.handled=none)(hplain:(backTo cpos (starEach args env)).any (·.1)=false)(hi:mN "__init__"=some (.ref fI))(hfc:oI.cls=.type "function")
  (h:wpAny (model prog w) A (eval (.Name x np) env) (fun f s₁=>f=.ref C/\wpAny (model prog w) A (evalArgs (.ref C) true (backTo cpos (starEach args env)) [])
   (fun a s₂=>a.kw=[]/\a.pos.length<=sizeLine/\s₂.heap.get? C=some (excClassObj nm q C N bs bm hdct sn sub ab col dd k0 k1 k2 k3 k5 newId)/\s₂.heap.Ns N mN/\OwnTail s₂.heap bmB bm/\s₂.heap.get? fI=some oI/\
    ∀h' e,Heap.MadeExcOf s₂.heap h' e (.ref C) a.pos->wpAny (model prog w) (A.under (.builtin "type.__call__" ⟨.ref C::a.pos,[]⟩)) (call (.ref fI) (.ref e::a.pos))
     (fun r s'=>r=.none/\s'.heap.get? C=some (excClassObj nm q C N bs bm hdct sn sub ab col dd k0 k1 k2 k3 k5 newId)/\(∃t dx,s'.heap.get? e=some (XH C t dx))/\E (.ref e) s') E {s₂ with heap:=h'}) E s₁) E s) :
  wpAny (model prog w) A (exec (.Raise (some (.Call (.Name x np) args [] cpos)) none pos) env) Q E s:=by
 rw[arm_exec_Raise];refine Yk (Qw (Zb4 (C:=C) (nm:=nm) (q:=q) (N:=N) (bs:=bs) (bm:=bm) (hdct:=hdct) (sn:=sn) (sub:=sub) (ab:=ab) (col:=col) (dd:=dd) (k0:=k0) (k1:=k1) (k2:=k2) (k3:=k3) (k5:=k5) (newId:=newId) hbase hh (Yk (YS (wpAny_Call_ofName (YS h (fun f s₁ h₁=>?_) fun _ _ x=>x)) (fun v s₃ h₃=>Yk (Qw (Ys h₃))) fun _ _ x=>x))));obtain⟨rfl,h₁⟩:=h₁;unfold callWith;refine Yk (Wx (YS h₁ (fun a s₂ h₂=>Yk (Qw ?_)) fun _ _ x=>x));obtain⟨apos,akw⟩:=a;obtain⟨hkw,hlen,hC,hn,T,hfI,h₂⟩:=h₂;obtain rfl:akw=[]:=hkw;obtain⟨hp,g,d,tk,os⟩:=s₂;simp only[hplain];refine Yk (wpAny_keeperOf_exc hC ?_);refine Yk (Zdx (hrest:=hlen) Fn hBn F T hC hn hi hfI hfc fun h' e hm=>YS (h₂ h' e hm) (fun r s' z=>?_) fun _ _ x=>x);obtain⟨rfl,hC',⟨t,dx,he⟩,hE⟩:=z;exact⟨rfl,Yk (Wx (wpAny_point (Ys ⟨e,t,dx,rfl,hC',he,hE⟩)))⟩
end
end ExcR
namespace ExcR
open PySem PySem.Spec PyProof.Rows L2
open Sem (wp)
open Builtin Builtin.ObjectAttr
def Kb:List Value:=[.type "ValueError",.type "Exception",.type "BaseException",.type "object"]
def Tc:List Value->Bool
 | .ref _::r=>Tc r
 |l=>l==Kb
def Ef(self:Value):∀{l:List Value},Tc l=true->refuseLoop self "__setattr__" l=pure ()
 | .ref c::r,e=>by rw[refuseLoop_ref];exact Ef self (l:=r) e
 |[],e=>by cases e
 | .type n::r,e=>by
  have:Value.type n::r=Kb:=beq_iff_eq.mp e
  rw[this];exact PySem.F.store_ValueError.passes self
def GE:∀{l:List Value},Tc l=true->l.contains (.type "object")=true
 | .ref c::r,e=>by rw[Vk,GE (l:=r) e,Bool.or_true]
 |[],e=>by cases e
 | .type n::r,e=>by
  have:Value.type n::r=Kb:=beq_iff_eq.mp e
  rw[this];decide
structure ErrSt (K:Za) (C:Addr):Prop where
 po:(PySem.W.clsIn K C).any (fun cd=>Tc cd.mro&&cd.hasDict)=true
 sa:PySem.W.findIn K (.ref C) "__setattr__"=some (some (.builtin "object.__setattr__"))
section
variable {prog:Program}{w:World}{A:Around}{E:Value->Shared->Prop}{s:Shared}{K:Za}{x C t:Addr}{name:Str}{v:Value}
def Zc7{Q:Unit->Shared->Prop}(X:K.In s.heap)(hx:s.heap.get? x=some (XH C t none))(c:ErrSt K C)(n:NoAttr K C name)
  (h:∀h',h'.get? x=some (XH C t (some s.heap.objs.size))->h'.Ns1 s.heap.objs.size (fun y=>if y=name then some v else none)->(∀b o,b≠x->s.heap.get? b=some o->h'.get? b=some o)->s.heap.objs.size<=h'.objs.size->
   Q () {s with heap:=h',toks:=s.toks+2}):wpAny (model prog w) A (setAttr (.ref x) name v) Q E s:=by
 have SF:=PySem.F.store_object;have J:PySem.W.InstAt s.heap x (XH C t none) C none:=⟨hx,rfl,rfl,True.intro⟩;obtain⟨cd,hc,ho⟩:=QL c.po;obtain⟨ho,hd'⟩:=(Y9 _ _▸ho:_/\_);have ne:cd.mro.isEmpty=false:=by cases q:cd.mro with|nil=>rw[q]at ho;cases ho|cons _ _=>rfl
 have sub:PySem.W.Looks (model prog w) s.heap (isInstance (.ref x) (.type "object")) true:=J.type.andThen (PySem.W.looks_mroIn X (by unfold PySem.W.mroIn;rw[hc,Option.bind_some,Yo (by rw[ne];decide),GE ho]));have hm:PySem.W.Looks (model prog w) s.heap (mroOf (.ref C)) cd.mro:=(Va X hc).andThen .now;refine PySem.W.set_plain X J c.sa (QX SF.slot.plain SF.entry (@PySem.W.check_slot (model prog w) _ _ {s with toks:=s.toks+1} "object.__setattr__" "object" "__setattr__" (.ref x) [.str name s.toks,v] [] _ SF.kind SF.split sub (SF.args (.ref x) (.str name s.toks) v) ?_))
 rw[PySem.W.osa_eq,refuse_eq];refine Yk (Yk (J.type.here (s:={s with toks:=s.toks+1}) (Yk (hm.here (s:={s with toks:=s.toks+1}) ?_))))
 rw[Ef _ ho];refine Ys (Yk (J.type.here (s:={s with toks:=s.toks+1}) (Yk (Vg (s:={s with toks:=s.toks+1}) (WV X n) (Yk (Ys ?_))))))
 refine Yk (Ys (Yk (Yk (wpAny_loadPart hx (Yk (Vg (s:={s with toks:=s.toks+1}) (Va X hc) ?_))))))
 rw[hd'];have hx₁:(s.heap.push {cls:=.type "dict",data:=.dict #[]}).get? x=some (XH C t none):=Yq _ hx;have hxs:x≠s.heap.objs.size:=YA (Yu hx)
 show wpAny _ _ (do
  let d ←alloc {cls:=Value.type "dict",data:=Data.dict #[]}
  update x fun o=>{cls:=o.cls,dict:=some d,data:=o.data,slots:=o.slots}
  dictMade (Value.ref C) x d) _ _ _
 refine Yk (wpAny_alloc' ?_);refine Yk (wpAny_update' hx₁ ?_);refine Ys (a:=some s.heap.objs.size) ?_
 have hgd:((s.heap.push {cls:=.type "dict",data:=.dict #[]}).update x fun o=>{cls:=o.cls,dict:=some s.heap.objs.size,data:=o.data,slots:=o.slots}).get? s.heap.objs.size
   = some {cls:=.type "dict",data:=.dict #[]}:=
  (Heap.get?_update_ne _ _ _ _ hxs.symm).trans (Heap.get?_push_at rfl rfl)
 have hnd:((s.heap.push {cls:=.type "dict",data:=.dict #[]}).update x fun o=>{cls:=o.cls,dict:=some s.heap.objs.size,data:=o.data,slots:=o.slots}).Ns s.heap.objs.size (fun _=>none):=
  ⟨_,#[],_,hgd,rfl,fun e he=>absurd he (by simp),fun _=>rfl⟩
 show wpAny _ _ (storeInDict s.heap.objs.size (.str name s.toks) name v) _ _ _;unfold storeInDict newKeyGuard;refine Yk (Ys (Yk (wpAny_nsSet1 (Heap.Ns1.of_empty hnd) fun h' hn' hs=>?_)));obtain⟨oD,esD,epD,hoD,hdD,hcD⟩:=hn'.count (Within.cons name v Within.nil);refine Yk (wpAny_lookBehind hoD (by rw[hdD];exact pastItsLine_dict (Yy hcD (by rw[Y6,List.length_nil,QH];omega))) ?_);refine Ys (h h' ?_ hn' (fun b ob hbx hb=>?_) ?_)
 ·refine(hs.2 x hxs).trans (Wb _ hx₁ rfl)
 ·exact(hs.2 b (YA (Yu hb))).trans ((Heap.get?_update_ne _ _ _ _ hbx).trans (Yq _ hb))
 ·rw[hs.1,Heap.size_update,WE];exact WH _
end
end ExcR
namespace ExcR
open PySem PySem.Spec PyProof.Rows L2
open Sem (wp)
open Builtin Builtin.ObjectAttr
section
variable {prog:Program}{w:World}{A:Around}{E:Value->Shared->Prop}{h:Heap}{g:Array GenState}{d:Drawn}{t:Nat}{os:OsState}{a C dx:Addr}{o:Obj}{K:Za}{name:Str}{v:Value}{mA:Str->Option Value}
def Mw(k:K.In h)(hh:PySem.W.hasDictIn K C=true)(hx:h.get? a=some o)(hc:o.cls=.ref C)(hd:o.dict=some dx)(nc:PySem.W.notCls o=true)(ns:h.Ns1 dx mA)(hv:mA name=some v) :
  PySem.W.Looks (model prog w) h (inOwnDict name (.ref a)) (some v):=by
 obtain⟨od,ho,hl⟩:=AZ ns;obtain⟨cd,hcd,hd'⟩:=QL hh;refine PySem.W.looks_own k (od:=some od) ⟨hx,hc,nc,by rw[hd];exact ho⟩ hcd ?_;unfold PySem.W.ownOf;rw[hd',Yn rfl]
 dsimp only
 rw[hl,hv]
def Zck{tk:Tok}{Q:PySem.Fin->Shared->Prop}(k:K.In h)(hh:PySem.W.hasDictIn K C=true)(n:NoAttr K C name)(hx:h.get? a=some o)(hc:o.cls=.ref C)(hd:o.dict=some dx)(nc:PySem.W.notCls o=true)(ns:h.Ns1 dx mA)(hv:mA name=some v)(hq:Q (.done (.ret v)) ⟨h,g,d,t,os⟩):wpAny (model prog w) A (Builtin.«object.__getattribute__» ⟨[.ref a,.str name tk],[]⟩) Q E ⟨h,g,d,t,os⟩:=by
 have L:=WV (M:=model prog w) k n;have L2:=Mw (prog:=prog) (w:=w) k hh hx hc hd nc ns hv
 repeat (any_goals (first|assumption|(with_reducible refine W3 hx ?_;rw[hc])|with_reducible refine L.at ?_|with_reducible refine L2.at ?_|wp_step))
def Hg{tk:Tok}{fill expr:Bool}{Q:Value->Shared->Prop}(k:K.In h)(ga:PySem.W.findIn K (.ref C) "__getattribute__"=some (some (.builtin "BaseException.__getattribute__")))(gt:PySem.W.findIn K (.ref C) "__getattr__"=some none)(ck:∀{A:Around} {E:Value->Shared->Prop} {t:Nat} {u:Value} {Q:Unit->Shared->Prop},Q () ⟨h,g,d,t,os⟩->wpAny (model prog w) A (checkBuiltinCall "BaseException.__getattribute__" ⟨[.ref a,u],[]⟩) Q E ⟨h,g,d,t,os⟩)(hh:PySem.W.hasDictIn K C=true)(n:NoAttr K C name)(hx:h.get? a=some o)(hc:o.cls=.ref C)(hd:o.dict=some dx)(nc:PySem.W.notCls o=true)(ns:h.Ns1 dx mA)(hv:mA name=some v)(hv':PySem.W.handedIn v=true)(hq:Q v ⟨h,g,d,t,os⟩):wpAny (model prog w) A (getAttrBy (.ref a) (.str name tk) fill expr) Q E ⟨h,g,d,t,os⟩:=by
 have f0:=F.attrBase_ValueError.ga.bind (.ref a);have hx0:(expr&&onTheHeap (Value.builtin "BaseException.__getattribute__"))=false:=by cases expr<;>rfl
 have x2:(Value.builtin "BaseException.__getattribute__" == Value.builtin "object.__getattribute__")=false:=by decide +kernel
 have x1:(onTheHeap (Value.ref C)&&Value.builtin "BaseException.__getattribute__" == Value.builtin "object.__getattribute__")=false:=by rw[x2];rfl
 have L:=WV (M:=model prog w) k ga;have L2:=WV (M:=model prog w) k gt
 repeat (any_goals (first|assumption|(with_reducible refine W3 hx ?_;rw[hc])|with_reducible refine L.at ?_|with_reducible refine L2.at ?_|wp_step))
 refine QX F.attrBase_ValueError.ga.plain F.entry_bexc_ga (ck (Zck k hh n hx hc hd nc ns hv ?_));have hh':handedOut v=pure v:=PySem.W.handedOut_of hv';unfold handedOut at hh'
 repeat (any_goals (first|assumption|rw[hh']|wp_step))
def Zd4{expr:Bool}{Q:Value->Shared->Prop}(k:K.In h)(ga:PySem.W.findIn K (.ref C) "__getattribute__"=some (some (.builtin "BaseException.__getattribute__")))(gt:PySem.W.findIn K (.ref C) "__getattr__"=some none)(ck:∀{A:Around} {E:Value->Shared->Prop} {t:Nat} {u:Value} {Q:Unit->Shared->Prop},Q () ⟨h,g,d,t,os⟩->wpAny (model prog w) A (checkBuiltinCall "BaseException.__getattribute__" ⟨[.ref a,u],[]⟩) Q E ⟨h,g,d,t,os⟩)(hh:PySem.W.hasDictIn K C=true)(n:NoAttr K C name)(hx:h.get? a=some o)(hc:o.cls=.ref C)(hd:o.dict=some dx)(nc:PySem.W.notCls o=true)(ns:h.Ns1 dx mA)(hv:mA name=some v)(hv':PySem.W.handedIn v=true)(hq:Q v ⟨h,g,d,t+1,os⟩):wpAny (model prog w) A (getAttr (.ref a) name expr) Q E ⟨h,g,d,t,os⟩:=by
 unfold getAttr
 repeat (any_goals (first|assumption|with_reducible apply Hg k ga gt ck hh n hx hc hd nc ns hv hv'|wp_step))
end
end ExcR
namespace ExcR
open PySem PySem.Spec PyProof.Rows L2
section
variable {X:Cx}{pins:List (Addr×Obj)}{σ:L2.St}{H:Hp}{s:Shared}{a b:Addr}
def Cp{o:HO}(I:Inv X pins σ H s)(hn:H b=none)(hL:b≠X.env.locals)(hc:∀x c,X.env.cells.lookup x=some c->c≠b)(hp:∀p∈X.pn++pins,p.1≠b)(ne:∀c u,X.s₀.heap.get? c=some u->c≠b)(new:ObjOk X.prog X.w (upd H b o) s.heap b o):Inv X pins σ (upd H b o) s:=by
 refine⟨I.ok,I.os,I.bare,⟨fun c u g n1 n2 n3=>I.base.keep c u g n1 n2 n3,fun c u g n1 n2 n3=>I.base.slot c u g n1 n2 n3,fun c u g n1 n2=>?_,I.base.there,fun c ys g=>?_,fun c u v g=>?_,fun c ps g=>?_⟩,I.loc,I.cell,?_,fun x c g=>?_,fun p hp'=>?_,?_,I.len⟩
 ·rw[JI (ne c u g)];exact I.base.free c u g n1 n2
 ·rw[JI (U8 (I.base.tups c ys g) hn)];exact I.base.tups c ys g
 ·rw[JI (U8 (I.base.frzs c u v g) hn)];exact I.base.frzs c u v g
 ·obtain⟨m,q⟩:=I.base.tbls c ps g;exact⟨m,by rw[JI (U8 q hn)];exact q⟩
 ·rw[JI (Ne.symm hL)];exact I.free
 ·rw[JI (hc x c g)];exact I.freeC x c g
 ·obtain⟨a1,a2,a3,a4,a5⟩:=I.pin p hp';exact⟨a1,by rw[JI (hp p hp')];exact a2,a3,a4,a5⟩
 ·exact Lam.Re I.hok hn new
def layG{o:HO}{h':Heap}{t':Nat}(I:Inv X pins σ H s)(hex:X.ex=[])(na:s.heap.get? b=none)(k:∀c u,s.heap.get? c=some u->h'.get? c=some u)(new:ObjOk X.prog X.w (upd H b o) h' b o) :
  Inv X pins σ (upd H b o) {s with heap:=h',toks:=t'}:=by
 have ne:∀{c u},s.heap.get? c=some u->c≠b:=fun {c u} e z=>by rw[z,na]at e;cases e
 refine Cp (I.kept (t':=t') k) (NI I.hok na) ?_ (fun x c e=>?_) (fun p hp=>ne (I.pin p hp).1) (fun c u e=>?_) new
 ·obtain⟨m,⟨o1,es,ep,e1,_⟩,_⟩:=I.loc;exact(ne e1).symm
 ·obtain⟨v,o1,e1,_⟩:=I.cell x c e;exact ne e1
 ·obtain⟨u1,e1⟩:=I.base.there c u e (by rw[hex];simp);exact ne e1
def er(H:Hp)(a:Addr):Hp:=fun b=>if b=a then none else H b
def NL{H:Hp}{a:Addr}:er H a a=none:=by unfold er;rw[Yn rfl]
def K7{H:Hp}{a b:Addr}(h:b≠a):er H a b=H b:=by unfold er;rw[Yo h]
def Mx{H:Hp}{a b:Addr}{o:HO}(h:er H a b=some o):H b=some o:=by
 by_cases z:b=a
 ·rw[z,NL]at h;cases h
 ·rw[K7 z]at h;exact h
def forget{φ:Heap->Prop}(I:Inv X pins σ H s)(ha:H a=some (.ext φ)):Inv X pins σ (er H a) s:=by
 have ne:∀{c o},H c=some o->(∀ψ,o≠HO.ext ψ)->c≠a:=fun {c o} e n z=>by rw[z,ha]at e;exact n _ (Yv e).symm
 have no:∀{c},H c=none->er H a c=none:=fun {c} e=>by
  by_cases z:c=a
  ·rw[z];exact NL
  ·rw[K7 z];exact e
 refine⟨I.ok,I.os,I.bare,⟨fun c u g n1 n2 n3=>I.base.keep c u g n1 n2 n3,fun c u g n1 n2 n3=>I.base.slot c u g n1 n2 n3,fun c u g n1 n2=>no (I.base.free c u g n1 n2),I.base.there,fun c ys g=>?_,fun c u v g=>?_,fun c ps g=>?_⟩,I.loc,I.cell,no I.free,fun x c g=>no (I.freeC x c g),fun p hp'=>?_,fun c o e=>?_,I.len⟩
 ·have q:=I.base.tups c ys g;rw[K7 (ne q fun _ z=>nomatch z)];exact q
 ·have q:=I.base.frzs c u v g;rw[K7 (ne q fun _ z=>nomatch z)];exact q
 ·obtain⟨m,q⟩:=I.base.tbls c ps g;exact⟨m,by rw[K7 (ne q fun _ z=>nomatch z)];exact q⟩
 ·obtain⟨a1,a2,a3,a4,a5⟩:=I.pin p hp';exact⟨a1,no a2,a3,a4,a5⟩
 ·refine(I.hok c o (Mx e)).stay (fun _ _ _ z=>z) (fun d z=>?_) fun d xs z=>?_
  ·rw[K7 (ne z fun _ w=>nomatch w)];exact z
  ·rw[K7 (ne z fun _ w=>nomatch w)];exact z
def Zen{l:Addr}{xs:List V}(I:Inv X pins σ H s)(h:H l=some (.lst xs)):∃o,Inv X pins σ (upd H l (.frz o (.lst xs))) s:=by
 obtain⟨z,its,n,r,e⟩:=(show ObjOk X.prog X.w H s.heap l (.lst xs)from I.hok l _ h)
 exact⟨_,Sa (t':=s.toks) (h':=s.heap) (ob:=.frz _ (.lst xs)) I (by rw[h];trivial) ⟨rfl,fun _ _=>rfl⟩ ⟨_,e⟩ ⟨e,z,its,n,r,e⟩⟩
end
def M9(K:Za)(C f:Addr):Prop:=∃(dd:Option Addr) (cd:ClassData) (sl:Array (Option Value)) (bm:List Value) (k0 k1 k2 k3 k5:Option Value),K.lookup C=some ⟨.type "type",dd,.cls cd,sl⟩/\cd.mro=.ref C::bm/\
 sl.toList=[k0,k1,k2,k3,some (.builtin "ValueError.__new__"),k5]/\cd.hasDel=false/\PySem.W.tailIn K Kb bm=true/\PySem.W.nsOkIn K cd.ns=true/\PySem.W.nsIn K cd.ns "__init__"=some (some (.ref f))
def Lo{K:Za}{h:Heap}{N:Addr}{mg:Str->Option Value}{n:Str}{v:Value}(X:K.In h)(G:h.Ns N mg)(e:PySem.W.nsIn K N n=some (some v)):mg n=some v:=by
 obtain⟨o,es,ep,ho,hd,_,hf⟩:=G;unfold PySem.W.nsIn at e;split at e
 ·rename_i c d es' n' sl q
  have:=X _ _ q
  rw[ho]at this;cases this
  cases hd
  split at e
  ·rename_i en he;cases e
   rw[←hf];unfold nsFind findBy;rw[←Array.find?_toList,he];rfl
  ·split at e<;>cases e
 ·cases e
structure ErrI (K:Za) (C f:Addr):Prop where
 q:M9 K C f
 fn:PySem.W.typeIn K (.ref f)=some (.type "function")
 st:ErrSt K C
 ga:PySem.W.findIn K (.ref C) "__getattribute__"=some (some (.builtin "BaseException.__getattribute__"))
 gt:PySem.W.findIn K (.ref C) "__getattr__"=some none
 nm:NoAttr K C "members"
def ErrI.hd {K:Za}{C f:Addr} (c:ErrI K C f):PySem.W.hasDictIn K C=true:=by
 obtain⟨cd,h1,h2⟩:=QL c.st.po;rw[Y9]at h2;unfold PySem.W.hasDictIn;rw[h1];exact h2.2
def ErrI.obj {K:Za}{C f:Addr}{h:Heap} (c:ErrI K C f) (k:K.In h):∃bm N nm q bs hdct sn sub ab col dd k0 k1 k2 k3 k5 mN,h.get? C=some (excClassObj nm q C N bs bm hdct sn sub ab col dd k0 k1 k2 k3 k5 "ValueError.__new__")/\h.Ns N mN/\mN "__init__"=some (.ref f)/\
  OwnTail h Kb bm:=by
 obtain⟨dd,cd,sl,bm,k0,k1,k2,k3,k5,ho,hm,hs,e3,e4,e5,e6⟩:=c.q;have hg:=k _ _ ho;cases cd with
 |mk nm bs mro ns qn hd sn sub ab col del=>
  simp only at hm e3 e5 e6
  have hsl:sl=#[k0,k1,k2,k3,some (.builtin "ValueError.__new__"),k5]:=by
   cases sl with
   |mk l=>simp only at hs;rw[hs]
  rw[hm,e3,hsl]at hg;exact⟨bm,ns,nm,qn,bs,hd,sn,sub,ab,col,dd,k0,k1,k2,k3,k5,_,hg,.of_isNs (Vj k e5),Lo k (.of_isNs (Vj k e5)) e6,PySem.W.tail_of_in k e4⟩
def ErrN(a C t:Addr)(dx:Option Addr):HO:=.ext fun h=>h.get? a=some (XH C t dx)
def Cj{P:Program}{w:World}{H:Hp}{h:Heap}{a C t:Addr}{dx:Option Addr}(e:h.get? a=some (XH C t dx)):ObjOk P w H h a (ErrN a C t dx):=⟨e,⟨_,e⟩,fun _ _ q k=>k _ q⟩
def Cz(K:Za)(f:Str)(ta te:TE):TS:=fun D σ H=>te σ H fun y H1=>ta σ H1 fun x H2=>∃a C t l xs,x=.ref a/\y=.ref l/\H2 a=some (ErrN a C t none)/\ErrSt K C/\NoAttr K C f/\H2 l=some (.lst xs)/\
 ∀o dx,H2 dx=none->D.nx σ (upd (upd (upd H2 l (.frz o (.lst xs))) a (ErrN a C t (some dx))) dx (.xd [(f,.ref l)]))
def OH{X:Cx}{o value:Expr}{f:Str}{pos pos':Pos}{ta tv:TE}(ha:PE X o ta)(hv:PE X value tv)(hs:swapsWith value (some (.Attribute o f pos')) pos.line X.env=pure false):PS X (.Assign [.Attribute o f pos'] value pos) (Cz X.K f ta tv):=by
 intro pins s σ H D I h;refine plainObj_wpAny_Assign_Attribute (thn (hv pins s σ H _ I h) fun u s1 ⟨y,H1,I1,ry,q⟩=>thn (ha pins s1 σ H1 _ I1 q) fun ov s2 ⟨x,H2,I2,rx,a,C,t,l,xs,ex,ey,ea,c,n,hl,q2⟩=>?_) hs;subst ex ey;obtain rfl:ov=Value.ref a:=rx;obtain rfl:u=Value.ref l:=ry;have hg:s2.heap.get? a=some (XH C t none):=(show ObjOk X.prog X.w H2 s2.heap a (ErrN a C t none)from I2.hok a _ ea).1
 obtain⟨ob,I3⟩:=Zen I2 hl;have hal:a≠l:=Fh ea hl fun z=>nomatch z;have ea3:upd H2 l (.frz ob (.lst xs)) a=some (ErrN a C t none):=by rw[JI hal];exact ea
 have hn:H2 s2.heap.objs.size=none:=I2.hok.fresh (Yr _);have hn3:upd H2 l (.frz ob (.lst xs)) s2.heap.objs.size=none:=I3.hok.fresh (Yr _);have hna:s2.heap.objs.size≠a:=U8 ea hn |>.symm
 refine Zc7 I2.kIn hg c n fun h' h1 h2 h3 h4=>?_;have f0:=I3.fpOk (H':=upd (upd H2 l (.frz ob (.lst xs))) a (ErrN a C t (some s2.heap.objs.size))) (Yr _) (by rw[JI hna];exact hn3)
 have I4:Inv X pins σ (upd (upd H2 l (.frz ob (.lst xs))) a (ErrN a C t (some s2.heap.objs.size))) {s2 with heap:=h',toks:=s2.toks+2}:=
  I3.write (x:=a) (e:=a) (by rw[ea3];exact True.intro) (.inl rfl) (fun b q hb z=>h3 b q hb z) ⟨_,h1⟩ (Cj h1)
 have I5:=Cp (o:=.xd [(f,.ref l)]) I4 f0.1 f0.2.1 f0.2.2.2.2.1 f0.2.2.2.2.2 (fun c u e z=>by
  have:=Yu e
  rw[z]at this
  exact absurd (YK this I2.sz) (Wq _)) ⟨_,h2,fun g=>by
   show RelO (List.lookup g [(f,V.ref l)]) (if g=f then some (Value.ref l)else none);by_cases hb:g=f
   ·subst hb;rw[Yn rfl];simp only[List.lookup,beq_self_eq_true];exact rfl
   ·rw[Yo hb];simp only[List.lookup,Wt.mpr hb];exact True.intro⟩
 exact⟨σ,_,I5,q2 ob _ hn⟩
def tMem(K:Za)(f:Str)(ta:TE):TE:=fun σ H Q=>ta σ H fun x H1=>∃a C g dx fs v,x=.ref a/\H1 a=some (ErrD a C (some dx))/\ErrI K C g/\NoAttr K C f/\H1 dx=some (.xd fs)/\fs.lookup f=some v/\Q v H1
def MN{prog:Program}{w:World}{A:Around}{E:Value->Shared->Prop}{h:Heap}{g:Array GenState}{d:Drawn}{t:Nat}{os:OsState}{a C f:Addr}{o:Obj}{K:Za}{v:Value}{Q:Unit->Shared->Prop}(k:K.In h)(G:ErrI K C f)(hx:h.get? a=some o)(hc:o.cls=.ref C)(hq:Q () ⟨h,g,d,t,os⟩) :
  wpAny (model prog w) A (checkBuiltinCall "BaseException.__getattribute__" ⟨[.ref a,v],[]⟩) Q E ⟨h,g,d,t,os⟩:=by
 obtain⟨bm,N,nm,q,bs,hdct,sn,sub,ab,col,dd,k0,k1,k2,k3,k5,mN,hC,hN,hni,hT⟩:=G.obj k;have hbe:(Value.ref C::bm).contains (.type "BaseException")=true:=by rw[Vk,hT.hasType (b:=true) (by decide +kernel)];rfl
 have e1:builtinKind "BaseException.__getattribute__"=some .slot:=by decide +kernel
 have e2:splitId "BaseException.__getattribute__"=some ("BaseException","__getattribute__"):=by decide +kernel
 have e3:=F.args_bexc_ga (.ref a) v;simp only[checkBuiltinCall,e1,e2];refine Yk ?_;unfold isInstance
 repeat (first|(with_reducible refine W3 hx ?_;rw[hc])|(with_reducible refine Ve hC ?_;rw[hbe])|wp_step)
 exact hq
def LQ{X:Cx}{e:Expr}{f:Str}{pos:Pos}{ta:TE}(he:PE X e ta)(hb:attributeBase e f X.env (eval e X.env)=eval e X.env):PE X (.Attribute e f pos) (tMem X.K f ta):=by
 intro pins s σ H Q I h;refine GQ hb (thn (he pins s σ H _ I h) fun u s1 ⟨x,H1,I1,rx,a,C,g,dx,fs,v,ex,ea,c,n,hd,l,q⟩=>?_);subst ex;obtain rfl:u=Value.ref a:=rx;obtain⟨⟨o,g1,g2,vs,g3⟩,_⟩:=(show ObjOk X.prog X.w H1 s1.heap a (ErrD a C (some dx))from I1.hok a _ ea)
 obtain⟨mA,ns,rl⟩:=(show ObjOk X.prog X.w H1 s1.heap dx (.xd fs)from I1.hok dx _ hd)
 obtain⟨w,hw,rw'⟩:=RelO.some_of (v:=v) (o:=mA f) (by rw[←l];exact rl f);have hc:o.cls=.ref C:=YQ Prod.fst g2;obtain⟨hp,gs,dr,tk,os⟩:=s1;refine Zd4 I1.kIn c.ga c.gt (fun hq=>MN I1.kIn c g1 hc hq) c.hd n g1 hc (YQ Prod.snd g2) (by unfold PySem.W.notCls;rw[g3]) ns hw (Ca rw') ⟨v,H1,I1.tok _,rw',q⟩
def Aj(X:Cx)(E:XK):Prop:=∀(pins:List (Addr×Obj)) (σ:L2.St) (H:Hp) (s:Shared) (C a t:Addr) (dx:Option Addr),Inv X pins σ H s->s.heap.get? a=some (XH C t dx)->H a=none->X.s₀.heap.get? a=none->E (.ref C) dx H->X.xe (.ref a) s
def Tu(K:Za):Sp:=fun vs H Q _=>∃(a C t p:Addr) (xs:List V),vs=[.ref a,.ref p]/\H a=some (ErrN a C t none)/\SqL K H p xs/\ErrSt K C/\NoAttr K C "members"/\
 ∀(l dx:Addr) (o:Obj),H l=none->H dx=none->dx≠l->Q .non (upd (upd (upd H l (.frz o (.lst xs))) a (ErrN a C t (some dx))) dx (.xd [("members",.ref l)]))
def CV(K:Za)(C:Addr)(E:XK)(t:TA):TS:=fun _ σ H=>t σ H fun vs H1=>∃(p:Addr) (xs:List V),vs=[.ref p]/\SqL K H1 p xs/\
 ∀(l dx:Addr) (o:Obj),H1 l=none->H1 dx=none->dx≠l->E (.ref C) (some dx) (upd (upd H1 l (.frz o (.lst xs))) dx (.xd [("members",.ref l)]))
def IH{H:Hp}{a l dx:Addr}{o0 o1 F D:HO}(ha:H a=none)(hl:l≠a)(hd:dx≠a):er (upd (upd (upd (upd H a o0) l F) a o1) dx D) a=upd (upd H l F) dx D:=by
 funext b;by_cases z:b=a
 ·subst z;rw[NL,JI (Ne.symm hd),JI (Ne.symm hl),ha]
 ·rw[K7 z];by_cases y:b=dx
  ·rw[y,Ug,Ug]
  ·rw[JI y,JI y,JI z];by_cases x:b=l
   ·rw[x,Ug,Ug]
   ·rw[JI x,JI x,JI z]
section
variable {X:Cx}{x:Str}{C:Addr}{E:XK}{e:Expr}{t:TA}{p cpos pos:Pos}{k:Nat}{ps:List Str}
def IA(Ci:Pu.CalleeM X.prog X.w X.K X.mg X.base CX0 k (ErrI X.K C) ps (Tu X.K))(hr:Room (k+1) X.A)(hm:X.mg x=some (.ref C))(hR:Aj X E)(hex:X.ex=[])(hc:X.calm=true)(ha:PA X [e] t)(hg:Gl X x:=by rfl)(hdb:(x==("__debug__" : Str))=false:=by decide)(he:starEach [e] X.env=[(false,eval e X.env)]:=by rfl):PS X (.Raise (some (.Call (.Name x p) [e] [] cpos)) none pos) (CV X.K C E t):=by
 obtain⟨f,fd,F,G,hb⟩:=Ci.ex;intro pins s σ H D I h;obtain⟨bm,N,nm,q,bs,hdct,sn,sub,ab,col,dd,k0,k1,k2,k3,k5,mN,hC,hN,hni,hT⟩:=G.obj I.ok.mod.kin;obtain⟨oI,hoI,hcI⟩:=Option.map_eq_some_iff.mp G.fn
 have hpl:(backTo cpos (starEach [e] X.env)).any (·.1)=false:=by
  rw[he];rfl
 refine ON (C:=C) (nm:=nm) (q:=q) (N:=N) (bs:=bs) (bm:=bm) (hdct:=hdct) (sn:=sn) (sub:=sub) (ab:=ab) (col:=col) (dd:=dd) (k0:=k0) (k1:=k1) (k2:=k2) (k3:=k3) (k5:=k5) (oI:=oI)
  WQ (by decide +kernel) WQ (hT.hasType (by decide +kernel)) (I.ok.hd hc) hpl hni hcI (PD I hg hm ⟨rfl,?_⟩ hdb)
 have hA:=ha cpos pins s σ H _ I h;rw[he]at hA ⊢;refine QT (thn hA fun us s2 ⟨vs,H2,I2,r2,p2,xs,ev,hp,q2⟩=>?_);subst ev;obtain⟨u,rfl,ru⟩:=r2.one;obtain rfl:u=Value.ref p2:=ru;refine⟨rfl,by show 1<=_;rw[QH];omega,I2.bk _ _ hC,hN.keeps I2.bk,hT.keeps I2.bk,I2.bk _ _ (I.ok.mod.kin _ _ hoI),fun h' a hm'=>?_⟩;obtain⟨t0,ht,_,_⟩:=hm'.there;have na:H2 a=none:=NI I2.hok hm'.new;have I3:=layG (t':=s2.toks) I2 hex hm'.new hm'.keeps (Cj (C:=C) (t:=t0) (dx:=none) ht)
 have hsp:Tu X.K [.ref a,.ref p2] (upd H2 a (ErrN a C t0 none)) (fun v H3=>v=.non/\∃l dx o,H2 l=none/\H2 dx=none/\dx≠l/\l≠a/\dx≠a/\H3=upd (upd (upd (upd H2 a (ErrN a C t0 none)) l (.frz o (.lst xs))) a (ErrN a C t0 (some dx))) dx (.xd [("members",.ref l)])) (fun _ _ _=>False):=by
  refine⟨a,C,t0,p2,xs,rfl,Ug,(Own.U0 na).seq hp,G.st,G.nm,fun l dx o h1 h2 h3=>⟨rfl,l,dx,o,?_⟩⟩;have e1:l≠a:=fun z=>by rw[z,Ug]at h1;cases h1
  have e2:dx≠a:=fun z=>by rw[z,Ug]at h2;cases h2
  rw[JI e1]at h1;rw[JI e2]at h2;exact⟨h1,h2,h3,e1,e2,rfl⟩
 have r3:Vals [V.ref a,V.ref p2] [Value.ref a,Value.ref p2]:=.cons rfl (.cons rfl .nil)
 have hl:([Value.ref a,Value.ref p2]++[]).length=ps.length:=by
  have:=F.len _ _ _ _ hsp
  exact this
 refine QS (WJ (F.run _ X.stack _ _ ⟨[Value.ref a,Value.ref p2],[]⟩ [Value.ref a,Value.ref p2] _ _ (fun _ _ _=>False) (hr.make C [.ref p2] []) (I3.env0.make C [.ref p2] []) (hb _ [Value.ref a,Value.ref p2] I3.kIn hl) r3 hsp) fun r s' hq'=>?_);cases r with
 |error e=>exact False.elim hq'
 |ok fl=>
  cases fl with
  |ret u=>
   obtain⟨v,H',I4,rv,ev,l,dx,o,n1,n2,n3,n4,n5,eH⟩:=I3.after hq';subst ev;obtain rfl:u=Value.none:=rv;have ea:H' a=some (ErrN a C t0 (some dx)):=by rw[eH,JI (Ne.symm n5),Ug]
   have hg':s'.heap.get? a=some (XH C t0 (some dx)):=(show ObjOk X.prog X.w H' s'.heap a (ErrN a C t0 (some dx))from I4.hok a _ ea).1
   refine⟨rfl,I4.bk _ _ hC,⟨t0,some dx,hg'⟩,hR pins σ (er H' a) s' C a t0 (some dx) (forget I4 ea) hg' NL (Nq I2 hex hm'.new) ?_⟩;rw[eH,IH na n4 n5];exact q2 l dx o n1 n2 n3
  |next=>exact False.elim hq'
  |brk=>exact False.elim hq'
  |cont=>exact False.elim hq'
def OB{P:Program}{w:World}{K:Za}{mg:Str->Option Value}{base:Heap}{N:List Str}{qual:Str}{scope:Scope}{f:Addr}{cd:Value}{A:Around}{outer:List Env}{s:Shared}{H:Hp}{E:XK} :
  Aj (cxOf (CXe P w) P w K mg base N qual scope f cd A outer s H E) E:=by
 intro pins σ H1 s1 C a t dx I hg fa na q;exact YS (D1 I rfl rfl rfl na fa hg rfl rfl rfl rfl) (fun _ s3 ⟨T2,y⟩=>⟨a,T2,C,dx,H1,rfl,y,q⟩) fun _ _ z=>z
def Zak{K:Za}{vs:List V}{H:Hp}{Q:VK}{E:XK}{D:Ends}(h:Tu K vs H Q E)(hD:D.nx=fun _ H'=>Q .non H') :
  Cz K "members" (tVar 0) (tCB (fun xs H Q=>∃p ys,xs=[.ref p]/\(SqL K H p ys\/SqT K H p ys)/\∀l,H l=none->Q (.ref l) (upd H l (.lst ys))) (UH (tVar 1) tNil)) D (start ["self","members"] vs) H:=by
 obtain⟨a,C,t,p,xs,rfl,ha,hp,c,n,q⟩:=h;refine⟨_,rfl,p,xs,rfl,.inl hp,fun l nl=>⟨_,rfl,a,C,t,l,xs,rfl,rfl,?_,c,n,Ug,fun o dx nd=>?_⟩⟩
 ·rw[JI (U8 ha nl)];exact ha
 ·have e1:dx≠l:=fun z=>by rw[z,Ug]at nd;cases nd
  rw[JI e1]at nd;rw[hD,EW];exact q l dx o nl nd e1
end
end ExcR
namespace Pu
open PySem PySem.Spec PyProof.Rows L2 Own M
section
variable {K:Za}{mg:Str->Option Value}{E:L2.St->XK}{H0 H H1 H':Hp}{B Z Z':Addr->Prop}{σ:L2.St}{γ:Γ}
def CD:∀{ns:List Int}{vs:List V},Rps K H (ns.map D.int) vs->vs=ns.map V.int
 |[],_,h=>by cases h;rfl
 |n::ns,_,h=>by
  cases h with
  |cons h r=>rw[CD r,h.int_inv];rfl
def RJ(r:PTA):PTS:=fun R γ=>r γ (fun ss=>match ss with
 |[s]=>(∃ns:List Int,s.d=.lst (ns.map D.int)/\R.ex γ (encR ns))
 |_=>False) (R.ex γ)
def Zb9{ta:TA}{r:PTA}{Ec:XK}(hr:SndA K mg (fun _=>Ec) ta r):SndS K mg (fun _=>Ec) (ExcR.CV K (ExcR.JD mg "Ringed") Ec ta) (RJ r):=by
 intro H0 B H σ γ R D hB env h e;refine hr H0 B H σ γ _ _ _ env h (fun ss vs H1 h1 S1 t1=>?_) fun c H' hc S'=>e.ex σ γ c H' hc (env.grow S') (Fr.grow S');split at h1
 ·rename_i s;obtain⟨ns,ed,h2⟩:=h1;obtain⟨v,rfl,tv⟩:=t1.one_inv;have env1:=env.grow S1;have rv:=tv.rp env1.same;rw[ed]at rv;obtain⟨p,vs,rfl,hp,rr⟩:=rv.lst_inv;rw[CD rr]at hp;refine⟨p,_,rfl,SqL.of hp,fun l dx o nl nd ne=>?_⟩;have S2:Same H1 (upd (upd H1 l (.frz o (.lst (ns.map V.int)))) dx (.xd [("members",.ref l)])):=(U0 nl).trans (U0 (by rw[JI ne];exact nd));have S3:=S1.trans S2;exact(e.ex σ γ (encR ns) _ h2 (env.grow S3) (Fr.grow S3)).mem Ug (by rw[JI (Ne.symm ne)];exact Ug)
 ·exact h1.elim
def Zc0(mg:Str->Option Value)(i:Nat)(pb ph:PTS):PTS:=fun R γ=>pb {R with ex:=fun γ' c=>∃r,c=encR r/\ph {nx:=fun g=>R.nx (g.set i none),rt:=R.rt,ex:=fun _ _=>False,bk:=fun g=>R.bk (g.set i none),ct:=fun g=>R.ct (g.set i none),rv:=R.rv} (γ'.set i (some (.sh (.erM (ExcR.JD mg "Ringed") r))))} γ
def MZ{i:Nat}{C0:Addr}{tb:Ends->TS}{ts:TS}{pb ph:PTS}{E':L2.St->XK}(hcs:PySem.W.exmOne K (.ref (ExcR.JD mg "Ringed")) (.ref C0)=some true)(hb:∀D,SndS K mg (ExcR.hx K C0 i ts D) (tb D) pb)(hh:SndS K mg E' ts ph):SndS K mg E (fun D σ H=>tb D D σ H) (Zc0 mg i pb ph):=by
 intro H0 B H σ γ R D hB env h e;refine hb D H0 B H σ γ _ D hB env h ⟨e.nx,e.rt,fun σ' γ' c H' hc e' f'=>?_,e.bk,e.ct,e.rv⟩;obtain⟨r,rfl,hp⟩:=hc;refine .ofM fun dx l o hd hl=>⟨_,rfl,hcs,fun a na=>?_⟩;have S1:=U0 (o:=ExcR.ErrD a (ExcR.JD mg "Ringed") (some dx)) na
 have tv:TV K (zof B γ' σ') H0 H' (upd H' a (ExcR.ErrD a (ExcR.JD mg "Ringed") (some dx))) (.sh (.erM (ExcR.JD mg "Ringed") r)) (.ref a):=
  .erM (Ur Ug fun z=>by have:=e'.zm a z;rw[na]at this;exact this) (Ur (S1 _ _ hd) fun z=>by have:=e'.zm dx z;rw[hd]at this;exact this) (Ur (S1 _ _ hl) fun z=>by have:=e'.zm l z;rw[hl]at this;exact this)
 obtain⟨e2,f2⟩:=e'.set (i:=i) S1 tv rfl;have f12:=f'.trans f2;refine hh H0 B _ _ _ _ _ hB e2 hp ⟨fun σ3 γ3 H3 q3 e3 f3=>?_,e.rt,fun _ _ _ _ z=>z.elim,fun σ3 γ3 H3 q3 e3 f3=>?_,fun σ3 γ3 H3 q3 e3 f3=>?_,fun σ3 γ3 d v H3 q3 e3 f3=>e.rv σ3 γ3 d v H3 q3 e3 (f12.trans f3)⟩
 ·obtain⟨e4,f4⟩:=e3.gone i;exact e.nx _ _ H3 q3 e4 (f12.trans (f3.trans f4))
 ·obtain⟨e4,f4⟩:=e3.gone i;exact e.bk _ _ H3 q3 e4 (f12.trans (f3.trans f4))
 ·obtain⟨e4,f4⟩:=e3.gone i;exact e.ct _ _ H3 q3 e4 (f12.trans (f3.trans f4))
def Rp.erM_inv {C:Addr}{r:List Int}{v:V} (h:Rp K H (.erM C r) v):∃a dx l o,v=.ref a/\H a=some (ExcR.ErrD a C (some dx))/\H dx=some (.xd [("members",.ref l)])/\H l=some (.frz o (.lst (r.map V.int))):=by
 cases h with
 |erM h1 h2 h3=>exact⟨_,_,_,_,rfl,h1,h2,h3⟩
def pMem(C0:Addr)(a:PTE):PTE:=fun γ R X=>a γ (fun s=>match s.d with
 | .erM C r=>C=C0/\R (.sh (.fL r))
 |_=>False) X
def Om{C0:Addr}{te:TE}{a:PTE}(hc:∃g,ExcR.ErrI K C0 g)(ha:SndE K mg E te a):SndE K mg E (ExcR.tMem K "members" te) (pMem C0 a):=by
 obtain⟨g,c⟩:=hc;intro H0 B H σ γ R X Q env p q qx;refine ha H0 B H σ γ _ X _ env p (fun s v H1 h1 S1 t1=>?_) qx;have env1:=env.grow S1;have rv:=t1.rp env1.same;split at h1
 ·rename_i C r ed;obtain⟨rfl,h2⟩:=h1;rw[ed]at rv;obtain⟨b,dx,l,o,rfl,g1,g2,g3⟩:=rv.erM_inv;exact⟨b,_,g,dx,_,.ref l,rfl,g1,c,c.nm,g2,rfl,q _ _ H1 h2 S1 (.fL (Ur g3 fun z=>by have:=env1.zm l z;rw[g3]at this;exact this))⟩
 ·exact h1.elim
end
end Pu
namespace Pu
open PySem PySem.Spec PyProof.Rows L2 Own
structure RI (K:Za) (x:Str) (C:Addr) (q:Str) (st:Stmt):Prop where
 a:PySem.W.nsIn K mainGlobals x=some (some (.ref C))
 ex:∃f fd,ExcR.ErrI K C f/\Fun K "__init__" q st f fd
section
variable {K:Za}{h:Heap}{mg:Str->Option Value}{x q:Str}{st:Stmt}{C M N f:Addr}
def Ik{cd:ClassData}(m:PySem.W.excIn K M ExcR.Kb "ValueError.__new__"=true):PySem.W.tailIn K ExcR.Kb (.ref M::ExcR.Kb)=true:=by
 unfold PySem.W.excIn at m;split at m
 next dd cd sl ho=>
  split at m
  next C1 bm k0 k1 k2 k3 n k5 hm hs=>
   simp only[Y9,beq_iff_eq,QG]at m;obtain⟨⟨⟨_,e4⟩,e5⟩,e6⟩:=m;unfold PySem.W.tailIn;rw[Bool.or_eq_true];right
   try dsimp only
   rw[ho]
   try dsimp only
   rw[e5,e6]
   have:PySem.W.tailIn K ExcR.Kb ExcR.Kb=true:=by
    unfold PySem.W.tailIn ExcR.Kb;simp
   rw[this];rfl
  next=>cases m
 next=>cases m
def ri{dd d1:Option Addr}{cd:ClassData}{sl s1:Array (Option Value)}{k0 k1 k2 k3 k5:Option Value}{c1:Value}{es:Array DictEntry}{n:Nat}{oc:Value}{od an:Option Addr}{osl:Array (Option Value)}{kV doc pm cdv ct:Value}(a:PySem.W.nsIn K mainGlobals x=some (some (.ref C)))(l:K.lookup C=some ⟨.type "type",dd,.cls cd,sl⟩)(mr:cd.mro=.ref C :: .ref M::[.type "ValueError",.type "Exception",.type "BaseException",.type "object"])(dl:cd.hasDel=false)(hdt:cd.hasDict=true)(hsl:sl.toList=[k0,k1,k2,k3,some (.builtin "ValueError.__new__"),k5])(hN:cd.ns=N)(lN:K.lookup N=some ⟨c1,d1,.dict es n,s1⟩)(okN:(es.toList.all fun e=>match e.key with | .str _ _=>true|_=>false)=true)(i:PySem.W.nsIn K N "__init__"=some (some (.ref f)))(m:PySem.W.excIn K M [.type "ValueError",.type "Exception",.type "BaseException",.type "object"] "ValueError.__new__"=true)(fn:PySem.W.isFn K (.ref f)=true)(sa:PySem.W.findIn K (.ref C) "__setattr__"=some (some (.builtin "object.__setattr__")))(ga:PySem.W.findIn K (.ref C) "__getattribute__"=some (some (.builtin "BaseException.__getattribute__")))(gt:PySem.W.findIn K (.ref C) "__getattr__"=some none)(nm:PySem.W.findIn K (.ref C) "members"=some none)(lf:K.lookup f=some ⟨oc,od,.func (PySem.W.fnOf "__init__" q (X3 st) (UA st) (JE st) .none kV doc pm an cdv ct),osl⟩)(c:PySem.W.codeIn K cdv q=true)(k:PySem.W.keepIn K (.ref f)=true):RI K x C q st:=by
 have cl:PySem.W.clsIn K C=some cd:=by unfold PySem.W.clsIn;rw[l]
 refine⟨a,f,_,⟨?_,beq_iff_eq.mp fn,⟨?_,sa⟩,ga,gt,nm⟩,NV lf c k⟩
 ·refine⟨dd,cd,sl,_,k0,k1,k2,k3,k5,l,mr,hsl,dl,Ik (cd:=cd) m,?_,by rw[hN];exact i⟩;rw[hN];unfold PySem.W.nsOkIn;rw[lN];show(es.all _)=true;rw[←Array.all_toList];exact okN
 ·rw[cl];show(ExcR.Tc cd.mro&&cd.hasDict)=true;rw[mr,hdt];rfl
def RI.c (y:RI K x C q st) (X:K.In h) (G0:h.Ns mainGlobals mg):ExcR.JD mg x=C:=ExcR.FX (Wf X G0 y.a)
def RI.m (y:RI K x C q st) (X:K.In h) (G0:h.Ns mainGlobals mg):mg x=some (.ref (ExcR.JD mg x)):=by rw[y.c X G0];exact Wf X G0 y.a
def RI.i (y:RI K x C q st) (X:K.In h) (G0:h.Ns mainGlobals mg):∃g,ExcR.ErrI K (ExcR.JD mg x) g:=by
 obtain⟨f,fd,e,_⟩:=y.ex;rw[y.c X G0];exact⟨f,e⟩
def RI.d {C':Addr}{ps:List Str} (y:RI K x C q st) (e:C'=C)
  (b:∀(kV doc pm:Value) (an:Option Addr) (cdv ct:Value) (us:List Value),us.length=ps.length->bindArgs (PySem.W.fnOf "__init__" q (X3 st) (UA st) (JE st) .none kV doc pm an cdv ct) ⟨us,[]⟩=pure (ps.zip us)):DefM K (ExcR.ErrI K C') "__init__" q st ps:=
 let ⟨_,_,i,F⟩:=y.ex
 ⟨_,_,F,by rw[e];exact i,F.binds b⟩
def RI.j {C':Addr}{ps:List Str} (y:RI K x C q st) (e:C'=C) (b:Bd "__init__" q st ps:=by
  intro _ _ _ _ _ _ us hl;obtain⟨_,_,rfl⟩:=Pu.len2 hl;rfl):DefM K (ExcR.ErrI K C') "__init__" q st ps:=y.d e b
end
end Pu
namespace M
open PySem PySem.Spec PyProof.Rows L2 Own Pu
def BZ(hs:List Int)(ws:List (Int×Int))(X:Str->Prop)(A:Prop):Prop:=(∀r,FR hs ws r->r≠[]->X (encR r))/\((¬ ∃r,Ring hs ws r)->A)
def FR.one {hs:List Int}{ws:List (Int×Int)}{r r':List Int} (h:FR hs ws r) (h':FR hs ws r'):r=r':=by
 rcases h with⟨rfl,h⟩|⟨l,t,rfl,hl,hc,hm⟩
 ·rcases h' with⟨rfl,_⟩|⟨l',t',rfl,hl',hc',_⟩
  ·rfl
  ·exact absurd hc' (h l' hl' t')
 ·rcases h' with⟨rfl,h'⟩|⟨l',t',rfl,hl',hc',hm'⟩
  ·exact absurd hc (h' l hl t)
  ·rcases hm l' hl' t' hc' with z|⟨z,y⟩
   ·rcases hm' l hl t hc with z'|⟨z',_⟩<;>omega
   ·rcases hm' l hl t hc with z'|⟨_,y'⟩
    ·omega
    ·rcases y with y|⟨rfl,y⟩
     ·rcases y' with y'|⟨rfl,_⟩<;>omega
     ·rcases y' with y'|⟨_,y'⟩
      ·omega
      ·rcases y with rfl|y
       ·rfl
       ·rcases y' with rfl|y'
        ·rfl
        ·exact absurd y' (DJ y)
def pcc(ps:List (Int×Int)):Int->Int->Int:=fun x y=>pcM ps x y ps.length
end M
namespace T
open PySem PySem.Spec PyProof.Rows L2
def top(i:Nat):Stmt:=PySem.Challenge.pw_stripmeld_k38_whole_wishes_or_ring.main.body.getD i (.Pass ⟨0,0,0,0⟩)
abbrev Fg:Stmt:=inClass (top 18) 0
def R8:FnScope ["self","members"] ["self","members"] (JE Fg):=Pu.fs
abbrev BN:Stmt:=top 23
def LC:FnScope ["holder"] ["holder"] (JE BN):=Pu.fs
abbrev BF:Stmt:=top 24
def Of:FnScope ["width"] ["width"] (JE BF):=Pu.fs
abbrev FF:Stmt:=top 25
def Bc:FnScope ["strips","holder","width"] ["strips"] (JE FF):=Pu.fs
abbrev BJ:Stmt:=top 26
def Zcl:FnScope ["strips"] ["strips"] (JE BJ):=Pu.fs
abbrev FW:Stmt:=top 27
def IM:FnScope ["strips","order"] ["strips","order"] (JE FW):=Pu.fs
abbrev By:Stmt:=top 29
def Pn:FnScope ["strips","ahead","behind","to_pass","cost","holder","width"] ["strips","ahead","behind"] (JE By):=Pu.fs
abbrev Ff:Stmt:=top 31
def HX:FnScope ["strips","place"] ["strips","place"] (JE Ff):=Pu.fs
abbrev FB:Stmt:=top 34
def Nj:FnScope ["order","wishes","index_of","index","holder","between"] ["order","wishes"] (JE FB):=Pu.fs
abbrev F8:Stmt:=top 35
def Tn:FnScope ["paths","left","wishes","longer","reached","path","holder"] ["paths","left","wishes"] (JE F8):=Pu.fs
abbrev FE:Stmt:=top 36
def KY:FnScope ["least","holders","wishes","paths","left","rings","reached"] ["least","holders","wishes"] (JE FE):=Pu.fs
abbrev Bp:Stmt:=top 37
def T5:FnScope ["holders","wishes","ring","least","found"] ["holders","wishes"] (JE Bp):=Pu.fs
abbrev SX:Stmt:=top 38
def Cq:FnScope ["strips","wishes","ring"] ["strips","wishes"] (JE SX):=Pu.fs
abbrev Aa:Stmt:=top 40
def Zcw:FnScope ["strips","place"] ["strips","place"] (JE Aa):=Pu.fs
abbrev BP:Stmt:=top 41
def AV:FnScope ["strips","place","holder","strip"] ["strips","place","holder"] (JE BP):=Pu.fs
abbrev FU:Stmt:=top 42
def CP:FnScope ["strips","place","width","strip"] ["strips","place","width"] (JE FU):=Pu.fs
abbrev Sz:Stmt:=top 43
def Ad:FnScope ["strips","place","left","right"] ["strips","place"] (JE Sz):=Pu.fs
abbrev Ac:Stmt:=top 44
def Zd6:FnScope ["wishes","ahead","behind"] ["wishes","ahead","behind"] (JE Ac):=Pu.fs
abbrev Bo:Stmt:=top 45
def Zdl:FnScope ["wishes","ahead","behind"] ["wishes","ahead","behind"] (JE Bo):=Pu.fs
abbrev FC:Stmt:=top 47
def TH:FnScope ["strips","holders","costs","ahead","behind"] ["strips"] (JE FC):=Pu.fs
abbrev Sr:Stmt:=top 48
def N3:FnScope ["holders","sets","holder"] ["holders"] (JE Sr):=Pu.fs
abbrev Fw:Stmt:=top 49
def Ra:FnScope ["members","holder"] ["members","holder"] (JE Fw):=Pu.fs
abbrev S4:Stmt:=top 50
def Zd3:FnScope ["members","holder","wishes"] ["members","holder","wishes"] (JE S4):=Pu.fs
abbrev F2:Stmt:=top 51
def Ir:FnScope ["members","holder","wishes"] ["members","holder","wishes"] (JE F2):=Pu.fs
abbrev FY:Stmt:=top 52
def A8:FnScope ["members","last","least","pairs","others"] ["members","last","least","pairs"] (JE FY):=Pu.fs
abbrev F1:Stmt:=top 53
def CJ:FnScope ["members","first","least","pairs","others"] ["members","first","least","pairs"] (JE F1):=Pu.fs
abbrev Fx:Stmt:=top 54
def NX:FnScope ["strips","wishes","pairs","least","members","lasts"] ["strips","wishes","pairs"] (JE Fx):=Pu.fs
abbrev Sy:Stmt:=top 56
def K9:FnScope ["strips","wishes","pairs","least","members","order","firsts","best"] ["strips","wishes"] (JE Sy):=Pu.fs
abbrev FD:Stmt:=inClass (top 60) 0
def Zcg:FnScope ["self","strips"] ["self","strips"] (JE FD):=Pu.fs
abbrev Sq:Stmt:=inClass (top 60) 1
def Hl:FnScope ["self"] ["self"] (JE Sq):=Pu.fs
abbrev Bs:Stmt:=inClass (top 60) 2
def Ma:FnScope ["self"] ["self"] (JE Bs):=Pu.fs
abbrev FS:Stmt:=inClass (top 60) 4
def HE:FnScope ["self"] ["self"] (JE FS):=Pu.fs
abbrev B8:Stmt:=inClass (top 60) 5
def Zan:FnScope ["self","deed","field","wishes"] ["self","deed","field","wishes"] (JE B8):=Pu.fs
abbrev Bm:Stmt:=inClass (top 60) 6
def Dp:FnScope ["self","place","holder","field"] ["self","place","holder"] (JE Bm):=Pu.fs
abbrev Bb:Stmt:=inClass (top 60) 7
def GP:FnScope ["self","place","width","field"] ["self","place","width"] (JE Bb):=Pu.fs
abbrev SO:Stmt:=inClass (top 60) 8
def ER:FnScope ["self","place","field"] ["self","place"] (JE SO):=Pu.fs
abbrev Fc:Stmt:=inClass (top 60) 9
def A6:FnScope ["self","ahead","behind","wishes"] ["self","ahead","behind"] (JE Fc):=Pu.fs
abbrev Su:Stmt:=inClass (top 60) 10
def Dt:FnScope ["self","ahead","behind","wishes"] ["self","ahead","behind"] (JE Su):=Pu.fs
abbrev SL:Stmt:=inClass (top 60) 11
def Rz:FnScope ["self"] ["self"] (JE SL):=Pu.fs
abbrev Fk:Stmt:=inClass (top 60) 13
def Zaw:FnScope ["self"] ["self"] (JE Fk):=Pu.fs
abbrev SG:Stmt:=inClass (top 60) 14
def Lh:FnScope ["self"] ["self"] (JE SG):=Pu.fs
abbrev FH:Stmt:=inClass (top 60) 20
def Zei:FnScope ["self","order"] ["self","order"] (JE FH):=Pu.fs
abbrev SD:Stmt:=top 62
def RA:FnScope ["_law_script","_law_k"] ["_law_script","_law_k"] (JE SD):=Pu.fs
abbrev Fd:Stmt:=top 63
def Rb:FnScope ["_law_found"] ["_law_found"] (JE Fd):=Pu.fs
abbrev Fy:Stmt:=top 64
def Gc:FnScope ["_law_cell","_law_place_here","_law_first"] ["_law_cell","_law_place_here"] (JE Fy):=Pu.fs
abbrev F6:Stmt:=top 65
def Zde:FnScope ["_law_script","_law_k"] ["_law_script","_law_k"] (JE F6):=Pu.fs
abbrev Sv:Stmt:=top 66
def BK:FnScope ["_law_cell","_law_wide","_law_least"] ["_law_cell"] (JE Sv):=Pu.fs
abbrev SB:Stmt:=top 67
def Zce:FnScope ["_law_menu_here","_law_k"] ["_law_menu_here","_law_k"] (JE SB):=Pu.fs
abbrev BD:Stmt:=top 68
def Ag:FnScope ["_law_found","_law_due","_law_k"] ["_law_found","_law_due"] (JE BD):=Pu.fs
abbrev Fe:Stmt:=top 69
def Gh:FnScope ["_law_strips","_law_owners"] ["_law_strips"] (JE Fe):=Pu.fs
abbrev Bj:Stmt:=top 70
def FT:FnScope ["_law_order","_law_wishes","_law_one","_law_two"] ["_law_order","_law_wishes"] (JE Bj):=Pu.fs
abbrev FV:Stmt:=top 71
def GD:FnScope ["_law_ring","_law_holders","_law_wishes","_law_k"] ["_law_ring","_law_holders","_law_wishes"] (JE FV):=Pu.fs
abbrev Ba:Stmt:=top 72
def PV:FnScope ["_law_holders","_law_wishes","_law_left","_law_turn","_law_inside","_law_behind"] ["_law_holders","_law_wishes"] (JE Ba):=Pu.fs
abbrev FI:Stmt:=top 73
def Th:FnScope ["_law_strips","_law_deed_here","_law_place_here","_law_holder_here","_law_width_here","_law_parts"] ["_law_strips","_law_deed_here"] (JE FI):=Pu.fs
abbrev FG:Stmt:=top 74
def Gx:FnScope ["_law_wishes","_law_deed_here","_law_pair_here"] ["_law_wishes","_law_deed_here"] (JE FG):=Pu.fs
abbrev Fv:Stmt:=top 75
def Fj:FnScope ["_law_now","_law_deed_here","_law_step_here"] ["_law_now","_law_deed_here"] (JE Fv):=Pu.fs
abbrev Ss:Stmt:=top 76
def OL:FnScope ["_law_village","_law_deed_here"] ["_law_village","_law_deed_here"] (JE Ss):=Pu.fs
abbrev B6:Stmt:=top 77
def Fb:FnScope ["_law_village","_law_past","_law_deed_here","_law_step_here","_law_found"] ["_law_village","_law_past","_law_deed_here"] (JE B6):=Pu.fs
abbrev Ab:Stmt:=top 78
def KE:FnScope ["_law_script","_law_menu_here","_law_many","_law_rest","_law_strips","_law_k","_law_cell","_law_width_here"] ["_law_script","_law_menu_here","_law_many"] (JE Ab):=Pu.fs
abbrev S8:Stmt:=top 79
def M6:FnScope ["_law_script","_law_most"] ["_law_script","_law_most"] (JE S8):=Pu.fs
abbrev BV:Stmt:=top 80
def OY:FnScope ["_law_cell","_law_good"] ["_law_cell","_law_good"] (JE BV):=Pu.fs
abbrev Bv:Stmt:=top 81
def Zb7:FnScope ["_law_cell","_law_strips"] ["_law_cell","_law_strips"] (JE Bv):=Pu.fs
abbrev BX:Stmt:=top 82
def T7:FnScope ["_law_cell","_law_menu_here","_law_pool","_law_one","_law_two","_law_ahead"] ["_law_cell","_law_menu_here"] (JE BX):=Pu.fs
abbrev BU:Stmt:=top 83
def KH:FnScope ["_law_script","_law_menu_here","_law_seed","_law_many","_law_deeds","_law_k","_law_pair_here"] ["_law_script","_law_menu_here"] (JE BU):=Pu.fs
abbrev BQ:Stmt:=top 84
def HU:FnScope ["_law_cell","_law_strips","_law_place_here"] ["_law_cell","_law_strips","_law_place_here"] (JE BQ):=Pu.fs
abbrev FZ:Stmt:=top 85
def Pp:FnScope ["_law_cell","_law_menu_here","_law_now","_law_kind","_law_rest","_law_place_here","_law_more","_law_pair_here"] ["_law_cell","_law_menu_here","_law_now"] (JE FZ):=Pu.fs
abbrev S9:Stmt:=top 86
def F7:FnScope ["_law_village","_law_strips","_law_wishes","_law_ring","_law_holders"] ["_law_village","_law_strips","_law_wishes"] (JE S9):=Pu.fs
abbrev F0:Stmt:=top 87
def KG:FnScope ["_law_village","_law_strips","_law_wishes","_law_holders","_law_ring","_law_order","_law_told","e"] ["_law_village","_law_strips","_law_wishes"] (JE F0):=Pu.fs
abbrev Kd:Stmt:=top 88
def Ka:FnScope ["_law_script","_law_menu_here","_law_large","_law_strips","_law_village","_law_past","_law_deed_here","_law_cell","_law_pair_here"] ["_law_script"] (JE Kd):=Pu.fs
structure Glob (K:Za) (mg:Str->Option Value):Prop where
 any:mg "any"=none
 bool:mg "bool"=none
 enumerate:mg "enumerate"=none
 int:mg "int"=none
 isinstance:mg "isinstance"=none
 len:mg "len"=none
 list:mg "list"=none
 max:mg "max"=none
 min:mg "min"=none
 range:mg "range"=none
 set:mg "set"=none
 sorted:mg "sorted"=none
 sum:mg "sum"=none
 tuple:mg "tuple"=none
 HOLDERS:∃u,mg "HOLDERS"=some u/\RelV (.int 10) u
 STRIPS:∃u,mg "STRIPS"=some u/\RelV (.int 40) u
 WIDEST:∃u,mg "WIDEST"=some u/\RelV (.int 1000) u
 MOST_WISHES:∃u,mg "MOST_WISHES"=some u/\RelV (.int 20) u
 MOST_DEEDS:∃u,mg "MOST_DEEDS"=some u/\RelV (.int 100) u
 m_TooManyStrips:mg "TooManyStrips"=some (.ref (ExcR.JD mg "TooManyStrips"))
 g_TooManyStrips:ExcR.ErrGet K (ExcR.JD mg "TooManyStrips")
 m_BadHolder:mg "BadHolder"=some (.ref (ExcR.JD mg "BadHolder"))
 g_BadHolder:ExcR.ErrGet K (ExcR.JD mg "BadHolder")
 m_BadWidth:mg "BadWidth"=some (.ref (ExcR.JD mg "BadWidth"))
 g_BadWidth:ExcR.ErrGet K (ExcR.JD mg "BadWidth")
 m_NoStrip:mg "NoStrip"=some (.ref (ExcR.JD mg "NoStrip"))
 g_NoStrip:ExcR.ErrGet K (ExcR.JD mg "NoStrip")
 m_BadOrder:mg "BadOrder"=some (.ref (ExcR.JD mg "BadOrder"))
 g_BadOrder:ExcR.ErrGet K (ExcR.JD mg "BadOrder")
 m_OwnStrip:mg "OwnStrip"=some (.ref (ExcR.JD mg "OwnStrip"))
 g_OwnStrip:ExcR.ErrGet K (ExcR.JD mg "OwnStrip")
 m_BadPart:mg "BadPart"=some (.ref (ExcR.JD mg "BadPart"))
 g_BadPart:ExcR.ErrGet K (ExcR.JD mg "BadPart")
 m_UnlikeHolders:mg "UnlikeHolders"=some (.ref (ExcR.JD mg "UnlikeHolders"))
 g_UnlikeHolders:ExcR.ErrGet K (ExcR.JD mg "UnlikeHolders")
 m_TooWide:mg "TooWide"=some (.ref (ExcR.JD mg "TooWide"))
 g_TooWide:ExcR.ErrGet K (ExcR.JD mg "TooWide")
 m_LikeHolders:mg "LikeHolders"=some (.ref (ExcR.JD mg "LikeHolders"))
 g_LikeHolders:ExcR.ErrGet K (ExcR.JD mg "LikeHolders")
 m_WishStands:mg "WishStands"=some (.ref (ExcR.JD mg "WishStands"))
 g_WishStands:ExcR.ErrGet K (ExcR.JD mg "WishStands")
 m_TooManyWishes:mg "TooManyWishes"=some (.ref (ExcR.JD mg "TooManyWishes"))
 g_TooManyWishes:ExcR.ErrGet K (ExcR.JD mg "TooManyWishes")
 m_NoWish:mg "NoWish"=some (.ref (ExcR.JD mg "NoWish"))
 g_NoWish:ExcR.ErrGet K (ExcR.JD mg "NoWish")
 m_BookFull:mg "BookFull"=some (.ref (ExcR.JD mg "BookFull"))
 g_BookFull:ExcR.ErrGet K (ExcR.JD mg "BookFull")
 m_NothingDone:mg "NothingDone"=some (.ref (ExcR.JD mg "NothingDone"))
 g_NothingDone:ExcR.ErrGet K (ExcR.JD mg "NothingDone")
 m_Ringed:mg "Ringed"=some (.ref (ExcR.JD mg "Ringed"))
 r_Ringed:∃g,ExcR.ErrI K (ExcR.JD mg "Ringed") g
 x_Ringed:PySem.W.exmOne K (.ref (ExcR.JD mg "Ringed")) (.ref (ExcR.JD mg "Ringed"))=some true
 m_Village:mg "Village"=some (.ref (ExcR.JD mg "Village"))
 cl_Village:Cls K (ExcR.JD mg "Village")
 n_Village_book:NoAttr K (ExcR.JD mg "Village") "book"
 n_Village_fields:NoAttr K (ExcR.JD mg "Village") "fields"
 n_Village_wished:NoAttr K (ExcR.JD mg "Village") "wished"
def Tx:Pu.FldAt "book" ["book","fields","wished"] 0:=.of (by decide +kernel) (by decide +kernel) rfl
def Za9:Pu.PutAt "book" []:=.of (by decide +kernel)
def BL:Pu.FldAt "fields" ["book","fields","wished"] 1:=.of (by decide +kernel) (by decide +kernel) rfl
def RT:Pu.PutAt "fields" ["book"]:=.of (by decide +kernel)
def B9:Pu.FldAt "wished" ["book","fields","wished"] 2:=.of (by decide +kernel) (by decide +kernel) rfl
def Zel:Pu.PutAt "wished" ["book","fields"]:=.of (by decide +kernel)
def K5:Pu.NoFld "strips" ["book","fields","wished"]:=.of (by decide +kernel)
def KF:Pu.NoFld "wishes" ["book","fields","wished"]:=.of (by decide +kernel)
def TX:Pu.NoFld "check_room" ["book","fields","wished"]:=.of (by decide +kernel)
def Nl:Pu.NoFld "enter" ["book","fields","wished"]:=.of (by decide +kernel)
def Zbu:Pu.NoFld "sell" ["book","fields","wished"]:=.of (by decide +kernel)
def Iv:Pu.NoFld "part" ["book","fields","wished"]:=.of (by decide +kernel)
def Mn:Pu.NoFld "unite" ["book","fields","wished"]:=.of (by decide +kernel)
def RG:Pu.NoFld "wish" ["book","fields","wished"]:=.of (by decide +kernel)
def O2:Pu.NoFld "drop" ["book","fields","wished"]:=.of (by decide +kernel)
def MP:Pu.NoFld "take_back" ["book","fields","wished"]:=.of (by decide +kernel)
def Eo:Pu.NoFld "ring" ["book","fields","wished"]:=.of (by decide +kernel)
def RN:Pu.NoFld "order" ["book","fields","wished"]:=.of (by decide +kernel)
def Zec:Pu.NoFld "broken" ["book","fields","wished"]:=.of (by decide +kernel)
end T
namespace M
open PySem PySem.Spec PyProof.Rows L2 Own Pu
def O5:Pc:=fun ds R X=>∃h:Int,ds=[.int h]/\U5 (PJ h) X (R (.sh .non))
def Fi(h:Int):Option Str:=if 1<=h/\h<=1000 then none else some "BadWidth"
def Hx:Pc:=fun ds R X=>∃h:Int,ds=[.int h]/\U5 (Fi h) X (R (.sh .non))
def EO(_:Za):Sp:=fun vs H Q _=>∃(l:Addr) (ps:List (Int×Int)),vs=[.ref l]/\LAt Xz H l ps/\Field ps/\ps.length<=50/\
 ∀(q:Addr) (H':Hp),H q=none->Same H H'->H' q=some (.lst ((JX ps).map V.int))->Q (.ref q) H'
def E3:Pc:=fun ds R _=>∃ps:List (Int×Int),ds=[.lst (ps.map prD)]/\Field ps/\ps.length<=50/\R (.own ((JX ps).map D.int))
def P3{P:Program}{w:World}{K:Za}{mg:Str->Option Value}{base:Heap}(C:Callee P w K mg base CX0 1 "holders_of" ["strips"] (EO K)):Callee P w K mg base CX0 1 "holders_of" ["strips"] (Pu.spOf mg E3 K):=OE C fun ds R X vs H Q E r hc hQ hX=>by
 obtain⟨ps,rfl,hF,hz,hR⟩:=hc;obtain⟨v,rfl,r1⟩:=r.one_inv;obtain⟨a,rfl,ha⟩:=r1.pairs_inv;exact⟨a,ps,rfl,ha,hF,hz,fun q H' nq S h=>hQ _ _ H' hR S (Zcx nq h)⟩
def LF:Pc:=fun ds R _=>∃(ps:List (Int×Int)) (x y:Int),ds=[.lst (ps.map prD),.int x,.int y]/\Field ps/\R (.sh (.int (pcM ps x y ps.length)))
def LO:Pc:=fun ds R X=>∃(ps:List (Int×Int)) (p:Int),ds=[.lst (ps.map prD),.int p]/\(if p<1\/(ps.length:Int)<=p then X "NoStrip" else R (.sh .non))
def KR(os:List Int)(q:Int×Int):Bool:=decide (q.1∈os)&&decide (q.2∈os.take (os.idxOf q.1))
def Zd2:Pc:=fun ds R _=>∃(os:List Int) (ws:List (Int×Int)),ds=[.lst (os.map D.int),.lst (ws.map prD)]/\os.Nodup/\os.length<=50/\ws.length<=50/\R (.own ((ws.filter (KR os)).map prD))
def Zek:Pc:=fun ds R _=>∃(l:Int) (ps:List (List Int)) (ls:List Int) (ws:List (Int×Int)),ds=[.lst (ps.map (em l)),.lst (ls.map D.int),.lst (ws.map prD)]/\ps.Pairwise sl/\ls.Pairwise (· < ·)/\(∀p∈ps,p.length<=100)/\ls.length<=100/\
 ∀lg,LG ws l (fun p h=>p∈ps/\h∈ls) lg->lg.length<=ls.length->R (.own (lg.map (em l)))
def Zab:Pc:=fun ds R X=>∃(ps:List (Int×Int)) (p:Int),ds=[plD ps,.int p]/\U5 (NP ps p) X (R (.sh .non))
def RP:Pc:=fun ds R X=>∃(ws:List (Int×Int)) (a b:Int),ds=[plD ws,.int a,.int b]/\ws.length<=1000/\U5 (UE ws a b) X (R (.own ((PL ws a b).map prD)))
def Ip:Pc:=fun ds R _=>∃hs:List Int,ds=[.lst (hs.map D.int)]/\hs.length<=10/\R (.own ((Ul hs).map tD))
def Le:Pc:=fun ds R _=>∃(ms:List Int) (h:Int),ds=[tD ms,.int h]/\ms.length<=1000/\R (.sh (tD (JZ ms h)))
def IQ:Pc:=fun ds R _=>∃(ms:List Int) (h:Int) (ws:List (Int×Int)),ds=[tD ms,.int h,.lst (ws.map prD)]/\ws.length<=50/\R (.sh (.bl (Kl ws ms h)))
def Lz:Pc:=fun ds R _=>∃(ms:List Int) (h:Int) (ws:List (Int×Int)),ds=[tD ms,.int h,.lst (ws.map prD)]/\ws.length<=50/\R (.sh (.bl (firstM ws ms h)))
def Zba(C:Addr):Pc:=fun ds R _=>∃(bk:List (Str×List Int)) (fs ws:List (List (Int×Int))) (f:List (Int×Int)),ds=[vilD C bk (fs++[f]) ws]/\R (.own (f.map prD))
def Zai(C:Addr):Pc:=fun ds R _=>∃(bk:List (Str×List Int)) (fs ws:List (List (Int×Int))) (f:List (Int×Int)),ds=[vilD C bk fs (ws++[f])]/\R (.own (f.map prD))
def KZ(bk:List (Str×List Int)):Option Str:=if 100<=bk.length then some "BookFull" else none
def M5(C:Addr):Pc:=fun ds R X=>∃(bk:List (Str×List Int)) (fs ws:List (List (Int×Int))),ds=[vilD C bk fs ws]/\U5 (KZ bk) X (R (.sh .non))
def Lf(C:Addr):Pw:=fun o ss R _=>∃(x b1 b2 b3:Addr) (bk:List (Str×List Int)) (fs ws:List (List (Int×Int))) (q:Str×List Int) (f w:List (Int×Int)),o=vO C x b1 b2 b3 bk fs ws/\ss=[.sh (dD q),.sh (plD f),.sh (plD w)]/\bk.length<=1000/\fs.length<=1000/\ws.length<=1000/\
 R (vO C x b1 b2 b3 (bk++[q]) (fs++[f]) (ws++[w])) (.int (bk.length+1))
def MU(C:Addr):Pw:=fun o ss R X=>∃(x b1 b2 b3:Addr) (bk:List (Str×List Int)) (fs ws:List (List (Int×Int))),o=vO C x b1 b2 b3 bk fs ws/\ss=[]/\fs.length=bk.length+1/\ws.length=bk.length+1/\
 (bk=[]->X (vO C x b1 b2 b3 bk fs ws) "NothingDone")/\∀b0 q,bk=b0++[q]->R (vO C x b1 b2 b3 b0 fs.dropLast ws.dropLast) (dD q)
def Zes:Pc:=fun ds R _=>∃(ns:List Int) (k:Int),ds=[.scr ns,.int k]/\0<=k/\R (.sh (.int (ns.getD k.toNat 0)))
def Ms:Pc:=fun ds R _=>∃i:Int,ds=[.int i]/\R (.sh (.bl true))
def Zb1:Pc:=fun ds R _=>∃c p:Int,ds=[.int c,.int p]/\R (.sh (.int (mixP c p)))
def Zef:Pc:=fun ds R _=>∃c:Int,ds=[.int c]/\∀m,Menu m->R (.own (m.map D.int))
def RL:Pc:=fun ds R _=>∃(m:List Int) (k:Int),ds=[.lst (m.map D.int),.int k]/\Menu m/\∀h:Int,1<=h->h<=10->h=Hw m k->R (.sh (.int h))
def RE:Pc:=fun ds R _=>∃ps:List (Int×Int),ds=[.lst (ps.map prD)]/\ps.length<=50/\R (.own ((JX ps).map D.int))
def badM(os:List Int)(q:Int×Int):Bool:=decide (q.1∈os)&&(decide (q.2∈os)&&decide (os.idxOf q.2<os.idxOf q.1))
def Zeb:Pc:=fun ds R _=>∃(os:List Int) (ws:List (Int×Int)),ds=[.lst (os.map D.int),.lst (ws.map prD)]/\((∀q∈ws,badM os q=false)->R (.sh (.bl true)))/\((∃q∈ws,badM os q=true)->R (.sh (.bl false)))
def Rf:Pc:=fun ds R _=>∃(hs:List Int) (ws:List (Int×Int)),ds=[.lst (hs.map D.int),.lst (ws.map prD)]/\hs.length<=50/\ws.length<=50/\R (.sh (.bl (decide (Uk ws hs hs.length=[]))))
def LU:Pq:=fun ss R _=>∃(f:List (Int×Int)) (x:Dd),ss=[.sh (plD f),.sh (dD x.q)]/\x.land=true/\f.length<=40/\R (.own [.int (codeN (x.err f [])),plD (x.fld' f)])
def MH:Pq:=fun ss R _=>∃(w:List (Int×Int)) (x:Dd),ss=[.sh (plD w),.sh (dD x.q)]/\x.land=false/\w.length<=20/\R (.own [.int (codeN (x.err [] w)),plD (x.wsh' w)])
def HH:Pc:=fun ds R _=>∃c g:Int,ds=[.int c,.int g]/\∀v:Int,R (.sh (.int v))
def Zds:Pc:=fun ds R _=>∃(c:Int) (ps:List (Int×Int)),ds=[.int c,plD ps]/\ps.length<=1000/\∀v:Int,R (.sh (.int v))
def Zd0:Pc:=fun ds R _=>∃(c:Int) (ps:List (Int×Int)) (p:Int),ds=[.int c,plD ps,.int p]/\ps.length<=1000/\Field ps/\∀v:Int,R (.sh (.int v))
def ML:Pc:=fun ds R X=>∃ps:List (Int×Int),ds=[plD ps]/\ps.length<=1000/\U5 (PP ps) X (R (.sh .non))
def My:Pc:=fun ds R X=>∃(ps:List (Int×Int)) (os:List Int),ds=[plD ps,.lst (os.map D.int)]/\Field ps/\ps.length<=50/\os.length<64/\U5 (Ph ps os) X (R (.sh .non))
def Oh:Pc:=fun ds R _=>∃(l:Int) (hs:List Int) (ws:List (Int×Int)),ds=[.int l,.lst (hs.map D.int),.lst (ws.map prD)]/\hs.Nodup/\hs.length<=50/\∀r,RF hs ws l r->r.length<=60->R (.sh (.lst (r.map D.int)))
def Zeo:Pc:=fun ds R X=>∃(ps:List (Int×Int)) (p h:Int),ds=[plD ps,.int p,.int h]/\ps.length<=1000/\U5 (Xp ps p h) X (R (.own (Kk ps p h |>.map prD)))
def OI:Pc:=fun ds R X=>∃(ps:List (Int×Int)) (p w:Int),ds=[plD ps,.int p,.int w]/\ps.length<=1000/\U5 (UB ps p w) X (R (.own ((X9 ps p w).map prD)))
def Zby:Pc:=fun ds R X=>∃(ps:List (Int×Int)) (p:Int),ds=[plD ps,.int p]/\ps.length<=1000/\U5 (uniE ps p) X (R (.own ((uniL ps p).map prD)))
def Ld:Pc:=fun ds R X=>∃(ws:List (Int×Int)) (a b:Int),ds=[plD ws,.int a,.int b]/\ws.length<=1000/\U5 (U4 ws a b) X (R (.own ((ws++[(a,b)]).map prD)))
def L0:Pc:=fun ds R _=>∃ps:List (Int×Int),ds=[.lst (ps.map prD)]/\Field ps/\ps.length<=50/\
 ∀kvs:List (List Key×V),(∀x∈JX ps,∀y∈JX ps,valV kvs [.inl x,.inl y]=some (.int (pcM ps x y ps.length)))->R (.own (.dT kvs))
def Lv:Pc:=fun ds R _=>∃(ms:List Int) (l:Int) (le pa:List (List Key×V)) (c:Int->Int) (v:Int),ds=[tD ms,.int l,.dT le,.dT pa]/\ms.length<=1000/\valV le (kT (JZ ms l))=some (.int v)/\
 (∀m∈JZ ms l,valV pa [.inl m,.inl l]=some (.int (c m)))/\R (.sh (.int (v+((JZ ms l).map c).sum)))
def LX:Pc:=fun ds R _=>∃(ms:List Int) (l:Int) (le pa:List (List Key×V)) (c:Int->Int) (v:Int),ds=[tD ms,.int l,.dT le,.dT pa]/\ms.length<=1000/\valV le (kT (JZ ms l))=some (.int v)/\
 (∀m∈JZ ms l,valV pa [.inl l,.inl m]=some (.int (c m)))/\R (.sh (.int (v+((JZ ms l).map c).sum)))
def NN(bk:List (Str×List Int))(w:List (Int×Int))(a b:Int):Option Str:=if 100<=bk.length then some "BookFull" else UE w a b
def IE(C:Addr):Pw:=fun o ss R X=>∃(x b1 b2 b3:Addr) (bk:List (Str×List Int)) (fs ws:List (List (Int×Int))) (f w:List (Int×Int)) (p h:Int),o=vO C x b1 b2 b3 bk (fs++[f]) (ws++[w])/\ss=[.sh (.int p),.sh (.int h)]/\bk.length<=1000/\fs.length<=900/\ws.length<=900/\w.length<=1000/\
 U5 (NN bk w p h) (X (vO C x b1 b2 b3 bk (fs++[f]) (ws++[w]))) (R (vO C x b1 b2 b3 (bk++[(("drop" : Str),[p,h])]) (fs++[f]++[f]) (ws++[w]++[PL w p h])) (.int (bk.length+1)))
def Mb:Pc:=fun ds R _=>∃(ns:List Int) (k:Int),ds=[.scr ns,.int k]/\0<=k/\∀v:Int,R (.sh (.int v))
def Zbn:Pc:=fun ds R _=>∃xs:List Int,(ds=[.lst (xs.map D.int),.lst (xs.map D.int)]\/ds=[.fL xs,.lst (xs.map D.int)])/\xs.length<=1000000/\R (.sh (.bl true))
def Zaa:Pc:=fun ds R _=>∃(rs hs:List Int) (ws:List (Int×Int)),ds=[.lst (rs.map D.int),.lst (hs.map D.int),.lst (ws.map prD)]/\rs.length<=50/\Ring hs ws rs/\R (.sh (.bl true))
def Ia:Pq:=fun ss R _=>∃(f w:List (Int×Int)) (ds:List D) (x:Dd),ss=[.sh (.tup (plD f::plD w::ds)),.sh (dD x.q)]/\f.length<=40/\w.length<=20/\R (.own [.int (codeN (x.err f w)),plD (x.nf f w),plD (x.nw f w)])
def Zbk:Pc:=fun ds R _=>∃(ns m:List Int) (n:Int),ds=[.scr ns,.lst (m.map D.int),.int n]/\Menu m/\0<=n/\n<=1000/\∀ps:List (Int×Int),Field ps->ps.length=n.toNat->R (.own (ps.map prD))
def O3:Pc:=fun ds R _=>∃(ns:List Int) (n:Int),ds=[.scr ns,.int n]/\0<=n/\n<=1000/\∀cs:List Int,(cs.length:Int)<=n->R (.own (cs.map D.int))
def Hs:Pc:=fun ds R _=>∃(c:Int) (m:List Int),ds=[.int c,.lst (m.map D.int)]/\Menu m/\∀a b:Int,R (.sh (prD (a,b)))
def Zet:Pc:=fun ds R _=>∃(hs:List Int) (ws:List (Int×Int)),ds=[.lst (hs.map D.int),.lst (ws.map prD)]/\hs.Nodup/\hs.length<=50/\∀r,FR hs ws r->r.length<=60->R (.sh (.lst (r.map D.int)))
def Zca:Pc:=fun ds R _=>∃(ps ws:List (Int×Int)) (pa:List (List Key×V)) (c:Int->Int->Int),ds=[.lst (ps.map prD),.lst (ws.map prD),.dT pa]/\Field ps/\ps.length<=50/\ws.length<=50/\(∀q∈ws,q.1≠q.2)/\
 (∀x∈JX ps,∀y∈JX ps,valV pa [.inl x,.inl y]=some (.int (c x y)))/\AR (JX ps) ws/\∀kvs,Tab ws c (Ul (JX ps)) kvs->R (.own (.dT kvs))
def Zb0(C:Addr):Pw:=fun o ss R X=>∃(x:Addr) (ps:List (Int×Int)),o=.ins x C [] []/\ss=[.sh (plD ps)]/\ps.length<=1000/\U5 (PP ps) (X (.ins x C [] [])) (∀b1 b2 b3,R (vO C x b1 b2 b3 [] [ps] [[]]) .non)
def Sh(bk:List (Str×List Int))(f:List (Int×Int))(p h:Int):Option Str:=if 100<=bk.length then some "BookFull" else Xp f p h
def Zd5(C:Addr):Pw:=fun o ss R X=>∃(x b1 b2 b3:Addr) (bk:List (Str×List Int)) (fs ws:List (List (Int×Int))) (f w:List (Int×Int)) (p h:Int),o=vO C x b1 b2 b3 bk (fs++[f]) (ws++[w])/\ss=[.sh (.int p),.sh (.int h)]/\bk.length<=1000/\fs.length<=900/\ws.length<=900/\f.length<=1000/\
 U5 (Sh bk f p h) (X (vO C x b1 b2 b3 bk (fs++[f]) (ws++[w]))) (R (vO C x b1 b2 b3 (bk++[(("sell" : Str),[p,h])]) (fs++[f]++[Kk f p h]) (ws++[w]++[w])) (.int (bk.length+1)))
def Sk(bk:List (Str×List Int))(f:List (Int×Int))(p h:Int):Option Str:=if 100<=bk.length then some "BookFull" else UB f p h
def Zdn(C:Addr):Pw:=fun o ss R X=>∃(x b1 b2 b3:Addr) (bk:List (Str×List Int)) (fs ws:List (List (Int×Int))) (f w:List (Int×Int)) (p h:Int),o=vO C x b1 b2 b3 bk (fs++[f]) (ws++[w])/\ss=[.sh (.int p),.sh (.int h)]/\bk.length<=1000/\fs.length<=900/\ws.length<=900/\f.length<=1000/\
 U5 (Sk bk f p h) (X (vO C x b1 b2 b3 bk (fs++[f]) (ws++[w]))) (R (vO C x b1 b2 b3 (bk++[(("part" : Str),[p,h])]) (fs++[f]++[X9 f p h]) (ws++[w]++[w])) (.int (bk.length+1)))
def NK(bk:List (Str×List Int))(f:List (Int×Int))(p:Int):Option Str:=if 100<=bk.length then some "BookFull" else uniE f p
def RQ(C:Addr):Pw:=fun o ss R X=>∃(x b1 b2 b3:Addr) (bk:List (Str×List Int)) (fs ws:List (List (Int×Int))) (f w:List (Int×Int)) (p:Int),o=vO C x b1 b2 b3 bk (fs++[f]) (ws++[w])/\ss=[.sh (.int p)]/\bk.length<=1000/\fs.length<=900/\ws.length<=900/\f.length<=1000/\
 U5 (NK bk f p) (X (vO C x b1 b2 b3 bk (fs++[f]) (ws++[w]))) (R (vO C x b1 b2 b3 (bk++[(("unite" : Str),[p])]) (fs++[f]++[uniL f p]) (ws++[w]++[w])) (.int (bk.length+1)))
def NJ(bk:List (Str×List Int))(w:List (Int×Int))(a b:Int):Option Str:=if 100<=bk.length then some "BookFull" else U4 w a b
def OU(C:Addr):Pw:=fun o ss R X=>∃(x b1 b2 b3:Addr) (bk:List (Str×List Int)) (fs ws:List (List (Int×Int))) (f w:List (Int×Int)) (p h:Int),o=vO C x b1 b2 b3 bk (fs++[f]) (ws++[w])/\ss=[.sh (.int p),.sh (.int h)]/\bk.length<=1000/\fs.length<=900/\ws.length<=900/\w.length<=1000/\
 U5 (NJ bk w p h) (X (vO C x b1 b2 b3 bk (fs++[f]) (ws++[w]))) (R (vO C x b1 b2 b3 (bk++[(("wish" : Str),[p,h])]) (fs++[f]++[f]) (ws++[w]++[w++[(p,h)]])) (.int (bk.length+1)))
def MM(C:Addr):Pc:=fun ds R X=>∃(bk:List (Str×List Int)) (fs ws:List (List (Int×Int))) (f w:List (Int×Int)) (os:List Int),ds=[vilD C bk (fs++[f]) (ws++[w]),.lst (os.map D.int)]/\Field f/\f.length<=50/\os.length<64/\w.length<=50/\U5 (Ph f os) X (R (.own ((w.filter (KR os)).map prD)))
def Zer:Pc:=fun ds R _=>∃(ns m:List Int),ds=[.scr ns,.lst (m.map D.int)]/\Menu m/\∀qs:List (Int×Int),qs.length<=24->R (.own (qs.map fun q=>dD (Dd.wish q.1 q.2).q))
def MA:Pc:=fun ds R _=>∃(c:Int) (m:List Int) (f w:List (Int×Int)) (es:List D),ds=[.int c,.lst (m.map D.int),.tup (plD f::plD w::es)]/\Menu m/\f.length<=1000/\Field f/\w.length<=1000/\(∀x:Dd,R (.sh (dD x.q)))/\R (.sh (.tup [.str "back"]))
def Mq:Pc:=fun ds R X=>∃(ps ws:List (Int×Int)),ds=[.lst (ps.map prD),.lst (ws.map prD)]/\Field ps/\ps.length<=50/\(∀q∈ws,q.1≠q.2)/\BZ (JX ps) ws X (R (.sh .non))
def Lb(C:Addr):Pc:=fun ds R _=>∃(bk:List (Str×List Int)) (fs ws:List (List (Int×Int))) (f w:List (Int×Int)),ds=[vilD C bk (fs++[f]) (ws++[w])]/\Field f/\f.length<=50/\∀r,FR (JX f) w r->r.length<=60->R (.sh (.lst (r.map D.int)))
def B3(bk:List (Str×List Int))(f w:List (Int×Int))(d:Dd):Option Str:=if 100<=bk.length then some "BookFull" else d.err f w
def MJ(C:Addr):Pw:=fun o ss R X=>∃(x b1 b2 b3:Addr) (bk:List (Str×List Int)) (fs ws:List (List (Int×Int))) (f w:List (Int×Int)) (d:Dd),o=vO C x b1 b2 b3 bk (fs++[f]) (ws++[w])/\ss=[.sh (dD d.q)]/\bk.length<=1000/\fs.length<=900/\ws.length<=900/\f.length<=1000/\w.length<=1000/\
 U5 (B3 bk f w d) (X (vO C x b1 b2 b3 bk (fs++[f]) (ws++[w]))) (R (vO C x b1 b2 b3 (bk++[d.q]) (fs++[f]++[d.fld f]) (ws++[w]++[d.wsh w])) (.int (bk.length+1)))
def Mt:Pc:=fun ds R X=>∃(ps ws:List (Int×Int)),ds=[.lst (ps.map prD),.lst (ws.map prD)]/\Field ps/\ps.length<=50/\ws.length<=50/\(∀q∈ws,q.1≠q.2)/\BZ (JX ps) ws X (∀o,Best ws (pcc ps) (JX ps) o->R (.own (o.map D.int)))
def Zcu(C:Addr):Pw2:=fun o1 o2 ss R _=>∃(x b1 b2 b3 a:Addr) (f0:List (Int×Int)) (hs:Hist) (q:D),o1=vO C x b1 b2 b3 (bkH hs) (fsH f0 hs) (wsH hs)/\o2=.lsA a (U9 f0 hs)/\ss=[.sh q]/\hs.length<100/\FineH f0 hs/\
 ((q=.tup [.str "back"]/\R (vO C x b1 b2 b3 (bkH hs.dropLast) (fsH f0 hs.dropLast) (wsH hs.dropLast)) (.lsA a (U9 f0 hs.dropLast)) (.bl true))\/
  ∃d:Dd,q=dD d.q/\R (vO C x b1 b2 b3 (bkH (addH f0 hs d)) (fsH f0 (addH f0 hs d)) (wsH (addH f0 hs d))) (.lsA a (U9 f0 (addH f0 hs d))) (.bl true))
def MG(C:Addr):Pc:=fun ds R _=>∃(bk:List (Str×List Int)) (fs ws:List (List (Int×Int))) (f w:List (Int×Int)),ds=[vilD C bk (fs++[f]) (ws++[w]),plD f,plD w]/\Field f/\f.length<=50/\w.length<=50/\(∀q∈w,q.1≠q.2)/\R (.sh (.bl true))
def RK(C:Addr):Pc:=fun ds R X=>∃(bk:List (Str×List Int)) (fs ws:List (List (Int×Int))) (f w:List (Int×Int)),ds=[vilD C bk (fs++[f]) (ws++[w])]/\Field f/\f.length<=50/\w.length<=50/\(∀q∈w,q.1≠q.2)/\BZ (JX f) w X (∀o,Best w (pcc f) (JX f) o->R (.own (o.map D.int)))
def Zbx(C:Addr):Pc:=fun ds R _=>∃(bk:List (Str×List Int)) (fs ws:List (List (Int×Int))) (f w:List (Int×Int)),ds=[vilD C bk (fs++[f]) (ws++[w]),plD f,plD w]/\Field f/\f.length<=50/\w.length<=50/\(∀q∈w,q.1≠q.2)/\R (.sh (.bl true))
variable (P:Program) (w:World) (K:Za) (mg:Str->Option Value) (base:Heap)
abbrev Zc6:Prop:=Pu.CalleeM P w K mg base CX0 1 (ExcR.ErrI K (ExcR.JD mg "Ringed")) ["self","members"] (ExcR.Tu K)
abbrev N9:Prop:=Callee P w K mg base (ExcR.CXe P w) 1 "check_holder" ["holder"] (Pu.spOf mg O5 K)
abbrev EC:Prop:=Callee P w K mg base (ExcR.CXe P w) 1 "check_width" ["width"] (Pu.spOf mg Hx K)
abbrev PN:Prop:=Callee P w K mg base CX0 1 "holders_of" ["strips"] (Pu.spOf mg E3 K)
abbrev Gm:Prop:=Callee P w K mg base CX0 1 "pair_cost" ["strips","ahead","behind"] (Pu.spOf mg LF K)
abbrev Ge:Prop:=Callee P w K mg base (ExcR.CXe P w) 1 "check_neighbours" ["strips","place"] (Pu.spOf mg LO K)
abbrev EV:Prop:=Callee P w K mg base CX0 1 "broken_wishes" ["order","wishes"] (Pu.spOf mg Zd2 K)
abbrev Ej:Prop:=Callee P w K mg base CX0 1 "longer_paths" ["paths","left","wishes"] (Pu.spOf mg Zek K)
abbrev SM:Prop:=Callee P w K mg base (ExcR.CXe P w) 1 "check_place" ["strips","place"] (Pu.spOf mg Zab K)
abbrev D9:Prop:=Callee P w K mg base (ExcR.CXe P w) 1 "without_wish" ["wishes","ahead","behind"] (Pu.spOf mg RP K)
abbrev DU:Prop:=Callee P w K mg base CX0 1 "sets_of" ["holders"] (Pu.spOf mg Ip K)
abbrev NW:Prop:=Callee P w K mg base CX0 1 "without" ["members","holder"] (Pu.spOf mg Le K)
abbrev Eu:Prop:=Callee P w K mg base CX0 1 "may_lie_last" ["members","holder","wishes"] (Pu.spOf mg IQ K)
abbrev DV:Prop:=Callee P w K mg base CX0 1 "may_lie_first" ["members","holder","wishes"] (Pu.spOf mg Lz K)
abbrev Kw:Prop:=Pu.CalleeM P w K mg base CX0 1 (Meth K (ExcR.JD mg "Village") "strips") ["self"] (Pu.spOf mg (Zba (ExcR.JD mg "Village")) K)
abbrev Kq:Prop:=Pu.CalleeM P w K mg base CX0 1 (Meth K (ExcR.JD mg "Village") "wishes") ["self"] (Pu.spOf mg (Zai (ExcR.JD mg "Village")) K)
abbrev P7:Prop:=Pu.CalleeM P w K mg base (ExcR.CXe P w) 1 (Meth K (ExcR.JD mg "Village") "check_room") ["self"] (Pu.spOf mg (M5 (ExcR.JD mg "Village")) K)
abbrev P1:Prop:=Pu.CalleeM P w K mg base CX0 1 (Meth K (ExcR.JD mg "Village") "enter") ["self","deed","field","wishes"] (Pu.spW mg (Lf (ExcR.JD mg "Village")) K)
abbrev DN:Prop:=Pu.CalleeM P w K mg base (ExcR.CXe P w) 1 (Meth K (ExcR.JD mg "Village") "take_back") ["self"] (Pu.spW mg (MU (ExcR.JD mg "Village")) K)
abbrev Py:Prop:=Callee P w K mg base CX0 1 "_law_at" ["_law_script","_law_k"] (Pu.spOf mg Zes K)
abbrev NZ:Prop:=Callee P w K mg base CX0 1 "_law_whole" ["_law_found"] (Pu.spOf mg Ms K)
abbrev Tf:Prop:=Callee P w K mg base CX0 1 "_law_mix" ["_law_cell","_law_place_here"] (Pu.spOf mg Zb1 K)
abbrev Dh:Prop:=Callee P w K mg base CX0 1 "_law_menu" ["_law_cell"] (Pu.spOf mg Zef K)
abbrev Tt:Prop:=Callee P w K mg base CX0 1 "_law_holder" ["_law_menu_here","_law_k"] (Pu.spOf mg RL K)
abbrev Fu:Prop:=Callee P w K mg base CX0 1 "_law_present" ["_law_strips"] (Pu.spOf mg RE K)
abbrev DR:Prop:=Callee P w K mg base CX0 1 "_law_kept" ["_law_order","_law_wishes"] (Pu.spOf mg Zeb K)
abbrev SK:Prop:=Callee P w K mg base CX0 1 "_law_no_ring" ["_law_holders","_law_wishes"] (Pu.spOf mg Rf K)
abbrev CI:Prop:=Callee P w K mg base CX0 1 "_law_field_step" ["_law_strips","_law_deed_here"] (Pu.spS mg LU K)
abbrev E6:Prop:=Callee P w K mg base CX0 1 "_law_wish_step" ["_law_wishes","_law_deed_here"] (Pu.spS mg MH K)
abbrev Bt:Prop:=Callee P w K mg base CX0 1 "_law_odd" ["_law_cell","_law_good"] (Pu.spOf mg HH K)
abbrev G8:Prop:=Callee P w K mg base CX0 1 "_law_place" ["_law_cell","_law_strips"] (Pu.spOf mg Zds K)
abbrev D7:Prop:=Callee P w K mg base CX0 1 "_law_width" ["_law_cell","_law_strips","_law_place_here"] (Pu.spOf mg Zd0 K)
abbrev DW:Prop:=Callee P w K mg base (ExcR.CXe P w) 2 "check_strips" ["strips"] (Pu.spOf mg ML K)
abbrev EE:Prop:=Callee P w K mg base (ExcR.CXe P w) 2 "check_order" ["strips","order"] (Pu.spOf mg My K)
abbrev AC:Prop:=Callee P w K mg base CX0 2 "ring_from" ["least","holders","wishes"] (Pu.spOf mg Oh K)
abbrev EH:Prop:=Callee P w K mg base (ExcR.CXe P w) 2 "sold" ["strips","place","holder"] (Pu.spOf mg Zeo K)
abbrev EF:Prop:=Callee P w K mg base (ExcR.CXe P w) 2 "parted" ["strips","place","width"] (Pu.spOf mg OI K)
abbrev Eh:Prop:=Callee P w K mg base (ExcR.CXe P w) 2 "united" ["strips","place"] (Pu.spOf mg Zby K)
abbrev Du:Prop:=Callee P w K mg base (ExcR.CXe P w) 2 "with_wish" ["wishes","ahead","behind"] (Pu.spOf mg Ld K)
abbrev GB:Prop:=Callee P w K mg base CX0 2 "pair_costs" ["strips"] (Pu.spOf mg L0 K)
abbrev EX:Prop:=Callee P w K mg base CX0 2 "cost_with_last" ["members","last","least","pairs"] (Pu.spOf mg Lv K)
abbrev Ep:Prop:=Callee P w K mg base CX0 2 "cost_with_first" ["members","first","least","pairs"] (Pu.spOf mg LX K)
abbrev AS:Prop:=Pu.CalleeM P w K mg base (ExcR.CXe P w) 2 (Meth K (ExcR.JD mg "Village") "drop") ["self","ahead","behind"] (Pu.spW mg (IE (ExcR.JD mg "Village")) K)
abbrev Ae:Prop:=Callee P w K mg base CX0 2 "_law_draw" ["_law_script","_law_k"] (Pu.spOf mg Mb K)
abbrev FM:Prop:=Callee P w K mg base CX0 2 "_law_row" ["_law_found","_law_due"] (Pu.spOf mg Zbn K)
abbrev B5:Prop:=Callee P w K mg base CX0 2 "_law_is_ring" ["_law_ring","_law_holders","_law_wishes"] (Pu.spOf mg Zaa K)
abbrev Ee:Prop:=Callee P w K mg base CX0 2 "_law_step" ["_law_now","_law_deed_here"] (Pu.spS mg Ia K)
abbrev GW:Prop:=Callee P w K mg base CX0 2 "_law_start" ["_law_script","_law_menu_here","_law_many"] (Pu.spOf mg Zbk K)
abbrev E1:Prop:=Callee P w K mg base CX0 2 "_law_days" ["_law_script","_law_most"] (Pu.spOf mg O3 K)
abbrev NQ:Prop:=Callee P w K mg base CX0 2 "_law_pair" ["_law_cell","_law_menu_here"] (Pu.spOf mg Hs K)
abbrev Sw:Prop:=Callee P w K mg base CX0 3 "find_ring" ["holders","wishes"] (Pu.spOf mg Zet K)
abbrev Dv:Prop:=Callee P w K mg base CX0 3 "least_costs" ["strips","wishes","pairs"] (Pu.spOf mg Zca K)
abbrev Ga:Prop:=Pu.CalleeM P w K mg base (ExcR.CXe P w) 3 (Mk K (ExcR.JD mg "Village")) ["self","strips"] (Pu.spW mg (Zb0 (ExcR.JD mg "Village")) K)
abbrev Er:Prop:=Pu.CalleeM P w K mg base (ExcR.CXe P w) 3 (Meth K (ExcR.JD mg "Village") "sell") ["self","place","holder"] (Pu.spW mg (Zd5 (ExcR.JD mg "Village")) K)
abbrev Dy:Prop:=Pu.CalleeM P w K mg base (ExcR.CXe P w) 3 (Meth K (ExcR.JD mg "Village") "part") ["self","place","width"] (Pu.spW mg (Zdn (ExcR.JD mg "Village")) K)
abbrev GO:Prop:=Pu.CalleeM P w K mg base (ExcR.CXe P w) 3 (Meth K (ExcR.JD mg "Village") "unite") ["self","place"] (Pu.spW mg (RQ (ExcR.JD mg "Village")) K)
abbrev Cy:Prop:=Pu.CalleeM P w K mg base (ExcR.CXe P w) 3 (Meth K (ExcR.JD mg "Village") "wish") ["self","ahead","behind"] (Pu.spW mg (OU (ExcR.JD mg "Village")) K)
abbrev An:Prop:=Pu.CalleeM P w K mg base (ExcR.CXe P w) 3 (Meth K (ExcR.JD mg "Village") "broken") ["self","order"] (Pu.spOf mg (MM (ExcR.JD mg "Village")) K)
abbrev Em:Prop:=Callee P w K mg base CX0 3 "_law_opening" ["_law_script","_law_menu_here"] (Pu.spOf mg Zer K)
abbrev GG:Prop:=Callee P w K mg base CX0 3 "_law_deed" ["_law_cell","_law_menu_here","_law_now"] (Pu.spOf mg MA K)
abbrev AI:Prop:=Callee P w K mg base (ExcR.CXe P w) 4 "check_no_ring" ["strips","wishes"] (Pu.spOf mg Mq K)
abbrev BS:Prop:=Pu.CalleeM P w K mg base CX0 4 (Meth K (ExcR.JD mg "Village") "ring") ["self"] (Pu.spOf mg (Lb (ExcR.JD mg "Village")) K)
abbrev CM:Prop:=Callee P w K mg base (ExcR.CXe P w) 4 "_law_call" ["_law_village","_law_deed_here"] (Pu.spW mg (MJ (ExcR.JD mg "Village")) K)
abbrev Am:Prop:=Callee P w K mg base (ExcR.CXe P w) 5 "best_order" ["strips","wishes"] (Pu.spOf mg Mt K)
abbrev Ew:Prop:=Callee P w K mg base CX0 5 "_law_go" ["_law_village","_law_past","_law_deed_here"] (Pu.spW2 mg (Zcu (ExcR.JD mg "Village")) K)
abbrev GS:Prop:=Callee P w K mg base CX0 5 "_law_ring_told" ["_law_village","_law_strips","_law_wishes"] (Pu.spOf mg (MG (ExcR.JD mg "Village")) K)
abbrev EY:Prop:=Pu.CalleeM P w K mg base (ExcR.CXe P w) 6 (Meth K (ExcR.JD mg "Village") "order") ["self"] (Pu.spOf mg (RK (ExcR.JD mg "Village")) K)
abbrev Av:Prop:=Callee P w K mg base CX0 7 "_law_ring_or_kept" ["_law_village","_law_strips","_law_wishes"] (Pu.spOf mg (Zbx (ExcR.JD mg "Village")) K)
abbrev Rw:Prop:=Callee P w K mg base CX0 8 "law" ["_law_script"] (Pu.spOf mg Dc K)
end M
namespace M
open PySem PySem.Spec PyProof.Rows L2 Own Pu
def NA{os:List Int}(hn:os.Nodup){j:Nat}(hj:j<os.length):os.idxOf os[j]=j:=hn.idxOf_getElem j hj
def AB{os:List Int}{j:Nat}{z:Int}(hj:j<os.length):z∈os.take (j+1)↔z∈os.take j\/z=os[j]:=by
 rw[YD hj,Y4,Ym]
def Zdq{os:List Int}(hn:os.Nodup){x:Int}{j:Nat}(hx:x∈os):x∈os.take j↔os.idxOf x<j:=by
 obtain⟨k,hk,rfl⟩:=YE.mp hx;rw[NA hn hk];constructor
 ·intro h;obtain⟨m,hm,e⟩:=YE.mp h;rw[YJ]at hm;rw[Ws]at e;have a1:=NA hn (j:=m) (by omega);rw[e,NA hn hk]at a1;omega
 ·intro h;exact YE.mpr ⟨k,by rw[YJ];omega,by rw[Ws]⟩
def O4{os:List Int}(hn:os.Nodup)(q:Int×Int):KR os q=(decide (q.1∈os)&&decide (q.2∈os)&&decide (os.idxOf q.2<os.idxOf q.1)):=by
 unfold KR;by_cases h1:q.1∈os
 ·by_cases h2:q.2∈os
  ·simp only[h1,h2,decide_true,WO,Zdq hn h2]
  ·have:¬q.2∈os.take (os.idxOf q.1):=fun z=>h2 (WX z)
   simp[h1,h2,this]
 ·simp[h1]
def Pd(ps:List (List Int))(ls:List Int)(i j:Nat)(p:List Int)(h:Int):Prop:=(p∈ps.take i/\h∈ls)\/(ps[i]?=some p/\h∈ls.take j)
structure LGs (ws:List (Int×Int)) (l:Int) (P:List Int->Int->Prop) (ls:List Int) (lg:List (List Int)) (kvs:List (Key×V)):Prop where
 g:LG ws l P lg
 nd:(lg.map (JU l)).Nodup
 sub:∀h∈lg.map (JU l),h∈ls
 rc:∀h:Int,(valV kvs (.inl h)).isSome=true↔h∈lg.map (JU l)
 len:kvs.length<=lg.length
def LGs.len_le {ws:List (Int×Int)}{l:Int}{P:List Int->Int->Prop}{ls:List Int}{lg:List (List Int)}{kvs:List (Key×V)} (L:LGs ws l P ls lg kvs):lg.length<=ls.length:=by
 have:=TZ L.nd L.sub
 rwa[Yi]at this
def LG.congr {ws:List (Int×Int)}{l:Int}{P P':List Int->Int->Prop}{lg:List (List Int)} (h:∀p x,P p x↔P' p x) (G:LG ws l P lg):LG ws l P' lg:=
 ⟨fun q hq=>let ⟨p,x,a,b⟩:=G.mem q hq;⟨p,x,(h p x).mp a,b⟩,G.srt,fun p x a b=>G.has p x ((h p x).mpr a) b⟩
def LGs.congr {ws:List (Int×Int)}{l:Int}{P P':List Int->Int->Prop}{ls:List Int}{lg:List (List Int)}{kvs:List (Key×V)} (h:∀p x,P p x↔P' p x) (G:LGs ws l P ls lg kvs):LGs ws l P' ls lg kvs:=⟨G.g.congr h,G.nd,G.sub,G.rc,G.len⟩
def LGs.start {ps:List (List Int)}{ls:List Int}{ws:List (Int×Int)}{l:Int}:LGs ws l (Pd ps ls 0 0) ls [] []:=by
 refine⟨⟨(fun q hq=>by cases hq),List.Pairwise.nil,fun p h a=>?_⟩,WZ,(fun h hh=>by cases hh),(fun h=>by simp[valV]),Yr _⟩;rcases a with⟨a,_⟩|⟨_,a⟩
 ·rw[QB]at a;cases a
 ·rw[QB]at a;cases a
def LGs.skip {ps:List (List Int)}{ls:List Int}{ws:List (Int×Int)}{l:Int}{lg:List (List Int)}{kvs:List (Key×V)}{i j:Nat}{p:List Int}{h:Int} (hp:ps[i]?=some p) (hh:ls[j]?=some h) (hs:ps.Pairwise sl)
  (G:LGs ws l (Pd ps ls i j) ls lg kvs) (no:(valV kvs (.inl h)).isSome=true\/(JU l p,h)∉ws):LGs ws l (Pd ps ls i (j+1)) ls lg kvs:=by
 obtain⟨hj,ej⟩:=Y2.mp hh;obtain⟨hi,ei⟩:=Y2.mp hp;have tk:∀x,x∈ls.take (j+1)↔x∈ls.take j\/x=h:=fun x=>by rw[YD hj,Y4,Ym,ej]
 refine⟨⟨fun q hq=>?_,G.g.srt,fun p' x a b=>?_⟩,G.nd,G.sub,G.rc,G.len⟩
 ·obtain⟨p',x,a,b⟩:=G.g.mem q hq;exact⟨p',x,a.imp id fun z=>⟨z.1,(tk x).mpr (.inl z.2)⟩,b⟩
 ·rcases a with a|⟨a1,a2⟩
  ·exact G.g.has p' x (.inl a) b
  ·rcases(tk x).mp a2 with a2|rfl
   ·exact G.g.has p' x (.inr ⟨a1,a2⟩) b
   ·rw[hp]at a1;cases a1
    rcases no with no|no
    ·obtain⟨q,hq,e⟩:=YU.mp ((G.rc x).mp no);obtain⟨p'',x',c1,rfl,c2⟩:=G.g.mem q hq;have ex:x'=x:=by rw[Xw]at e;exact e
     subst ex;refine⟨p'',hq,?_⟩;rcases c1 with⟨c1,_⟩|⟨c1,_⟩
     ·obtain⟨m,hm,em'⟩:=YE.mp c1;rw[YJ]at hm;rw[Ws]at em'
      have:=YZ.mp hs m i (by omega) hi (by omega)
      rw[em',ei]at this;exact .inr this
     ·rw[hp]at c1;cases c1
      exact .inl rfl
    ·exact absurd b no
def LGs.put {ps:List (List Int)}{ls:List Int}{ws:List (Int×Int)}{l:Int}{lg:List (List Int)}{kvs:List (Key×V)}{i j:Nat}{p:List Int}{h:Int} (hp:ps[i]?=some p) (hh:ls[j]?=some h) (hs:ps.Pairwise sl) (hl:ls.Pairwise (· < ·))
  (G:LGs ws l (Pd ps ls i j) ls lg kvs) (new:(valV kvs (.inl h)).isSome=false) (hw:(JU l p,h)∈ws):LGs ws l (Pd ps ls i (j+1)) ls (lg++[p++[h]]) (putK kvs (.inl h) (.bl true)):=by
 obtain⟨hj,ej⟩:=Y2.mp hh;obtain⟨hi,ei⟩:=Y2.mp hp;have tk:∀x,x∈ls.take (j+1)↔x∈ls.take j\/x=h:=fun x=>by rw[YD hj,Y4,Ym,ej]
 have lh:JU l (p++[h])=h:=by rw[Xw];rfl
 have nh:h∉lg.map (JU l):=fun z=>by rw[(G.rc h).mpr z]at new;cases new
 refine⟨⟨fun q hq=>?_,?_,fun p' x a b=>?_⟩,?_,fun x hx=>?_,fun x=>?_,?_⟩
 ·rcases Y4.mp hq with hq|hq
  ·obtain⟨p',x,a,b⟩:=G.g.mem q hq;exact⟨p',x,a.imp id fun z=>⟨z.1,(tk x).mpr (.inl z.2)⟩,b⟩
  ·rw[Ym.mp hq];exact⟨p,h,.inr ⟨hp,(tk h).mpr (.inr rfl)⟩,rfl,hw⟩
 ·refine Qu.mpr ⟨G.g.srt,by simp,fun q hq q' hq'=>?_⟩;rw[Ym.mp hq'];obtain⟨p',x,a,rfl,b⟩:=G.g.mem q hq;rcases a with⟨a,_⟩|⟨a1,a2⟩
  ·obtain⟨m,hm,em'⟩:=YE.mp a;rw[YJ]at hm;rw[Ws]at em'
   have:=YZ.mp hs m i (by omega) hi (by omega)
   rw[em',ei]at this;exact Sx x h this
  ·rw[hp]at a1;cases a1
   obtain⟨m,hm,em'⟩:=YE.mp a2;rw[YJ]at hm;rw[Ws]at em'
   have:=YZ.mp hl m j (by omega) hj (by omega)
   rw[em',ej]at this;exact D8 this
 ·have old:∀p' x,Pd ps ls i j p' x->(JU l p',x)∈ws->∃p'',p''++[x]∈lg++[p++[h]]/\(p''=p'\/sl p'' p'):=fun p' x a b=>let ⟨p'',k1,k2⟩:=G.g.has p' x a b;⟨p'',Wo _ k1,k2⟩;rcases a with a|⟨a1,a2⟩
  ·exact old p' x (.inl a) b
  ·rcases(tk x).mp a2 with a2|rfl
   ·exact old p' x (.inr ⟨a1,a2⟩) b
   ·rw[hp]at a1;cases a1
    exact⟨p,YF _ (Ym.mpr rfl),.inl rfl⟩
 ·rw[Y5,Q8,lh];refine W1.mpr ⟨G.nd,by simp,fun a ha b hb=>?_⟩;rw[Ym.mp hb];rintro rfl;exact nh ha
 ·rw[Y5,Q8,lh]at hx;rcases Y4.mp hx with hx|hx
  ·exact G.sub x hx
  ·rw[Ym.mp hx,←ej];exact YC hj
 ·rw[Y5,Q8,lh,T9,Y4,Ym];by_cases e:x=h
  ·subst e;rw[Yn rfl];exact⟨fun _=>.inr rfl,fun _=>rfl⟩
  ·rw[Yo (fun z=>e (Sum.inl.inj z)),G.rc];exact⟨.inl,fun z=>z.elim id fun w=>absurd w e⟩
 ·rw[Yt]
  have:=TJ kvs (.inl h) (.bl true)
  have:=G.len
  simp;omega
def Gd{α:Type}{c:α->Bool}:∀{xs:List α}{x:α}{r:List α},xs.filter c=x::r->∃i,∃hi:i<xs.length,xs[i]=x/\c x=true/\∀j (hj:j<xs.length),j<i->c xs[j]=false
 |[],x,r,h=>by cases h
 |y::ys,x,r,h=>by
  by_cases hy:c y=true
  ·rw[List.filter_cons_of_pos hy]at h;cases h
   exact⟨0,by simp,rfl,hy,fun j _ hj=>by omega⟩
  ·rw[List.filter_cons_of_neg hy]at h;obtain⟨i,hi,e1,e2,e3⟩:=Gd h;refine⟨i+1,by simp;omega,by simpa using e1,e2,fun j hj hji=>?_⟩;cases j with
   |zero=>simpa using hy
   |succ j=>simpa using e3 j (by simpa using hj) (by omega)
def GX(c:Int->Bool):∀ws:List Int,ws.filterMap (fun q=>if c q=true then some (D.int q)else none)=(ws.filter c).map D.int:=Xt c D.int
def FRi(hs:List Int)(ws:List (Int×Int))(ns:List Int)(r:List Int):Prop:=
 (r=[]/\∀l∈ns,∀t,¬Xs hs ws l t)\/∃l t,r=l::t/\l∈ns/\Xs hs ws l t/\∀m∈ns,∀u,Xs hs ws m u->t.length<u.length\/(t.length=u.length/\(l<m\/(l=m/\(t=u\/sl t u))))
def FRi.keep {hs:List Int}{ws:List (Int×Int)}{ns r f:List Int}{l:Int} (h:FRi hs ws ns r) (hl:∀m∈ns,m<l) (hf:RF hs ws l f) (c:f=[]\/(r≠[]/\r.length<=f.length)):FRi hs ws (ns++[l]) r:=by
 rcases h with⟨rfl,h⟩|⟨l',t,rfl,h1,h2,h3⟩
 ·rcases c with rfl|⟨c,_⟩
  ·rcases hf with⟨_,hf⟩|⟨t,e,_⟩
   ·refine .inl ⟨rfl,fun m hm=>?_⟩;rcases Y4.mp hm with hm|hm
    ·exact h m hm
    ·rw[Ym.mp hm];exact hf
   ·cases e
  ·exact absurd rfl c
 ·refine .inr ⟨l',t,rfl,Wo _ h1,h2,fun m hm u hu=>?_⟩;rcases Y4.mp hm with hm|hm
  ·exact h3 m hm u hu
  ·rw[Ym.mp hm]at hu ⊢;rcases hf with⟨rfl,hf⟩|⟨s,rfl,_,hf⟩
   ·exact absurd hu (hf u)
   ·rcases c with c|⟨_,c⟩
    ·cases c
    ·have hl':=hl l' h1;simp at c;rcases hf u hu with z|⟨z,_⟩
     ·exact .inl (by omega)
     ·by_cases e:t.length<u.length
      ·exact .inl e
      ·exact .inr ⟨by omega,.inl hl'⟩
def FRi.take {hs:List Int}{ws:List (Int×Int)}{ns r f:List Int}{l:Int} (h:FRi hs ws ns r) (hl:∀m∈ns,m<l) (hf:RF hs ws l f) (c:f≠[]/\(r=[]\/f.length<r.length)):FRi hs ws (ns++[l]) f:=by
 rcases hf with⟨rfl,_⟩|⟨s,rfl,f1,f2⟩
 ·exact absurd rfl c.1
 ·refine .inr ⟨l,s,rfl,YF _ (Ym.mpr rfl),f1,fun m hm u hu=>?_⟩;rcases Y4.mp hm with hm|hm
  ·rcases h with⟨rfl,h⟩|⟨l',t,rfl,h1,h2,h3⟩
   ·exact absurd hu (h m hm u)
   ·rcases c.2 with c|c
    ·cases c
    ·simp at c;rcases h3 m hm u hu with z|⟨z,_⟩
     ·exact .inl (by omega)
     ·exact .inl (by omega)
  ·rw[Ym.mp hm]at hu ⊢;rcases f2 u hu with z|⟨z,z2⟩
   ·exact .inl z
   ·exact .inr ⟨z,.inr ⟨rfl,z2⟩⟩
def FRi.all {hs:List Int}{ws:List (Int×Int)}{ns r:List Int} (hp:∀z,z∈ns↔z∈hs) (h:FRi hs ws ns r):FR hs ws r:=by
 rcases h with⟨rfl,h⟩|⟨l,t,rfl,h1,h2,h3⟩
 ·exact .inl ⟨rfl,fun l hl=>h l ((hp l).mpr hl)⟩
 ·exact .inr ⟨l,t,rfl,(hp l).mp h1,h2,fun m hm=>h3 m ((hp m).mpr hm)⟩
def M3(γ:List (Option Pu.S)):Nat:=match γ[4]? with
 |some (some (Pu.S.sh (Pu.D.tup ds)))=>ds.length
 |_=>0
def HW{ws:List (Int×Int)}{o:List Int}(hk:Keeps ws o):∀q∈ws,badM o q=false:=fun q hq=>by
 cases hb:badM o q with
 |false=>rfl
 |true=>
  unfold badM at hb;rw[Y9,Y9]at hb;have h1:=Yp hb.1;have h2:=Yp hb.2.1;have h3:=Yp hb.2.2;have g1:=Qe.mpr h1;have g2:=Qe.mpr h2
  have:=YZ.mp hk _ _ g2 g1 h3
  rw[Q6 g2,Q6 g1]at this;exact absurd hq this
def Mi{ps:List (Int×Int)}{o ns:List Int}(ho:o.Perm (JX ps))(hp:ns.Perm o)(hs:ns.Pairwise (·<=·)):ns=JX ps:=
 Bz (T4 hs ((hp.trans ho).nodup_iff.mpr ((Ke ps).imp fun h=>Q9 h))) (Ke ps) fun z=>(hp.trans ho).mem_iff
end M
namespace T
open PySem PySem.Spec PyProof.Rows L2 Own M
section
variable {P:Program}{w:World}{K:Za}{mg:Str->Option Value}{base:Heap}
def HV(G:Glob K mg)(D:Pu.DefM K (ExcR.ErrI K (ExcR.JD mg "Ringed")) "__init__" "Ringed.__init__" Fg ["self","members"])
  : Pu.CalleeM P w K mg base CX0 1 (ExcR.ErrI K (ExcR.JD mg "Ringed")) ["self","members"] (ExcR.Tu K):=by
 refine D.ok (k:=0) R8 (fun vs H Q E h=>?_) (fun f cdv A outer s H vs Q E hr h=>?_)
 ·obtain⟨_,_,_,_,_,rfl,_⟩:=h;rfl
 ·exact⟨_,J9 (ExcR.OH (pv 0) (XS CT (by rfl) G.list boot_list (JQ (pv 1) Uh)) (by rfl)),ExcR.Zak h rfl⟩
def Me(G:Glob K mg)(D:Def K mg "holders_of" BJ ["strips"])
  : Callee P w K mg base CX0 1 "holders_of" ["strips"] (EO K):=by
 refine D.ok (k:=0) Zcl (fun vs H Q E h=>?_) (fun f cdv A outer s H vs Q E hr h=>?_)
 ·obtain⟨l,ps,rfl,⟨vs,hl,hv⟩,hF,hz,q⟩:=h;rfl
 ·obtain⟨l,ps,rfl,⟨vs,hl,hv⟩,hF,hz,q⟩:=h;refine⟨_,(J9 (JF (UI (E8 rfl) (by rfl) G.sorted boot_sorted (JQ (XS (Zc3 rfl) (by rfl) G.set boot_set (JQ (UR (N':=["holder","width"]) (φ:=[none,none]) rfl (Own.CompOk.of (by rfl)) (A2 (pv 0)) (fun _ _ _ _ _=>⟨(Kr (K:=K) (n:=2) rfl (UQ (B0 (i:=0) (show(["holder","width"]:List Str).Nodup from by decide +kernel) rfl (by first|exact Or.inl rfl|exact Or.inr rfl)) (UQ (B0 (i:=1) (show(["holder","width"]:List Str).Nodup from by decide +kernel) rfl (by first|exact Or.inl rfl|exact Or.inr rfl)) Kn))),XN,(pv 0)⟩)) Uh)) Uh)))),?_⟩
  have e1:=hv.1;refine⟨_,rfl,l,rfl,⟨_,SqL.of hl⟩,fun D nD=>OP (ds:=ps) (fun d=>some (V.int d.1)) (SqL.of hl) e1 nD (Yy hz (by decide)) (fun i x d H2 hx hd S k hk=>?_) ?_⟩
  ·obtain⟨d',hd',a,rfl,ha⟩:=hv.get hx;rw[hd]at hd';cases hd'
   exact⟨a,_,rfl,SqT.of (S _ _ ha),rfl,_,_,rfl,_,_,rfl,rfl,.skip (.skip .refl),_,rfl,hk⟩
  ·have em:ps.filterMap (fun d=>some (V.int d.1))=(ps.map (·.1)).map V.int:=by
    rw[Ql,Wk];rfl
   rw[em];have S1:Same H (upd H D (.lst ((ps.map (·.1)).map V.int))):=U0 nD;refine⟨D,ps.map (·.1),rfl,SqL.of Ug,by rw[Yi];omega,fun s1 n1=>?_⟩;have S2:=Own.Same.new (o:=SetH w s1 ((ps.map (·.1)).foldl SetR.addJ [])) S1 n1;refine⟨s1,_,rfl,?_,.inr Ug,fun r ns n2 hp hs=>?_⟩
   ·have:=Az (ps.map (·.1)) []
    rw[Yi]at this;simp at this ⊢;omega
   ·rw[Zal hF hp hs];exact q r _ (S2.free n2) (Own.Same.new S2 n2) Ug
end
open Pu
section
variable {P:Program}{w:World}{K:Za}{mg:Str->Option Value}{base:Heap}
def MO(G:Glob K mg)(DD:Def K mg "check_holder" BN ["holder"])
  : N9 P w K mg base:=by
 refine DD.ox (k:=0) LC (fun _ _ _ _ _ _ E hr=>⟨_,(J9 (JL (PW.pt (UF (JT Xa (pv 0) J6 (Ua _)) (UP (JT Xf (pv 0) (ExcR.X4 G.HOLDERS) (Ua _))))) (J9 (ExcR.Xe G.g_BadHolder.c G.m_BadHolder ExcR.Xb rfl (az (ExcR.pe_f (ExcR.XM (ExcR.Pa (ExcR.X4 G.HOLDERS) ExcR.Pj))))))
   JO)), (JP (UG (JG (Xc (J2 0) J4)) (JG (UY (J2 0) J4))) (UZ (sz (se_f (XG (KU J4 Pm))))) JN)⟩) (.a fun ds R X h=>?_)
 ·obtain⟨h,rfl,hR⟩:=h;refine⟨rfl,?_⟩;unfold PJ at hR;refine ite2 (fun g=>iteT ?_) (fun g=>?_)
  ·rw[Yo (by have:=Yp g;omega)]at hR;exact⟨by decide,by decide,by decide,by decide,by simp,hR⟩
  ·have g':¬h<1:=fun z=>g (Yl z);refine ite2 (fun g2=>?_) (fun g2=>?_)
   ·rw[Yo (by have:=Yp g2;omega)]at hR;exact⟨by decide,by decide,by decide,by decide,by simp,hR⟩
   ·have g2':¬10<h:=fun z=>g2 (Yl z);rw[Yn (by omega)]at hR;exact hR
def Zcr(G:Glob K mg)(DD:Def K mg "check_width" BF ["width"])
  : EC P w K mg base:=by
 refine DD.ox (k:=0) Of (fun _ _ _ _ _ _ E hr=>⟨_,(J9 (JL (PW.pt (UF (JT Xa (pv 0) J6 (Ua _)) (UP (JT Xf (pv 0) (ExcR.X4 G.WIDEST) (Ua _))))) (J9 (ExcR.Xe G.g_BadWidth.c G.m_BadWidth ExcR.Xb rfl (az (ExcR.pe_f (ExcR.XM (ExcR.Pa (ExcR.X4 G.WIDEST) ExcR.Pj))))))
   JO)), (JP (UG (JG (Xc (J2 0) J4)) (JG (UY (J2 0) J4))) (UZ (sz (se_f (XG (KU J4 Pm))))) JN)⟩) (.a fun ds R X h=>?_)
 ·obtain⟨h,rfl,hR⟩:=h;refine⟨rfl,?_⟩;unfold Fi at hR;refine ite2 (fun g=>iteT ?_) (fun g=>?_)
  ·rw[Yo (by have:=Yp g;omega)]at hR;exact⟨by decide,by decide,by decide,by decide,by simp,hR⟩
  ·have g':¬h<1:=fun z=>g (Yl z);refine ite2 (fun g2=>?_) (fun g2=>?_)
   ·rw[Yo (by have:=Yp g2;omega)]at hR;exact⟨by decide,by decide,by decide,by decide,by simp,hR⟩
   ·have g2':¬1000<h:=fun z=>g2 (Yl z);rw[Yn (by omega)]at hR;exact hR
def Zdj(G:Glob K mg)(DD:Def K mg "pair_cost" By ["strips","ahead","behind"])
  : Gm P w K mg base:=by
 refine DD.oz (k:=0) Pn (fun _ _ _ _ _ _ E hr=>⟨_,(J7 (Pu.pz 3 Pn.nd J6) (J7 (Pu.pz 4 Pn.nd J6) (J7 (UT YT rfl (Us (K:=K) (pv 0)) (Kr (K:=K) (n:=2) rfl (UQ (gz 5 Pn.nd) (UQ (gz 6 Pn.nd) Kn))) (J9 (JL (cq K hr (pv 5) (pv 2)) (J9 (EM (i:=3) Pn.nd rfl (by first|exact Or.inl rfl|exact Or.inr rfl) (pv 6) GC)) (J9 (JL (cq K hr (pv 5) (pv 1)) (J9 (EM (i:=4) Pn.nd rfl (by first|exact Or.inl rfl|exact Or.inr rfl) (JB PH (pv 3) (pv 6)) GC))
   JO))))) (J9 (JF (pv 4)))))), (J8 (JH J4 (JC 3)) (J8 (JH J4 (JC 4)) (J8 (JM 0 (UO [5,6] (XA (J2 0)) (K6 (Xm (JC 5) (Xm (JC 6) Kz))) (JP (JG (Uo (J2 5) (J2 2))) (Al (J2 6)) (JP (JG (Uo (J2 5) (J2 1))) (Al (P5 (J2 3) (J2 6))) JN)))) (Ki 4))))⟩) (.a fun ds R X h=>?_)
 ·obtain⟨ps,x,y,rfl,hF,hR⟩:=h;refine⟨rfl,?_⟩;refine⟨rfl,XC (xs:=ps) (emb:=prD) (fun i γ'=>γ'=[some (.bor (.lst (ps.map prD))),some (.sh (.int x)),some (.sh (.int y)),some (.sh (.int (tpM ps y i))),some (.sh (.int (pcM ps x y i))),none,none]) rfl ?_ ?_⟩
  ·rintro i hi γ' rfl;have hp:ps.getD i (0,0)=ps[i]:=by rw[Y1,Yj hi];rfl
   have hw:=hF _ (YC hi);have e1:tpM ps y (i+1)=tpM ps y i+(if ps[i].1=y then ps[i].2 else 0):=by simp only[tpM];rw[hp]
   have e2:pcM ps x y (i+1)=pcM ps x y i+(if x≠y/\ps[i].1=x then tpM ps y i*ps[i].2 else 0):=by simp only[pcM];rw[hp]
   rw[e1,e2];generalize ps[i]=p at hw;refine⟨rfl,ite2 (fun g=>?_) (fun g=>ite2 (fun g2=>?_) (fun g2=>?_))⟩
   ·have e:p.1=y:=Yp g;rw[Yn e,Yo (by rintro⟨z1,z2⟩;exact z1 (z2.symm.trans e)),Vs];rfl
   ·have e:¬p.1=y:=fun z=>g (Yl z);have e':p.1=x:=Yp g2;rw[Yo e,Yn ⟨fun z=>e (e'.trans z),e'⟩,Vs];exact⟨.inr ⟨by show -(2 ^ 64)<p.2;omega,by show p.2<2 ^ 64;omega⟩,rfl⟩
   ·have e:¬p.1=y:=fun z=>g (Yl z);have e':¬p.1=x:=fun z=>g2 (Yl z);rw[Yo e,Yo (by rintro⟨z1,z2⟩;exact e' z2),Vs,Vs];rfl
  ·rintro γ' rfl;exact hR
def Lp(G:Glob K mg)(DD:Def K mg "check_neighbours" Ff ["strips","place"])
  : Ge P w K mg base:=by
 refine DD.ox (k:=0) HX (fun _ _ _ _ _ _ E hr=>⟨_,(J9 (JL (PW.pt (UF (JT Xa (pv 1) J6 (Ua _)) (UP (JT P6 (pv 1) (ln K G.len (pv 0)) (Ua _))))) (J9 (ExcR.Xe G.g_NoStrip.c G.m_NoStrip ExcR.Xb rfl (az Um)))
   JO)), (JP (UG (JG (Xc (J2 1) J4)) (JG (PQ (J2 1) (U1 (sz (J2 0)))))) (UZ (sz Up)) JN)⟩) (.a fun ds R X h=>?_)
 ·obtain⟨ps,p,rfl,hR⟩:=h;refine⟨rfl,?_⟩;have hl:(ps.map prD).length=ps.length:=Yi ..;refine ite2 (fun g=>iteT ?_) (fun g=>?_)
  ·rw[Yn (.inl (Yp g))]at hR;exact⟨by simp,hR⟩
  ·have g':¬p<1:=fun z=>g (Yl z);refine ite2 (fun g2=>?_) (fun g2=>?_)
   ·have g2':((ps.map prD).length:Int)<=p:=Yp g2;rw[Yn (.inr (by omega))]at hR;exact⟨by simp,hR⟩
   ·have g2':¬((ps.map prD).length:Int)<=p:=fun z=>g2 (Yl z);rw[Yo (by omega)]at hR;exact hR
def Zdt(G:Glob K mg)(DD:Def K mg "broken_wishes" FB ["order","wishes"])
  : EV P w K mg base:=by
 refine DD.oz (k:=0) Nj (fun _ _ _ _ _ _ E hr=>⟨_,(J7 (Pu.pz 2 Nj.nd Dn) (J7 (UT YT rfl (Zdf rfl G.enumerate (az (pv 0))) (Kr (K:=K) (n:=2) rfl (UQ (gz 3 Nj.nd) (UQ (gz 4 Nj.nd) Kn))) (J9 (NG (Uq hr) (pv 2) (pv 4) (pv 3) rfl))) (J7 (Pk (N':=["ahead","behind","index_of"]) (φ:=[none,none,some 2]) (i:=5) Nj.nd rfl rfl rfl (Own.CompOk.of (by rfl)) (Us (K:=K) (pv 1)) (fun _ _ _ _ _=>⟨(Kr (K:=K) (n:=2) rfl (UQ (gz 0 (show(["ahead","behind","index_of"]:List Str).Nodup from by decide +kernel)) (UQ (gz 1 (show(["ahead","behind","index_of"]:List Str).Nodup from by decide +kernel)) Kn))),(X0 (PW.pt (Km (BC (E2 (Uq hr) (pv 0) (pv 2))) (KI (BC (E2 (Uq hr) (pv 1) (pv 2))))))),(Ub (bz (pv 0) (pv 1)))⟩)) (J9 (JF (UR (N':=["ahead","behind","index_of"]) (φ:=[none,none,some 2]) rfl (Own.CompOk.of (by rfl)) (Us (K:=K) (pv 5)) (fun _ _ _ _ _=>⟨(Kr (K:=K) (n:=2) rfl (UQ (gz 0 (show(["ahead","behind","index_of"]:List Str).Nodup from by decide +kernel)) (UQ (gz 1 (show(["ahead","behind","index_of"]:List Str).Nodup from by decide +kernel)) Kn))),(X0 (JT Xa (Pr (Uq hr) (pv 2) (pv 1) (fun _ _=>rfl)) (Pr (Uq hr) (pv 2) (pv 0) (fun _ _=>rfl)) (Ua _))),(Ub (bz (pv 0) (pv 1)))⟩))))))), (J8 (JH CW (JC 2)) (J8 (JM 0 (UO [3,4] (Zc4 (sz (J2 0))) (K6 (Xm (JC 3) (Xm (JC 4) Kz))) (N1 2 (J2 4) (J2 3)))) (J8 (JH (U3 (UW (J2 1)) (K6 (Xm (JC 0) (Xm (JC 1) Kz))) (Kh (st_b (EG (J2 0) (J2 2))) (st_b (EG (J2 1) (J2 2)))) (Uc (tz (J2 0) (J2 1)))) (JC 5)) (JJ (U3 (UW (J2 5)) (K6 (Xm (JC 0) (Xm (JC 1) Kz))) (JG (Xc (Pv (J2 2) (J2 1)) (Pv (J2 2) (J2 0)))) (Uc (tz (J2 0) (J2 1))))))))⟩) (.a fun ds R X h=>?_)
 ·obtain⟨os,ws,rfl,hnd,hz,hw,hR⟩:=h;refine⟨rfl,?_⟩;refine⟨rfl,P2 _,OA (xs:=os) (emb:=D.int) (fun i γ'=>∃kvs:List (Key×V),γ'=[some (.bor (.lst (os.map D.int))),some (.bor (.lst (ws.map prD))),some (.own (.dK kvs)),none,none,none]/\kvs.length<=i/\∀h:Int,valV kvs (.inl h)=if h∈os.take i then some (.int (os.idxOf h))else none) ⟨[],rfl,by simp,fun h=>by simp[valV]⟩ ?_ ?_⟩
  ·rintro i hi γ' ⟨kvs,rfl,hl,hv⟩;refine⟨rfl,.inl os[i],.int i,rfl,rfl,by omega,_,rfl,Yy (TJ _ _ _) (by omega),fun h=>?_⟩;rw[T9,hv];by_cases e:h=os[i]
   ·subst e;rw[Yn rfl,Yn ((AB hi).mpr (.inr rfl)),NA hnd hi]
   ·rw[Yo (fun z=>e (Sum.inl.inj z))];simp only[AB hi,e,or_false]
  ·rintro γ' ⟨kvs,rfl,hl,hv⟩;rw[Wp]at hv;refine UC (xs:=ws) (emb:=prD) (fun q=>if (decide (q.1∈os)&&decide (q.2∈os))=true then some (prD q)else none) (by omega) (fun q hq=>⟨rfl,⟨_,rfl,?_⟩⟩) ?_
   ·have k1:(valV kvs (.inl q.1)).isSome=decide (q.1∈os):=by
     rw[hv];by_cases e:q.1∈os<;>simp[e]
    have k2:(valV kvs (.inl q.2)).isSome=decide (q.2∈os):=by
     rw[hv];by_cases e:q.2∈os<;>simp[e]
    refine ite2 (fun h1=>⟨_,rfl,ite2 (fun h2=>⟨by simp,_,rfl,Yn ?_⟩) (fun h2=>Yo fun z=>h2 ?_)⟩) (fun h1=>iteF (Yo fun z=>h1 ?_))
    ·rw[←k1,←k2,Y9];exact⟨h1,h2⟩
    ·rw[←k1,←k2,Y9]at z;exact z.2
    ·rw[←k1,←k2,Y9]at z;exact z.1
   rw[Xt (fun q=>decide (q.1∈os)&&decide (q.2∈os)) prD];have hfl:=Wc (fun q:Int×Int=>decide (q.1∈os)&&decide (q.2∈os)) ws;refine UC (xs:=ws.filter fun q=>decide (q.1∈os)&&decide (q.2∈os)) (emb:=prD) (fun q=>if decide (os.idxOf q.2<os.idxOf q.1)=true then some (prD q)else none) (by omega) (fun q hq=>?_) ?_
   ·have hq2:=(YG.mp hq).2;rw[Y9,W2,W2]at hq2;refine⟨rfl,.inl q.2,.int (os.idxOf q.2),rfl,by rw[hv,Yn hq2.2],rfl,.inl q.1,.int (os.idxOf q.1),rfl,by rw[hv,Yn hq2.1],rfl,?_⟩;refine ite2 (fun h1=>⟨by simp,_,rfl,Yn ?_⟩) (fun h1=>Yo fun z=>h1 ?_)
    ·have h1':((os.idxOf q.2:Nat):Int)<((os.idxOf q.1:Nat):Int):=Yp h1;exact Yl (by omega)
    ·have z':=Yp z;exact Yl (show((os.idxOf q.2:Nat):Int)<((os.idxOf q.1:Nat):Int) by omega)
   rw[Xt (fun q=>decide (os.idxOf q.2<os.idxOf q.1)) prD,List.filter_filter]
   have e:(fun q:Int×Int=>decide (os.idxOf q.2<os.idxOf q.1)&&(decide (q.1∈os)&&decide (q.2∈os)))=KR os:=by
    funext q;rw[O4 hnd,Bool.and_comm]
   rw[e];exact hR
def Hk(G:Glob K mg)(DD:Def K mg "longer_paths" F8 ["paths","left","wishes"])
  : Ej P w K mg base:=by
 refine DD.oz (k:=0) Tn (fun _ _ _ _ _ _ E hr=>⟨_,(J7 (Pu.pz 3 Tn.nd (JS Uh)) (J7 (Pu.pz 4 Tn.nd Dn) (J7 (UT YT rfl (Us (K:=K) (pv 0)) (gz 5 Tn.nd) (J9 (UT YT rfl (Us (K:=K) (pv 1)) (gz 6 Tn.nd) (J9 (JL (PW.pt (Km (BC (HZ (Uq hr) (pv 6) (pv 4))) (KI (JT (X2 (K:=K) (show _<cLine from Uq hr)) (Ub (bz (jx K (pv 5) (UX Xi J6)) (pv 6))) (pv 2) (by with_unfolding_all rfl))))) (J7 (NG (Uq hr) (pv 4) (pv 6) Xd rfl) (J9 (Uv (Ku YI Wg Wh Ko (pv 3) (az (JB Xr (pv 5) (JS (az (pv 6)))))))))
   JO))))) (J9 (JF (pv 3)))))), (J8 (JH (JR JW) (JC 3)) (J8 (JH CW (JC 4)) (J8 (JM 1 (JM 0 (UO [5,6] (XA (J2 0)) (JC 5) (JM 1 (UO [6] (XA (J2 1)) (JC 6) (JP (Kh (st_b (Im (J2 6) (J2 4))) (JG (UN (Uc (tz (JA (J2 5) (Xh J4)) (J2 6))) (J2 2)))) (J8 (N1 4 (J2 6) Xg) (JM 6 (TB 3 (Xl (J2 5) (JR (sz (J2 6))))))) JN)))))) (Ki 3))))⟩) (.a fun ds R X h=>?_)
 ·obtain⟨l,ps,ls,ws,rfl,hs,hl,hpl,hll,hR⟩:=h;refine⟨rfl,?_⟩
  refine⟨by simp,rfl,XC (xs:=ps) (emb:=em l) (fun i γ'=>∃lg kvs,γ'=[some (.bor (.lst (ps.map (em l)))),some (.bor (.lst (ls.map D.int))),some (.bor (.lst (ws.map prD))),some (.own (lg.map (em l))),some (.own (.dK kvs)),none,none]/\LGs ws l (Pd ps ls i 0) ls lg kvs)
   ⟨[],[],rfl,LGs.start⟩ ?_ ?_⟩
  ·rintro i hi γ' ⟨lg,kvs,rfl,G⟩;have hp:ps[i]?=some ps[i]:=Yj hi;have hpi:=hpl ps[i] (YC hi);generalize ps[i]=p at hp hpi ⊢;refine⟨rfl,XC (xs:=ls) (emb:=D.int) (fun j γ'=>∃lg kvs,γ'=[some (.bor (.lst (ps.map (em l)))),some (.bor (.lst (ls.map D.int))),some (.bor (.lst (ws.map prD))),some (.own (lg.map (em l))),some (.own (.dK kvs)),some (.bor (em l p)),none]/\LGs ws l (Pd ps ls i j) ls lg kvs) ⟨lg,kvs,rfl,G⟩ ?_ ?_⟩
   ·rintro j hj γ' ⟨lg,kvs,rfl,G⟩;have hh:ls[j]?=some ls[j]:=Yj hj;generalize ls[j]=h at hh ⊢;have hlen:=G.len_le;have hkl:=G.len;refine⟨.inl h,rfl,ite2 (fun g=>?_) (fun g=>?_)⟩
    ·have g':(valV kvs (.inl h)).isSome=false:=by
      cases e:(valV kvs (.inl h)).isSome with
      |false=>rfl
      |true=>rw[e]at g;cases g
     refine⟨_,FJ l p,by simp,_,.lp (JU l p,h) ws,ite2 (fun g2=>?_) (fun g2=>?_)⟩
     ·refine⟨.inl h,.bl true,rfl,rfl,by omega,by simp,P2 _,rfl,by simp;omega,by rw[Yi];omega,lg++[p++[h]],_,?_,G.put hp hh hs hl g' (Yp g2)⟩;rw[Y5]
      have e:em l (p++[h])=.lst ((l::p).map D.int++[.int h]):=by
       unfold em;rw[←W5,Y5];rfl
      rw[Q8,e];rfl
     ·exact⟨lg,kvs,rfl,G.skip hp hh hs (.inr fun z=>g2 (Yl z))⟩
    ·have g':(valV kvs (.inl h)).isSome=true:=by
      cases e:(valV kvs (.inl h)).isSome with
      |true=>rfl
      |false=>rw[e]at g;exact absurd rfl g
     exact iteF ⟨lg,kvs,rfl,G.skip hp hh hs (.inl g')⟩
   ·rintro γ' ⟨lg,kvs,rfl,G⟩;refine⟨lg,kvs,rfl,G.congr fun p' x=>?_⟩;unfold Pd;rw[Wp,QB];obtain⟨hi',ei⟩:=Y2.mp hp;rw[YD hi,Y4,Ym,hp,ei];constructor
    ·rintro(⟨a,b⟩|⟨a,b⟩)
     ·exact .inl ⟨.inl a,b⟩
     ·exact .inl ⟨.inr (Yv a).symm,b⟩
    ·rintro(⟨a|a,b⟩|⟨_,a⟩)
     ·exact .inl ⟨a,b⟩
     ·exact .inr ⟨YQ some a.symm,b⟩
     ·cases a
  ·rintro γ' ⟨lg,kvs,rfl,G⟩;refine hR lg (G.g.congr fun p' x=>?_) G.len_le;unfold Pd;rw[Wp,QB];exact⟨(fun z=>z.elim id fun w=>by cases w.2),.inl⟩
def Zbi(G:Glob K mg)(DD:Def K mg "check_place" Aa ["strips","place"])
  : SM P w K mg base:=by
 refine DD.ox (k:=0) Zcw (fun _ _ _ _ _ _ E hr=>⟨_,(J9 (JL (PW.pt (UF (JT Xa (pv 1) J6 (Ua _)) (UP (JT Xf (pv 1) (ln K G.len (pv 0)) (Ua _))))) (J9 (ExcR.Xe G.g_NoStrip.c G.m_NoStrip ExcR.Xb rfl (az Um)))
   JO)), (JP (UG (JG (Xc (J2 1) J4)) (JG (UY (J2 1) (U1 (sz (J2 0)))))) (UZ (sz Up)) JN)⟩) (.a fun ds R X h=>?_)
 ·obtain⟨ps,p,rfl,hR⟩:=h;refine⟨rfl,?_⟩;have hl:(ps.map prD).length=ps.length:=Yi ..;unfold NP at hR;refine ite2 (fun g=>iteT ?_) (fun g=>?_)
  ·rw[Yn (.inl (Yp g))]at hR;exact⟨by simp,hR⟩
  ·have g':¬p<1:=fun z=>g (Yl z);refine ite2 (fun g2=>?_) (fun g2=>?_)
   ·have g2':((ps.map prD).length:Int)<p:=Yp g2;rw[Yn (.inr (by omega))]at hR;exact⟨by simp,hR⟩
   ·have g2':¬((ps.map prD).length:Int)<p:=fun z=>g2 (Yl z);rw[Yo (by omega)]at hR;exact hR
def Hq(G:Glob K mg)(DD:Def K mg "without_wish" Bo ["wishes","ahead","behind"])
  : D9 P w K mg base:=by
 refine DD.ox (k:=0) Zdl (fun _ _ _ _ _ _ E hr=>⟨_,(J7 (JL (JT (TR (K:=K) (show _<cLine from Uq hr)) (Ub (bz (pv 1) (pv 2))) (pv 0) (by with_unfolding_all rfl)) (J9 (ExcR.Xe G.g_NoWish.c G.m_NoWish ExcR.Xb rfl (az Um)))
   JO) (J9 (JF (UR (N':=["wish","ahead","behind"]) (φ:=[none,some 1,some 2]) rfl (Own.CompOk.of (by rfl)) (Us (K:=K) (pv 0)) (fun _ _ _ _ _=>⟨(gz 0 (show(["wish","ahead","behind"]:List Str).Nodup from by decide +kernel)),(X0 (JT (A7 (K:=K) (show _<cLine from hr.units0)) (pv 0) (Ub (bz (pv 1) (pv 2))) (Ua _))),(pv 0)⟩))))), (J8 (JP (JG (UN (Uc (tz (J2 1) (J2 2))) (J2 0))) (UZ (sz Up)) JN) (JM 2 (JM 1 (JJ (U3 (UW (J2 0)) (JC 0) (JG (Gy (J2 0) (Uc (tz (J2 1) (J2 2))))) (J2 0))))))⟩) (.a fun ds R X h=>?_)
 ·obtain⟨ws,a,b,rfl,hz,hR⟩:=h;refine⟨rfl,?_⟩;unfold UE at hR;refine⟨by simp,_,.lp (a,b) ws,ite2 (fun g=>?_) (fun g=>?_)⟩
  ·have g':¬(a,b)∈ws:=fun z=>by rw[Yn rfl,Yl z]at g;cases g
   rw[Yo g']at hR;exact⟨by simp,hR⟩
  ·have g':(a,b)∈ws:=YN fun z=>g (by rw[Yn rfl,Y0 z];rfl);rw[Yn g']at hR;refine UC (xs:=ws) (emb:=prD) (fun q=>if (!decide (q=(a,b)))=true then some (prD q)else none) (by omega) (fun q hq=>?_) ?_
   ·refine⟨by simp,?_⟩;show fNeT (.sh (prD q)) (.sh (prD (a,b))) _;refine Lx ?_;exact ite2 (fun h=>⟨_,rfl,Yn h⟩) (fun h=>Yo h)
   ·rw[Xt (fun q:Int×Int=>!decide (q=(a,b)))];exact hR
def Zev(G:Glob K mg)(DD:Def K mg "sets_of" Sr ["holders"])
  : DU P w K mg base:=by
 refine DD.oz (k:=0) N3 (fun _ _ _ _ _ _ E hr=>⟨_,(J7 (Pu.pz 1 N3.nd (JS (az (Ub Uh)))) (J7 (UT YT rfl (Us (K:=K) (pv 0)) (gz 2 N3.nd) (J9 (Pu.pz 1 N3.nd (JB Xr (pv 1) (UR (N':=["members","holder"]) (φ:=[none,some 2]) rfl (Own.CompOk.of (by rfl)) (Us (K:=K) (pv 1)) (fun _ _ _ _ _=>⟨(gz 0 (show(["members","holder"]:List Str).Nodup from by decide +kernel)),XN,(JB (Ii (K:=K)) (pv 0) (Ub (az (pv 1))))⟩)))))) (J9 (JF (pv 1))))), (J8 (JH (JR (sz (Uc JW))) (JC 1)) (J8 (JM 0 (UO [2] (XA (J2 0)) (JC 2) (JM 2 (JH (Xl (J2 1) (U3 (UW (J2 1)) (JC 0) Kg (OJ (J2 0) (Uc (sz (J2 1)))))) (JC 1))))) (Ki 1)))⟩) (.a fun ds R X h=>?_)
 ·obtain⟨hs,rfl,hz,hR⟩:=h;refine⟨rfl,?_⟩;refine⟨by simp,by simp,rfl,XC (xs:=hs) (emb:=D.int) (fun i γ'=>γ'=[some (.bor (.lst (hs.map D.int))),some (.own ((Ul (hs.take i)).map tD)),none]) rfl ?_ ?_⟩
  ·rintro i hi γ' rfl
   have hlen:(Ul (hs.take i)).length<=1024:=by
    rw[CA,YJ];exact Nat.pow_le_pow_right (j:=10) (by decide) (by omega)
   have hel:∀ms∈Ul (hs.take i),ms.length<=10:=fun ms hm=>by
    have:=(Nd _ ms hm).length_le
    rw[YJ]at this;omega
   rw[YD hi,Pb];generalize Ul (hs.take i)=S at hlen hel ⊢;generalize hs[i]=h;refine UC (xs:=S) (emb:=tD) (fun ms=>some (tD (ms++[h]))) (by omega) (fun ms hm=>?_) ?_
   ·refine⟨by simp,_,_,Zbz ms,rfl,?_,_,rfl,?_⟩
    ·have:=hel ms hm
     rw[Yi];show ms.length+1<=100000;omega
    ·unfold tD;rw[Y5];rfl
   ·rw[mapD];refine⟨rfl,rfl,?_,?_⟩
    ·rw[Yi,Yi];omega
    ·show[_,_,_]=[_,_,_];rw[Y5,Wk];rfl
  ·rintro γ' rfl;rw[Wp];exact hR
def LA(G:Glob K mg)(DD:Def K mg "without" Fw ["members","holder"])
  : NW P w K mg base:=by
 refine DD.oz (k:=0) Ra (fun _ _ _ _ _ _ E hr=>⟨_,(J9 (JF (XS (Eb (K:=K)) (by rfl) G.tuple boot_tuple (az (UR (N':=["member","holder"]) (φ:=[none,some 1]) rfl (Own.CompOk.of (by rfl)) (TY (K:=K) (pv 0)) (fun _ _ _ _ _=>⟨(gz 0 (show(["member","holder"]:List Str).Nodup from by decide +kernel)),(X0 (cn K hr (pv 0) (pv 1))),(pv 0)⟩)))))), (JJ (D2 (sz (U3 (SndI.c (Tg (J2 0))) (JC 0) (JG (Px (J2 0) (J2 1))) (J2 0)))))⟩) (.a fun ds R X h=>?_)
 ·obtain⟨ms,h,rfl,hz,hR⟩:=h;refine⟨rfl,?_⟩;rw[TC];refine⟨_,rfl,UC (s:=.sh .non) (xs:=ms) (emb:=D.int) (fun m=>if decide (m≠h)=true then some (.int m)else none) (by omega) (fun m hm=>?_) ?_⟩
  ·show if (!decide (m=h))=true then _ else _;by_cases e:m=h
   ·rw[Yl e];exact iteF (by simp[e])
   ·rw[Y0 e];exact iteT ⟨_,rfl,Yn (Yl e)⟩
  ·rw[Xt (fun m=>decide (m≠h))];exact⟨rfl,hR⟩
def Oj(G:Glob K mg)(DD:Def K mg "may_lie_last" S4 ["members","holder","wishes"])
  : Eu P w K mg base:=by
 refine DD.oz (k:=0) Zd3 (fun _ _ _ _ _ _ E hr=>⟨_,(J9 (JF (Bk (UI (Dl (K:=K) rfl) (by rfl) G.any boot_any (az (UR (N':=["ahead","behind","holder","members"]) (φ:=[none,none,some 1,some 0]) rfl (Own.CompOk.of (by rfl)) (Us (K:=K) (pv 2)) (fun _ _ _ _ _=>⟨(Kr (K:=K) (n:=2) rfl (UQ (gz 0 (show(["ahead","behind","holder","members"]:List Str).Nodup from by decide +kernel)) (UQ (gz 1 (show(["ahead","behind","holder","members"]:List Str).Nodup from by decide +kernel)) Kn))),XN,(Nb (KB (TL (K:=K) (show _<cLine from hr.units0)) (pv 0) (pv 2) (Ua _)) (Nm (KB (X2 (K:=K) (show _<cLine from Uq hr)) (pv 1) (pv 3) (by with_unfolding_all rfl))))⟩))))))), (JJ (BA (Ak (sz (U3 (UW (J2 2)) (K6 (Xm (JC 0) (Xm (JC 1) Kz))) Kg (Tq (Uo (J2 0) (J2 2)) (UN (J2 1) (J2 3))))))))⟩) (.a fun ds R X h=>?_)
 ·obtain⟨ms,h,ws,rfl,hz,hR⟩:=h;refine⟨rfl,?_⟩;rw[TC];refine UC (xs:=ws) (emb:=prD) (fun q=>some (.bl (decide (q.1=h)&&decide (q.2∈ms)))) (by omega) (fun q hq=>?_) ?_
  ·refine⟨rfl,?_⟩;show if true=true then(if decide (q.1=h)=true then _ else _)else(some (D.bl (decide (q.1=h)&&decide (q.2∈ms)))=none);refine iteT (ite2 (fun g=>⟨_,.ti _ _,?_⟩) (fun g=>?_))
   ·refine⟨_,rfl,?_⟩;rw[g,WO];rfl
   ·refine⟨_,rfl,?_⟩;rw[WA.mpr g,WY]
  ·rw[mapD];refine⟨ws.map fun q=>decide (q.1=h)&&decide (q.2∈ms),by rw[Wk];rfl,?_⟩;rw[List.any_map];exact hR
def Zbd(G:Glob K mg)(DD:Def K mg "may_lie_first" F2 ["members","holder","wishes"])
  : DV P w K mg base:=by
 refine DD.oz (k:=0) Ir (fun _ _ _ _ _ _ E hr=>⟨_,(J9 (JF (Bk (UI (Dl (K:=K) rfl) (by rfl) G.any boot_any (az (UR (N':=["ahead","behind","holder","members"]) (φ:=[none,none,some 1,some 0]) rfl (Own.CompOk.of (by rfl)) (Us (K:=K) (pv 2)) (fun _ _ _ _ _=>⟨(Kr (K:=K) (n:=2) rfl (UQ (gz 0 (show(["ahead","behind","holder","members"]:List Str).Nodup from by decide +kernel)) (UQ (gz 1 (show(["ahead","behind","holder","members"]:List Str).Nodup from by decide +kernel)) Kn))),XN,(Nb (KB (TL (K:=K) (show _<cLine from hr.units0)) (pv 1) (pv 2) (Ua _)) (Nm (KB (X2 (K:=K) (show _<cLine from Uq hr)) (pv 0) (pv 3) (by with_unfolding_all rfl))))⟩))))))), (JJ (BA (Ak (sz (U3 (UW (J2 2)) (K6 (Xm (JC 0) (Xm (JC 1) Kz))) Kg (Tq (Uo (J2 1) (J2 2)) (UN (J2 0) (J2 3))))))))⟩) (.a fun ds R X h=>?_)
 ·obtain⟨ms,h,ws,rfl,hz,hR⟩:=h;refine⟨rfl,?_⟩;rw[TC];refine UC (xs:=ws) (emb:=prD) (fun q=>some (.bl (decide (q.2=h)&&decide (q.1∈ms)))) (by omega) (fun q hq=>?_) ?_
  ·refine⟨rfl,?_⟩;show if true=true then(if decide (q.2=h)=true then _ else _)else(some (D.bl (decide (q.2=h)&&decide (q.1∈ms)))=none);refine iteT (ite2 (fun g=>⟨_,.ti _ _,?_⟩) (fun g=>?_))
   ·refine⟨_,rfl,?_⟩;rw[g,WO];rfl
   ·refine⟨_,rfl,?_⟩;rw[WA.mpr g,WY]
  ·rw[mapD];refine⟨ws.map fun q=>decide (q.2=h)&&decide (q.1∈ms),by rw[Wk];rfl,?_⟩;rw[List.any_map];exact hR
def Zdu(G:Glob K mg)(DD:Pu.DefM K (Meth K (ExcR.JD mg "Village") "strips") "strips" "Village.strips" Sq ["self"])
  : Kw P w K mg base:=by
 refine DD.oz (k:=0) Hl (fun _ _ _ _ _ _ E hr=>⟨_,(J9 (JF (XS (PY (K:=K)) (by rfl) G.list boot_list (az (jx K (XY (pv 0) rfl) (UX Xi J6)))))), (JJ (PR (sz (JA (Tw 1 G.cl_Village G.n_Village_fields BL (J2 0)) (Xh J4)))))⟩) (.a fun ds R X h=>?_)
 ·obtain⟨bk,fs,ws,f,rfl,hR⟩:=h;refine⟨rfl,?_⟩;exact⟨rfl,rfl,_,rfl,_,GR plD fs f,Kc _,hR⟩
def LY(G:Glob K mg)(DD:Pu.DefM K (Meth K (ExcR.JD mg "Village") "wishes") "wishes" "Village.wishes" Bs ["self"])
  : Kq P w K mg base:=by
 refine DD.oz (k:=0) Ma (fun _ _ _ _ _ _ E hr=>⟨_,(J9 (JF (XS (PY (K:=K)) (by rfl) G.list boot_list (az (jx K (XY (pv 0) rfl) (UX Xi J6)))))), (JJ (PR (sz (JA (Tw 2 G.cl_Village G.n_Village_wished B9 (J2 0)) (Xh J4)))))⟩) (.a fun ds R X h=>?_)
 ·obtain⟨bk,fs,ws,f,rfl,hR⟩:=h;refine⟨rfl,?_⟩;exact⟨rfl,rfl,_,rfl,_,GR plD ws f,Kc _,hR⟩
def Zao(G:Glob K mg)(DD:Pu.DefM K (Meth K (ExcR.JD mg "Village") "check_room") "check_room" "Village.check_room" FS ["self"])
  : P7 P w K mg base:=by
 refine DD.ox (k:=0) HE (fun _ _ _ _ _ _ E hr=>⟨_,(J9 (JL (JT P6 (ln K G.len (XY (pv 0) rfl)) (ExcR.X4 G.MOST_DEEDS) (Ua _)) (J9 (ExcR.Xe G.g_BookFull.c G.m_BookFull ExcR.Xb rfl (az (ExcR.pe_f (ExcR.XM (ExcR.Pa (ExcR.X4 G.MOST_DEEDS) (ExcR.XM ExcR.Pj)))))))
   JO)), (JP (JG (PQ (U1 (sz (Tw 0 G.cl_Village G.n_Village_book Tx (J2 0)))) J4)) (UZ (sz (se_f (XG (KU J4 (XG Pm)))))) JN)⟩) (.a fun ds R X h=>?_)
 ·obtain⟨bk,fs,ws,rfl,hR⟩:=h;refine⟨rfl,?_⟩;have hl:(bk.map dD).length=bk.length:=Yi ..;unfold KZ at hR;refine⟨rfl,rfl,_,rfl,ite2 (fun g=>?_) (fun g=>?_)⟩
  ·have g':(100:Int)<=((bk.map dD).length:Int):=Yp g;rw[Yn (by omega)]at hR;exact⟨by decide,by decide,by decide,by decide,by decide,by simp,hR⟩
  ·have g':¬(100:Int)<=((bk.map dD).length:Int):=fun z=>g (Yl z);rw[Yo (by omega)]at hR;exact hR
def Zbl(G:Glob K mg)(DD:Pu.DefM K (Meth K (ExcR.JD mg "Village") "enter") "enter" "Village.enter" B8 ["self","deed","field","wishes"])
  : P1 P w K mg base:=by
 refine DD.oz (k:=0) Zan (fun _ _ _ _ _ _ E hr=>⟨_,(J7 (Uv (Ku YI Wg Wh Ko (XY (pv 0) rfl) (az (pv 1)))) (J7 (Uv (Ku YI Wg Wh Ko (XY (pv 0) rfl) (az (pv 2)))) (J7 (Uv (Ku YI Wg Wh Ko (XY (pv 0) rfl) (az (pv 3)))) (J9 (JF (ln K G.len (XY (pv 0) rfl))))))), (J8 (JM 1 (KS (FK 0 0 G.cl_Village G.n_Village_book Tx (J2 1)))) (J8 (JM 2 (KS (FK 0 1 G.cl_Village G.n_Village_fields BL (J2 2)))) (J8 (JM 3 (KS (FK 0 2 G.cl_Village G.n_Village_wished B9 (J2 3)))) (Nz (U1 (sz (Tw 0 G.cl_Village G.n_Village_book Tx (J2 0))))))))⟩) (.c fun o ss R X h=>?_)
 ·obtain⟨x,b1,b2,b3,bk,fs,ws,q,f,w,rfl,rfl,h1,h2,h3,hR⟩:=h;refine⟨rfl,?_⟩;have k1:(bk.map dD).length<10000000:=by rw[Yi];omega
  have k2:(fs.map plD).length<10000000:=by rw[Yi];omega
  have k3:(ws.map plD).length<10000000:=by rw[Yi];omega
  refine⟨rfl,rfl,_,rfl,k1,rfl,rfl,_,rfl,k2,rfl,rfl,_,rfl,k3,rfl,rfl,_,rfl,_,rfl,⟨rfl,by simp⟩,?_⟩;have e:(((bk.map dD++[dD q]).length:Nat):Int)=(bk.length:Int)+1:=by rw[Yt,Yi];simp
  show R (.ins x _ vF [(b1,bk.map dD++[dD q]),(b2,fs.map plD++[plD f]),(b3,ws.map plD++[plD w])]) (.int (((bk.map dD++[dD q]).length:Nat):Int));rw[e];have e1:bk.map dD++[dD q]=(bk++[q]).map dD:=by rw[Y5];rfl
  have e2:fs.map plD++[plD f]=(fs++[f]).map plD:=by rw[Y5];rfl
  have e3:ws.map plD++[plD w]=(ws++[w]).map plD:=by rw[Y5];rfl
  rw[e1,e2,e3];exact hR
def R1(G:Glob K mg)(DD:Pu.DefM K (Meth K (ExcR.JD mg "Village") "take_back") "take_back" "Village.take_back" SL ["self"])
  : DN P w K mg base:=by
 refine DD.ox (k:=0) Rz (fun _ _ _ _ _ _ E hr=>⟨_,(J7 (JL (Xk (U2 (K:=K) (XY (pv 0) rfl))) (J9 (ExcR.Xe G.g_NothingDone.c G.m_NothingDone ExcR.Xb rfl (az Um)))
   JO) (J7 (Uv (NO YI Qr Qs NB (XY (pv 0) rfl))) (J7 (Uv (NO YI Qr Qs NB (XY (pv 0) rfl))) (J9 (JF (NO YI Qr Qs NB (XY (pv 0) rfl))))))), (J8 (JP (Xy (UD (Tw 0 G.cl_Village G.n_Village_book Tx (J2 0)))) (UZ (sz Up)) JN) (J8 (KS (SR 0 1 G.cl_Village G.n_Village_fields BL)) (J8 (KS (SR 0 2 G.cl_Village G.n_Village_wished B9)) (XU (SR 0 0 G.cl_Village G.n_Village_book Tx)))))⟩) (.c fun o ss R X h=>?_)
 ·obtain⟨x,b1,b2,b3,bk,fs,ws,rfl,rfl,h1,h2,hX,hR⟩:=h;refine⟨rfl,?_⟩;have emp:(bk.map dD).isEmpty=decide (bk=[]):=by cases bk<;>simp
  refine⟨rfl,rfl,_,rfl,?_⟩;show if (!(!(bk.map dD).isEmpty))=true then _ else _;rw[Bool.not_not,emp];refine ite2 (fun g=>⟨by simp,_,rfl,⟨rfl,by simp⟩,hX (Yp g)⟩) (fun g=>?_);have hne:bk≠[]:=fun z=>g (Yl z);obtain⟨b0,q,rfl⟩:∃b0 q,bk=b0++[q]:=⟨_,_,(WG hne).symm⟩;have hl:(b0++[q]).length=b0.length+1:=by simp
  have f1:(fs.map plD)[(fs.map plD).length-1]?=some (plD (fs[fs.length-1]'(by omega))):=by
   rw[Yi,Yw,Yj (by omega)];rfl
  have w1:(ws.map plD)[(ws.map plD).length-1]?=some (plD (ws[ws.length-1]'(by omega))):=by
   rw[Yi,Yw,Yj (by omega)];rfl
  have q1:((b0++[q]).map dD)[((b0++[q]).map dD).length-1]?=some (dD q):=by
   rw[Yi,Yw,hl,Q7,YO (Yr _),Nat.sub_self];rfl
  refine⟨rfl,rfl,_,_,rfl,f1,rfl,rfl,_,_,rfl,w1,rfl,rfl,_,_,rfl,q1,_,rfl,⟨rfl,by simp⟩,?_⟩;have e1:((b0++[q]).map dD).dropLast=b0.map dD:=by rw[Y5];exact W9
  have e2:(fs.map plD).dropLast=fs.dropLast.map plD:=List.map_dropLast.symm;have e3:(ws.map plD).dropLast=ws.dropLast.map plD:=List.map_dropLast.symm
  have:=hR b0 q rfl
  rw[show vO (ExcR.JD mg "Village") x b1 b2 b3 b0 fs.dropLast ws.dropLast=.ins x (ExcR.JD mg "Village") vF [(b1,((b0++[q]).map dD).dropLast),(b2,(fs.map plD).dropLast),(b3,(ws.map plD).dropLast)] by rw[e1,e2,e3]]at this;exact this
def IW(G:Glob K mg)(DD:Def K mg "_law_at" SD ["_law_script","_law_k"])
  : Py P w K mg base:=by
 refine DD.oz (k:=0) RA (fun _ _ _ _ _ _ E hr=>⟨_,(J7 (JL (JT Xa (pv 1) (ln K G.len (pv 0)) (Ua _)) (J9 (JF (jx K (pv 0) (pv 1))))
   JO) (J9 (JF J6))), (J8 (JP (JG (Xc (J2 1) (U1 (sz (J2 0))))) (JJ (JA (J2 0) (J2 1))) JN) (JJ J4))⟩) (.a fun ds R X h=>?_)
 ·obtain⟨ns,k,rfl,hk,hR⟩:=h;refine⟨rfl,?_⟩;refine ite2 (fun g=>?_) (fun g=>?_)
  ·have g':k<(ns.length:Int):=Yp g;have e:=Yj (show k.toNat<ns.length by omega);rw[Y1,e]at hR;exact⟨_,Na hk e,hR⟩
  ·have g':¬k<(ns.length:Int):=fun z=>g (Yl z);rw[Y1,Qo (by omega)]at hR;exact hR
def Hi(G:Glob K mg)(DD:Def K mg "_law_whole" Fd ["_law_found"])
  : NZ P w K mg base:=by
 refine DD.oz (k:=0) Rb (fun _ _ _ _ _ _ E hr=>⟨_,(J9 (JF (Nb (UI (Ts (K:=K)) (by rfl) G.isinstance Q0 (bz (pv 0) (Ta (v:=.ty "int") rfl G.int boot_int rfl))) (Nm (Bk (UI (Ts (K:=K)) (by rfl) G.isinstance Q0 (bz (pv 0) (Ta (v:=.ty "bool") rfl G.bool boot_bool rfl)))))))), (JJ (Tq (TQ (tz (J2 0) Nn)) (BA (TQ (tz (J2 0) Nn)))))⟩) (.a fun ds R X h=>?_)
 ·obtain⟨i,rfl,hR⟩:=h;refine⟨rfl,?_⟩;exact⟨_,.same _,_,.ib,hR⟩
def Ha(G:Glob K mg)(DD:Def K mg "_law_mix" Fy ["_law_cell","_law_place_here"])
  : Tf P w K mg base:=by
 refine DD.oz (k:=0) Gc (fun _ _ _ _ _ _ E hr=>⟨_,(J7 (Pu.pz 2 Gc.nd (JB Ud (JB PH (JB Ui (JB Ui (JB Ud (pv 0) J6) (JB PH J6 (pv 1))) J6) J6) J6)) (J9 (JF (JB Ud (JB PH (JB Ui (JB Ui (pv 2) (JB PH J6 (pv 1))) J6) J6) J6)))), (J8 (JH (Ue (P5 (Uj (Uj (Ue (J2 0) J4) (P5 J4 (J2 1))) J4) J4) J4) (JC 2)) (JJ (Ue (P5 (Uj (Uj (J2 2) (P5 J4 (J2 1))) J4) J4) J4)))⟩) (.a fun ds R X h=>?_)
 ·obtain⟨c,p,rfl,hR⟩:=h;refine⟨rfl,?_⟩;unfold mixP at hR;exact⟨(by show(0:Int)<2147483647;decide),.inl ⟨by decide,by decide⟩,.inr ⟨by decide,by decide⟩,(by show(0:Int)<2147483647;decide),.inl ⟨by decide,by decide⟩,.inr ⟨by decide,by decide⟩,(by show(0:Int)<2147483647;decide),hR⟩
def Oi(G:Glob K mg)(DD:Def K mg "_law_menu" Sv ["_law_cell"])
  : Dh P w K mg base:=by
 refine DD.oz (k:=0) BK (fun _ _ _ _ _ _ E hr=>⟨_,(J7 (Pu.pz 1 BK.nd (jx K (JS (JQ J6 (JQ J6 (JQ J6 (JQ J6 (JQ J6 Uh)))))) (JB Ud (JB Uy (pv 0) J6) J6))) (J7 (Pu.pz 2 BK.nd (jx K (JS (JQ J6 (JQ J6 (JQ J6 (JQ J6 (JQ J6 Uh)))))) (JB Ud (JB Uy (pv 0) J6) J6))) (J9 (JF (JS (JQ (JB Ui J6 (JB Ud (pv 0) J6)) (JQ (jx K (JS (JQ J6 (JQ J6 (JQ J6 (JQ J6 Uh))))) (JB Ud (JB Uy (pv 0) J6) J6)) (JQ (JB Ud (JB Uy (pv 0) J6) J6) (JQ (pv 1) (JQ (pv 2) Uh)))))))))), (J8 (JH (JA (JR (JY J4 (JY J4 (JY J4 (JY J4 (JY J4 JW)))))) (Ue (Uw (J2 0) J4) J4)) (JC 1)) (J8 (JH (JA (JR (JY J4 (JY J4 (JY J4 (JY J4 (JY J4 JW)))))) (Ue (Uw (J2 0) J4) J4)) (JC 2)) (JM 2 (JM 1 (JJ (JR (JY (Uj J4 (Ue (J2 0) J4)) (JY (JA (JR (JY J4 (JY J4 (JY J4 (JY J4 JW))))) (Ue (Uw (J2 0) J4) J4)) (JY (Ue (Uw (J2 0) J4) J4) (JY (J2 1) (JY (J2 2) JW)))))))))))⟩) (.a fun ds R X h=>?_)
 ·obtain⟨c,rfl,hR⟩:=h;refine⟨rfl,?_⟩;have h1:0<=c / 10 % 4/\c / 10 % 4<4:=by omega
  have h2:0<=c / 400 % 5/\c / 400 % 5<5:=by omega
  have hb:∀v∈([1,3,7,9]:List Int),1<=v/\v<=9/\(v=1\/v=3\/v=7\/v=9):=by decide
  have hde:∀i:Int,0<=i->i<5->∃d e:Int,atI [D.int 1000,.int 3,.int 1,.int 2,.int 3] i=some (.int d)/\atI [D.int 1,.int 1,.int 1,.int 1,.int 998] i=some (.int e)/\(1<=d/\d<=1000)/\1<=e/\e+d<=1001:=fun i a b=>by
   have:i=0\/i=1\/i=2\/i=3\/i=4:=by omega
   rcases this with rfl|rfl|rfl|rfl|rfl
   ·exact⟨1000,1,rfl,rfl,by decide,by decide,by decide⟩
   ·exact⟨3,1,rfl,rfl,by decide,by decide,by decide⟩
   ·exact⟨1,1,rfl,rfl,by decide,by decide,by decide⟩
   ·exact⟨2,1,rfl,rfl,by decide,by decide,by decide⟩
   ·exact⟨3,998,rfl,rfl,by decide,by decide,by decide⟩
  obtain⟨d,e,e1,e2,hd,he⟩:=hde _ h2.1 h2.2;have hbb:=hb _ (YC (l:=([1,3,7,9]:List Int)) (n:=(c / 10 % 4).toNat) (by show(c / 10 % 4).toNat<4;omega));refine⟨by simp,⟨by decide,by decide⟩,(by show(0:Int)<5;decide),_,e1,by simp,⟨by decide,by decide⟩,(by show(0:Int)<5;decide),_,e2,(by show(0:Int)<10;decide),by simp,⟨by decide,by decide⟩,(by show(0:Int)<4;decide),_,Po (f:=D.int) (xs:=[1,3,7,9]) h1.1 h1.2,⟨by decide,by decide⟩,(by show(0:Int)<10;decide),by simp,?_⟩;exact hR [_,_,_,_,_] ⟨_,_,_,_,_,rfl,by omega,hbb,by omega,hd,he⟩
def LB(G:Glob K mg)(DD:Def K mg "_law_holder" SB ["_law_menu_here","_law_k"])
  : Tt P w K mg base:=by
 refine DD.oz (k:=0) Zce (fun _ _ _ _ _ _ E hr=>⟨_,(J9 (JF (JB Ui J6 (JB Ud (JB Ui (JB PH (pv 1) (jx K (pv 0) J6)) (jx K (pv 0) J6)) J6)))), (JJ (Uj J4 (Ue (Uj (P5 (J2 1) (JA (J2 0) J4)) (JA (J2 0) J4)) J4)))⟩) (.a fun ds R X h=>?_)
 ·obtain⟨m,k,rfl,hM,hR⟩:=h;refine⟨rfl,?_⟩;obtain⟨a,b,c,d,e,rfl,ha,hb,hc,hd,he⟩:=hM;exact⟨_,rfl,.inr ⟨by omega,by omega⟩,_,rfl,(by show(0:Int)<10;decide),hR _ (by omega) (by omega) rfl⟩
def Zbv(G:Glob K mg)(DD:Def K mg "_law_present" Fe ["_law_strips"])
  : Fu P w K mg base:=by
 refine DD.oz (k:=0) Gh (fun _ _ _ _ _ _ E hr=>⟨_,(J7 (Pu.pz 1 Gh.nd (UR (N':=["_law_strip"]) (φ:=[none]) rfl (Own.CompOk.of (by rfl)) (Us (K:=K) (pv 0)) (fun _ _ _ _ _=>⟨(gz 0 (show(["_law_strip"]:List Str).Nodup from by decide +kernel)),XN,(jx K (pv 0) J6)⟩))) (J9 (JF (UR (N':=["_law_holder_here","_law_owners"]) (φ:=[none,some 1]) rfl (Own.CompOk.of (by rfl)) (Hv rfl G.range (bz J6 J6)) (fun _ _ _ _ _=>⟨(gz 0 (show(["_law_holder_here","_law_owners"]:List Str).Nodup from by decide +kernel)),(X0 (JT (X2 (K:=K) (show _<cLine from Uq hr)) (pv 0) (pv 1) (by with_unfolding_all rfl))),(pv 0)⟩))))), (J8 (JH (U3 (UW (J2 0)) (JC 0) Kg (JA (J2 0) J4)) (JC 1)) (JJ (U3 (SndI.c (Zd8 (tz J4 J4))) (JC 0) (JG (UN (J2 0) (J2 1))) (J2 0))))⟩) (.a fun ds R X h=>?_)
 ·obtain⟨ps,rfl,hz,hR⟩:=h;refine⟨rfl,?_⟩;refine UC (xs:=ps) (emb:=prD) (fun q=>some (.int q.1)) (by omega) (fun q hq=>⟨_,rfl,_,rfl,rfl⟩) ?_;rw[mapD (fun q:Int×Int=>D.int q.1),show ps.map (fun q:Int×Int=>D.int q.1)=(ps.map (·.1)).map D.int by rw[Wk];rfl];refine⟨⟨by decide,by decide,by decide,by decide⟩,CG (n:=10) (fun i=>if decide ((1:Int)+(i:Int)∈ps.map (·.1))=true then some (.int (1+(i:Int)))else none) (by decide) (fun i hi=>?_) ?_⟩
  ·exact⟨_,.li _ _,ite2 (fun g=>⟨_,rfl,Yn g⟩) (fun g=>Yo g)⟩
  rw[Xt (fun i:Nat=>decide ((1:Int)+(i:Int)∈ps.map (·.1)))]
  have e:((List.range 10).filter fun i:Nat=>decide ((1:Int)+(i:Int)∈ps.map (·.1))).map (fun i:Nat=>D.int (1+(i:Int)))=(JX ps).map D.int:=by
   unfold JX;rw[R3,List.filter_map,Wk];rfl
  rw[e];exact hR
def IT(G:Glob K mg)(DD:Def K mg "_law_kept" Bj ["_law_order","_law_wishes"])
  : DR P w K mg base:=by
 refine DD.oz (k:=0) FT (fun _ _ _ _ _ _ E hr=>⟨_,(J7 (UT YT rfl (Us (K:=K) (pv 1)) (Kr (K:=K) (n:=2) rfl (UQ (gz 2 FT.nd) (UQ (gz 3 FT.nd) Kn))) (J9 (JL (PW.pt (Km (JT (X2 (K:=K) (show _<cLine from Uq hr)) (pv 2) (pv 0) (by with_unfolding_all rfl)) (Km (JT (X2 (K:=K) (show _<cLine from Uq hr)) (pv 3) (pv 0) (by with_unfolding_all rfl)) (KI (JT Xf (Ei (K:=K) YI QD PySem.F.type_list_index (Ax (K:=K)) (pv 0) (az (pv 2))) (Ei (K:=K) YI QD PySem.F.type_list_index (Ax (K:=K)) (pv 0) (az (pv 3))) (Ua _)))))) (J9 (JF Xd))
   JO))) (J9 (JF Xd))), (J8 (JM 1 (UO [2,3] (XA (J2 1)) (K6 (Xm (JC 2) (Xm (JC 3) Kz))) (JP (Kh (JG (UN (J2 2) (J2 0))) (Kh (JG (UN (J2 3) (J2 0))) (JG (UY (Gs (J2 0) (sz (J2 2))) (Gs (J2 0) (sz (J2 3))))))) (JJ Xg) JN))) (JJ Xg))⟩) (.a fun ds R X h=>?_)
 ·obtain⟨os,ws,rfl,hR1,hR2⟩:=h;refine⟨rfl,?_⟩;refine⟨rfl,XC (xs:=ws) (emb:=prD) (fun i γ'=>γ'=[some (.bor (.lst (os.map D.int))),some (.bor (.lst (ws.map prD))),none,none]/\∀q∈ws.take i,badM os q=false) ⟨rfl,by simp⟩ ?_ ?_⟩
  ·rintro i hi γ' ⟨rfl,hb⟩;have hq:=YC hi
   have next:badM os ws[i]=false->∀q∈ws.take (i+1),badM os q=false:=fun h q hq=>by
    rw[YD hi,Y4,Ym]at hq;rcases hq with hq|hq
    ·exact hb q hq
    ·rw[hq];exact h
   generalize ws[i]=q at hq next ⊢;refine⟨rfl,_,.li _ _,ite2 (fun g1=>⟨_,.li _ _,ite2 (fun g2=>?_) (fun g2=>?_)⟩) (fun g1=>?_)⟩
   ·have g1':decide (q.1∈os)=true:=g1;have g2':decide (q.2∈os)=true:=g2;refine⟨⟨_,rfl⟩,os,rfl,Yp g1',⟨_,rfl⟩,os,rfl,Yp g2',?_⟩;refine ite2 (fun g3=>?_) (fun g3=>?_)
    ·have g3':=Yp g3;refine hR2 ⟨q,hq,?_⟩;unfold badM;rw[g1',g2',Yl (by omega)];rfl
    ·have g3':¬((os.idxOf q.2:Nat):Int)<((os.idxOf q.1:Nat):Int):=fun z=>g3 (Yl z);refine⟨rfl,next ?_⟩;unfold badM;rw[g1',g2',Y0 (by omega)];rfl
   ·refine iteF ⟨rfl,next ?_⟩;have g2':decide (q.2∈os)=false:=WA.mpr g2;unfold badM;rw[g2',WY,Bool.and_false]
   ·refine iteF ⟨rfl,next ?_⟩;have g1':decide (q.1∈os)=false:=WA.mpr g1;unfold badM;rw[g1',WY]
  ·rintro γ' ⟨rfl,hb⟩;rw[Wp]at hb;exact hR1 hb
def LD(G:Glob K mg)(DD:Def K mg "_law_no_ring" Ba ["_law_holders","_law_wishes"])
  : SK P w K mg base:=by
 refine DD.oz (k:=0) PV (fun _ _ _ _ _ _ E hr=>⟨_,(J7 (Pu.pz 2 PV.nd (XS (PY (K:=K)) (by rfl) G.list boot_list (az (pv 0)))) (J7 (UT YT rfl (Us (K:=K) (pv 0)) (gz 3 PV.nd) (J7 (Pk (N':=["_law_pair_here","_law_left"]) (φ:=[none,some 2]) (i:=4) PV.nd rfl rfl rfl (Own.CompOk.of (by rfl)) (Us (K:=K) (pv 1)) (fun _ _ _ _ _=>⟨(gz 0 (show(["_law_pair_here","_law_left"]:List Str).Nodup from by decide +kernel)),(X0 (PW.pt (Km (JT (X2 (K:=K) (show _<cLine from Uq hr)) (jx K (pv 0) J6) (pv 1) (by with_unfolding_all rfl)) (KI (JT (X2 (K:=K) (show _<cLine from Uq hr)) (jx K (pv 0) J6) (pv 1) (by with_unfolding_all rfl)))))),(pv 0)⟩)) (J7 (Pu.pz 5 PV.nd (UR (N':=["_law_pair_here"]) (φ:=[none]) rfl (Own.CompOk.of (by rfl)) (Us (K:=K) (pv 4)) (fun _ _ _ _ _=>⟨(gz 0 (show(["_law_pair_here"]:List Str).Nodup from by decide +kernel)),XN,(jx K (pv 0) J6)⟩))) (J9 (Pu.pz 2 PV.nd (UR (N':=["_law_holder_here","_law_behind"]) (φ:=[none,some 5]) rfl (Own.CompOk.of (by rfl)) (Us (K:=K) (pv 2)) (fun _ _ _ _ _=>⟨(gz 0 (show(["_law_holder_here","_law_behind"]:List Str).Nodup from by decide +kernel)),(X0 (JT (X2 (K:=K) (show _<cLine from Uq hr)) (pv 0) (pv 1) (by with_unfolding_all rfl))),(pv 0)⟩))))))) (J9 (JF (KB (Cg (K:=K) (show _<cLine from hr.units0)) (pv 2) (JS Uh) (Ua _)))))), (J8 (JH (PR (sz (J2 0))) (JC 2)) (J8 (JM 0 (UO [3,4,5] (XA (J2 0)) (JC 3) (J8 (JH (U3 (UW (J2 1)) (JC 0) (Kh (JG (UN (JA (J2 0) J4) (J2 1))) (JG (UN (JA (J2 0) J4) (J2 1)))) (J2 0)) (JC 4)) (J8 (JH (U3 (UW (J2 4)) (JC 0) Kg (JA (J2 0) J4)) (JC 5)) (JH (U3 (UW (J2 2)) (JC 0) (JG (UN (J2 0) (J2 1))) (J2 0)) (JC 2)))))) (JJ (B4 (J2 2) (JR JW)))))⟩) (.a fun ds R X h=>?_)
 ·obtain⟨hs,ws,rfl,hz,hw,hR⟩:=h;refine⟨rfl,?_⟩;refine⟨P2 _,rfl,XC (xs:=hs) (emb:=D.int) (fun i γ'=>γ'=[some (.bor (.lst (hs.map D.int))),some (.bor (.lst (ws.map prD))),some (.own ((Uk ws hs i).map D.int)),none,none,none]/\(Uk ws hs i).length<=50) ⟨rfl,hz⟩ ?_ ?_⟩
  ·rintro i hi γ' ⟨rfl,hl⟩;generalize e:Uk ws hs i=ls at hl;have e2:Uk ws hs (i+1)=XD ws ls:=YQ (XD ws) e;have li:(K4 ws ls).length<=50:=Yy (Wc _ _) hw;refine UC (xs:=ws) (emb:=prD) (fun q=>if (decide (q.1∈ls)&&decide (q.2∈ls))=true then some (prD q)else none) (by omega) (fun q hq=>?_) ?_
   ·refine⟨_,rfl,_,.li _ _,ite2 (fun g1=>⟨_,rfl,_,.li _ _,ite2 (fun g2=>⟨_,rfl,Yn ?_⟩) (fun g2=>Yo ?_)⟩) (fun g1=>iteF (Yo ?_))⟩
    ·have g1':decide (q.1∈ls)=true:=g1;have g2':decide (q.2∈ls)=true:=g2;rw[g1',g2'];rfl
    ·have g2':decide (q.2∈ls)=false:=WA.mpr g2;rw[g2',Bool.and_false];exact Y7
    ·have g1':decide (q.1∈ls)=false:=WA.mpr g1;rw[g1',WY];exact Y7
   rw[Xt (fun q:Int×Int=>decide (q.1∈ls)&&decide (q.2∈ls))];show _;refine UC (xs:=K4 ws ls) (emb:=prD) (fun q=>some (.int q.2)) (by omega) (fun q hq=>⟨_,rfl,_,rfl,rfl⟩) ?_;rw[mapD (fun q:Int×Int=>D.int q.2),show(K4 ws ls).map (fun q:Int×Int=>D.int q.2)=((K4 ws ls).map (·.2)).map D.int by rw[Wk];rfl];refine UC (xs:=ls) (emb:=D.int) (fun h=>if decide (h∈(K4 ws ls).map (·.2))=true then some (.int h)else none) (by omega) (fun h hh=>?_) ?_
   ·exact⟨_,.li _ _,ite2 (fun g=>⟨_,rfl,Yn g⟩) (fun g=>Yo g)⟩
   rw[Xt (fun h:Int=>decide (h∈(K4 ws ls).map (·.2)))];exact⟨by rw[e2];rfl,by rw[e2];exact Yy (Wc _ _) hl⟩
  ·rintro γ' ⟨rfl,hl⟩;refine⟨Wr _,?_⟩;have e:((Uk ws hs hs.length).map D.int).isEmpty=decide (Uk ws hs hs.length=[]):=by cases Uk ws hs hs.length<;>simp
   show R (.sh (.bl ((Uk ws hs hs.length).map D.int).isEmpty));rw[e];exact hR
def Ib(G:Glob K mg)(DD:Def K mg "_law_field_step" FI ["_law_strips","_law_deed_here"])
  : CI P w K mg base:=by
 refine DD.oz (k:=0) Th (fun _ _ _ _ _ _ E hr=>⟨_,(J7 (Pu.pz 2 Th.nd (jx K (pv 1) J6)) (J7 (JL (PW.pt (UF (JT Xa (pv 2) J6 (Ua _)) (UP (JT Xf (pv 2) (JB US (ln K G.len (pv 0)) (XS IP (by rfl) G.int boot_int (az (KB (TL (K:=K) (show _<cLine from hr.units0)) (jx K (pv 1) J6) Um (Ua _))))) (Ua _))))) (J9 (JF (JS (bz J6 (pv 0)))))
   JO) (J7 (Pu.pz 3 Th.nd (jx K (jx K (pv 0) (JB US (pv 2) J6)) J6)) (J7 (Pu.pz 4 Th.nd (jx K (jx K (pv 0) (JB US (pv 2) J6)) J6)) (J7 (JL (cq K hr (jx K (pv 1) J6) Um) (J7 (JL (PW.pt (UF (JT Xa (jx K (pv 1) J6) J6 (Ua _)) (UP (JT Xf (jx K (pv 1) J6) J6 (Ua _))))) (J9 (JF (JS (bz J6 (pv 0)))))
   JO) (J7 (JL (cq K hr (jx K (pv 1) J6) (pv 3)) (J9 (JF (JS (bz J6 (pv 0)))))
   JO) (J9 (JF (JS (bz J6 (JB Xr (JB Xr (Xv (Xx (K:=K)) (pv 0) X6 (Xj (JB US (pv 2) J6))) (JS (az (Ub (bz (jx K (pv 1) J6) (pv 4)))))) (Xv (Xx (K:=K)) (pv 0) (Xj (pv 2)) X6))))))))
   JO) (J7 (JL (cq K hr (jx K (pv 1) J6) Um) (J7 (JL (PW.pt (UF (JT Xa (jx K (pv 1) J6) J6 (Ua _)) (UP (JT P6 (jx K (pv 1) J6) (pv 4) (Ua _))))) (J9 (JF (JS (bz J6 (pv 0)))))
   JO) (J7 (JL (cq K hr (ln K G.len (pv 0)) J6) (J9 (JF (JS (bz J6 (pv 0)))))
   JO) (J7 (Pu.pz 5 Th.nd (JS (bz (Ub (bz (pv 3) (jx K (pv 1) J6))) (Ub (bz (pv 3) (JB US (pv 4) (jx K (pv 1) J6))))))) (J9 (JF (JS (bz J6 (JB Xr (JB Xr (Xv (Xx (K:=K)) (pv 0) X6 (Xj (JB US (pv 2) J6))) (pv 5)) (Xv (Xx (K:=K)) (pv 0) (Xj (pv 2)) X6)))))))))
   JO) (J7 (JL (cn K hr (jx K (jx K (pv 0) (pv 2)) J6) (pv 3)) (J9 (JF (JS (bz J6 (pv 0)))))
   JO) (J7 (JL (JT Xf (JB Ui (pv 4) (jx K (jx K (pv 0) (pv 2)) J6)) J6 (Ua _)) (J9 (JF (JS (bz J6 (pv 0)))))
   JO) (J9 (JF (JS (bz J6 (JB Xr (JB Xr (Xv (Xx (K:=K)) (pv 0) X6 (Xj (JB US (pv 2) J6))) (JS (az (Ub (bz (pv 3) (JB Ui (pv 4) (jx K (jx K (pv 0) (pv 2)) J6))))))) (Xv (Xx (K:=K)) (pv 0) (Xj (JB Ui (pv 2) J6)) X6)))))))))))))), (J8 (JH (JA (J2 1) J4) (JC 2)) (J8 (JP (UG (JG (Xc (J2 2) J4)) (JG (UY (J2 2) (UU (U1 (sz (J2 0))) (IX (sz (Uo (JA (J2 1) J4) Up))))))) (JM 0 (JJ (JR (tz J4 (J2 0))))) JN) (J8 (JH (JA (JA (J2 0) (UU (J2 2) J4)) J4) (JC 3)) (J8 (JH (JA (JA (J2 0) (UU (J2 2) J4)) J4) (JC 4)) (J8 (JP (JG (Uo (JA (J2 1) J4) Up)) (J8 (JP (UG (JG (Xc (JA (J2 1) J4) J4)) (JG (UY (JA (J2 1) J4) J4))) (JM 0 (JJ (JR (tz J4 (J2 0))))) JN) (J8 (JP (JG (Uo (JA (J2 1) J4) (J2 3))) (JM 0 (JJ (JR (tz J4 (J2 0))))) JN) (JJ (JR (tz J4 (Xl (Xl (X7 (J2 0) X1 (Xo (UU (J2 2) J4))) (JR (sz (Uc (tz (JA (J2 1) J4) (J2 4)))))) (X7 (J2 0) (Xo (J2 2)) X1))))))) JN) (J8 (JP (JG (Uo (JA (J2 1) J4) Up)) (J8 (JP (UG (JG (Xc (JA (J2 1) J4) J4)) (JG (PQ (JA (J2 1) J4) (J2 4)))) (JM 0 (JJ (JR (tz J4 (J2 0))))) JN) (J8 (JP (JG (Uo (U1 (sz (J2 0))) J4)) (JM 0 (JJ (JR (tz J4 (J2 0))))) JN) (J8 (JH (JR (tz (Uc (tz (J2 3) (JA (J2 1) J4))) (Uc (tz (J2 3) (UU (J2 4) (JA (J2 1) J4)))))) (JC 5)) (JJ (JR (tz J4 (Xl (Xl (X7 (J2 0) X1 (Xo (UU (J2 2) J4))) (J2 5)) (X7 (J2 0) (Xo (J2 2)) X1)))))))) JN) (J8 (JP (JG (Px (JA (JA (J2 0) (J2 2)) J4) (J2 3))) (JM 0 (JJ (JR (tz J4 (J2 0))))) JN) (J8 (JP (JG (UY (Uj (J2 4) (JA (JA (J2 0) (J2 2)) J4)) J4)) (JM 0 (JJ (JR (tz J4 (J2 0))))) JN) (JJ (JR (tz J4 (Xl (Xl (X7 (J2 0) X1 (Xo (UU (J2 2) J4))) (JR (sz (Uc (tz (J2 3) (Uj (J2 4) (JA (JA (J2 0) (J2 2)) J4))))))) (X7 (J2 0) (Xo (Uj (J2 2) J4)) X1)))))))))))))⟩) (.b fun ds R X h=>?_)
 ·obtain⟨f,x,rfl,hx,hz,hR⟩:=h;refine⟨rfl,?_⟩;have hl:(f.map prD).length=f.length:=Yi ..;have l1:∀p:Int,(cutD (f.map prD) none (some (p-1))).length<=1000:=fun p=>by have:=(KN (f.map prD) none (some (p-1))).length_le;rw[Yi]at this;omega
  have l2:∀p:Int,(cutD (f.map prD) (some p) none).length<=1000:=fun p=>by have:=(KN (f.map prD) (some p) none).length_le;rw[Yi]at this;omega
  cases x with
  |wish a b=>cases hx
  |drop a b=>cases hx
  |sell p h=>
   have hR:R (.own [.int (codeN (Xp f p h)),plD (if Xp f p h=none then Kk f p h else f)]):=hR
   have no:∀c:Str,Xp f p h=some c->R (.own [.int (codeN (some c)),plD f]):=fun c e=>by
    rw[e,Yo (by intro z;cases z)]at hR;exact hR
   unfold Xp at no hR
   have one:(p<1\/(f.length:Int)<p)->R (.own [.int 1,plD f]):=fun z=>by
    rw[←Sb];exact no _ (Yn z)
   refine⟨_,rfl,ite2 (fun g=>iteT ?_) (fun g=>⟨_,rfl,ite2 (fun g2=>?_) (fun g2=>?_)⟩)⟩
   ·exact⟨by simp,one (.inl (Yp g))⟩
   ·have g':(((f.map prD).length:Nat):Int)-0<p:=Yp g2;exact⟨by simp,one (.inr (by omega))⟩
   ·have n1:¬p<1:=fun z=>g (Yl z);have n2:¬(((f.map prD).length:Nat):Int)-0<p:=fun z=>g2 (Yl z);rw[Yo (by omega)]at no hR;have a1:=Ks (ps:=f) (p:=p) (by omega) (by omega);refine⟨_,a1,_,rfl,_,a1,_,rfl,_,rfl,?_⟩;refine⟨_,rfl,ite2 (fun g3=>iteT ?_) (fun g3=>⟨_,rfl,ite2 (fun g4=>?_) (fun g4=>?_)⟩)⟩
    ·have g':h<1:=Yp g3
     have:=no _ (Yn (by omega))
     rw[NC]at this;exact⟨by simp,this⟩
    ·have g':10<h:=Yp g4
     have:=no _ (Yn (by omega))
     rw[NC]at this;exact⟨by simp,this⟩
    ·have n3:¬h<1:=fun z=>g3 (Yl z);have n4:¬10<h:=fun z=>g4 (Yl z);rw[Yo (Wm.mpr ⟨by omega,by omega⟩)]at no hR;refine⟨_,rfl,ite2 (fun g5=>?_) (fun g5=>?_)⟩
     ·have g':h=(atP1 f p).1:=Yp g5
      have:=no _ (Yn g'.symm)
      rw[AE]at this;exact⟨by simp,this⟩
     ·have g':¬h=(atP1 f p).1:=fun z=>g5 (Yl z);rw[Yo (fun z=>g' z.symm),Yn rfl]at hR;have e:=Ah (ps:=f) (p:=p) (x:=(h,(atP1 f p).2)) (by omega) (by omega);refine⟨rfl,_,rfl,by simp,by simp,rfl,rfl,Yy (YR (l1 p) (Yr 1)) (by decide),rfl,rfl,rfl,Yy (YR (by rw[Yt];exact YR (l1 p) (Yr 1)) (l2 p)) (by decide),by simp,?_⟩;have e9:plD (Kk f p h)=.lst (cutD (f.map prD) none (some (p-1))++[prD (h,(atP1 f p).2)]++cutD (f.map prD) (some p) none):=YQ D.lst e.symm;rw[e9]at hR;exact hR
  |part p w=>
   have hR:R (.own [.int (codeN (UB f p w)),plD (if UB f p w=none then X9 f p w else f)]):=hR
   have no:∀c:Str,UB f p w=some c->R (.own [.int (codeN (some c)),plD f]):=fun c e=>by
    rw[e,Yo (by intro z;cases z)]at hR;exact hR
   unfold UB at no hR
   have one:(p<1\/(f.length:Int)<p)->R (.own [.int 1,plD f]):=fun z=>by
    rw[←Sb];exact no _ (Yn z)
   refine⟨_,rfl,ite2 (fun g=>iteT ?_) (fun g=>⟨_,rfl,ite2 (fun g2=>?_) (fun g2=>?_)⟩)⟩
   ·exact⟨by simp,one (.inl (Yp g))⟩
   ·have g':(((f.map prD).length:Nat):Int)-0<p:=Yp g2;exact⟨by simp,one (.inr (by omega))⟩
   ·have n1:¬p<1:=fun z=>g (Yl z);have n2:¬(((f.map prD).length:Nat):Int)-0<p:=fun z=>g2 (Yl z);rw[Yo (by omega)]at no hR;have a1:=Ks (ps:=f) (p:=p) (by omega) (by omega);refine⟨_,a1,_,rfl,_,a1,_,rfl,_,rfl,_,rfl,?_⟩;refine⟨_,rfl,ite2 (fun g3=>iteT ?_) (fun g3=>⟨_,rfl,ite2 (fun g4=>?_) (fun g4=>?_)⟩)⟩
    ·have:=no _ (Yn (.inl (Yp g3)))
     rw[Bh]at this;exact⟨by simp,this⟩
    ·have:=no _ (Yn (.inr (Yp g4)))
     rw[Bh]at this;exact⟨by simp,this⟩
    ·have n3:¬w<1:=fun z=>g3 (Yl z);have n4:¬(atP1 f p).2<=w:=fun z=>g4 (Yl z);rw[Yo (by omega)]at no hR;refine ite2 (fun g5=>?_) (fun g5=>?_)
     ·have g':(((f.map prD).length:Nat):Int)=40:=Yp g5
      have:=no _ (Yn (by omega))
      rw[Gg]at this;exact⟨by simp,this⟩
     ·have g':¬(((f.map prD).length:Nat):Int)=40:=fun z=>g5 (Yl z);rw[Yo (by omega),Yn rfl]at hR;refine⟨_,rfl,by simp,_,rfl,by simp,by simp,?_⟩;refine⟨rfl,rfl,rfl,Yy (YR (l1 p) (Yr 2)) (by decide),rfl,rfl,rfl,Yy (YR (by rw[Yt];exact YR (l1 p) (Yr 2)) (l2 p)) (by decide),by simp,?_⟩;have e9:plD (X9 f p w)=.lst (cutD (f.map prD) none (some (p-1))++[prD ((atP1 f p).1,w),prD ((atP1 f p).1,(atP1 f p).2-w)]++cutD (f.map prD) (some p) none):=YQ D.lst (AM (by omega)).symm;rw[e9]at hR;exact hR
  |unite p=>
   have hR:R (.own [.int (codeN (uniE f p)),plD (if uniE f p=none then uniL f p else f)]):=hR
   have no:∀c:Str,uniE f p=some c->R (.own [.int (codeN (some c)),plD f]):=fun c e=>by
    rw[e,Yo (by intro z;cases z)]at hR;exact hR
   unfold uniE at no hR
   have one:(p<1\/(f.length:Int)<=p)->R (.own [.int 1,plD f]):=fun z=>by
    rw[←Sb];exact no _ (Yn z)
   refine⟨_,rfl,ite2 (fun g=>iteT ?_) (fun g=>⟨_,rfl,ite2 (fun g2=>?_) (fun g2=>?_)⟩)⟩
   ·exact⟨by simp,one (.inl (Yp g))⟩
   ·have g':(((f.map prD).length:Nat):Int)-1<p:=Yp g2;exact⟨by simp,one (.inr (by omega))⟩
   ·have n1:¬p<1:=fun z=>g (Yl z);have n2:¬(((f.map prD).length:Nat):Int)-1<p:=fun z=>g2 (Yl z);rw[Yo (by omega)]at no hR;have a1:=Ks (ps:=f) (p:=p) (by omega) (by omega);have a2:=IJ (ps:=f) (p:=p) (by omega) (by omega);refine⟨_,a1,_,rfl,_,a1,_,rfl,_,rfl,_,rfl,?_⟩;refine⟨_,a2,_,rfl,ite2 (fun g3=>?_) (fun g3=>?_)⟩
    ·have g':¬(atP1 f (p+1)).1=(atP1 f p).1:=fun z=>by rw[Yl z]at g3;cases g3
     have:=no _ (Yn (fun z=>g' z.symm))
     rw[DE]at this;exact⟨by simp,this⟩
    ·have g':(atP1 f (p+1)).1=(atP1 f p).1:=YN fun z=>g3 (by rw[Y0 z];rfl);rw[Yo (Wm.mpr g'.symm)]at no hR;refine⟨_,a2,_,rfl,ite2 (fun g4=>?_) (fun g4=>?_)⟩
     ·have:=no _ (Yn (Yp g4))
      rw[E9]at this;exact⟨by simp,this⟩
     ·rw[Yo (fun z=>g4 (Yl z)),Yn rfl]at hR;refine⟨rfl,_,a2,_,rfl,by simp,by simp,rfl,rfl,Yy (YR (l1 p) (Yr 1)) (by decide),rfl,rfl,rfl,Yy (YR (by rw[Yt];exact YR (l1 p) (Yr 1)) (l2 (p+1))) (by decide),by simp,?_⟩;have e9:plD (uniL f p)=.lst (cutD (f.map prD) none (some (p-1))++[prD ((atP1 f p).1,(atP1 f p).2+(atP1 f (p+1)).2)]++cutD (f.map prD) (some (p+1)) none):=YQ D.lst (Dj (by omega)).symm;rw[e9]at hR;exact hR
def Zex(G:Glob K mg)(DD:Def K mg "_law_wish_step" FG ["_law_wishes","_law_deed_here"])
  : E6 P w K mg base:=by
 refine DD.oz (k:=0) Gx (fun _ _ _ _ _ _ E hr=>⟨_,(J7 (Pu.pz 2 Gx.nd (Ub (bz (jx K (pv 1) J6) (jx K (pv 1) J6)))) (J7 (JL (cq K hr (jx K (pv 1) J6) Um) (J7 (JL (JT (TR (K:=K) (show _<cLine from Uq hr)) (pv 2) (pv 0) (by with_unfolding_all rfl)) (J9 (JF (JS (bz J6 (pv 0)))))
   JO) (J9 (JF (JS (bz J6 (UR (N':=["_law_one","_law_pair_here"]) (φ:=[none,some 2]) rfl (Own.CompOk.of (by rfl)) (Us (K:=K) (pv 0)) (fun _ _ _ _ _=>⟨(gz 0 (show(["_law_one","_law_pair_here"]:List Str).Nodup from by decide +kernel)),(X0 (JT (A7 (K:=K) (show _<cLine from hr.units0)) (pv 0) (pv 1) (Ua _))),(pv 0)⟩)))))))
   JO) (J7 (JL (PW.pt (UF (JT Xa (UI (Zc1 (K:=K) rfl) (by rfl) G.min boot_min (az (pv 2))) J6 (Ua _)) (UP (JT Xf (UI (Zc9 (K:=K) rfl) (by rfl) G.max boot_max (az (pv 2))) J6 (Ua _))))) (J9 (JF (JS (bz J6 (pv 0)))))
   JO) (J7 (JL (cq K hr (jx K (pv 1) J6) (jx K (pv 1) J6)) (J9 (JF (JS (bz J6 (pv 0)))))
   JO) (J7 (JL (JT (X2 (K:=K) (show _<cLine from Uq hr)) (pv 2) (pv 0) (by with_unfolding_all rfl)) (J9 (JF (JS (bz J6 (pv 0)))))
   JO) (J7 (JL (cq K hr (ln K G.len (pv 0)) J6) (J9 (JF (JS (bz J6 (pv 0)))))
   JO) (J9 (JF (JS (bz J6 (JB Xr (pv 0) (JS (az (pv 2)))))))))))))), (J8 (JH (Uc (tz (JA (J2 1) J4) (JA (J2 1) J4))) (JC 2)) (J8 (JP (JG (Uo (JA (J2 1) J4) Up)) (J8 (JP (JG (UN (J2 2) (J2 0))) (JM 0 (JJ (JR (tz J4 (J2 0))))) JN) (JJ (JR (tz J4 (U3 (UW (J2 0)) (JC 0) (JG (Gy (J2 0) (J2 1))) (J2 0)))))) JN) (J8 (JP (UG (JG (Xc (HL (sz (J2 2))) J4)) (JG (UY (RM (sz (J2 2))) J4))) (JM 0 (JJ (JR (tz J4 (J2 0))))) JN) (J8 (JP (JG (Uo (JA (J2 1) J4) (JA (J2 1) J4))) (JM 0 (JJ (JR (tz J4 (J2 0))))) JN) (J8 (JP (JG (UN (J2 2) (J2 0))) (JM 0 (JJ (JR (tz J4 (J2 0))))) JN) (J8 (JP (JG (Uo (U1 (sz (J2 0))) J4)) (JM 0 (JJ (JR (tz J4 (J2 0))))) JN) (JM 2 (JJ (JR (tz J4 (Xl (J2 0) (JR (sz (J2 2))))))))))))))⟩) (.b fun ds R X h=>?_)
 ·obtain⟨w,x,rfl,hx,hz,hR⟩:=h;refine⟨rfl,?_⟩;have hl:(w.map prD).length=w.length:=Yi ..;cases x with
  |sell p h=>cases hx
  |part p h=>cases hx
  |unite p=>cases hx
  |drop a b=>
   refine⟨_,rfl,_,rfl,by simp,_,rfl,?_⟩;show ∃c,InR (prD (a,b)) (plD w) c/\_;have hR:R (.own [.int (codeN (UE w a b)),plD (if UE w a b=none then PL w a b else w)]):=hR;refine⟨_,.lp (a,b) w,ite2 (fun g=>?_) (fun g=>?_)⟩
   ·have g':¬(a,b)∈w:=fun z=>by rw[Yn rfl,Yl z]at g;cases g
    have e:UE w a b=some ("NoWish" : Str):=Yo g';rw[e,Gv,Yo (by intro z;cases z)]at hR;exact⟨by simp,hR⟩
   ·have g':(a,b)∈w:=YN fun z=>g (by rw[Yn rfl,Y0 z];rfl);have e:UE w a b=none:=Yn g';rw[e,Yn rfl]at hR;refine UC (xs:=w) (emb:=prD) (fun q=>if (!decide (q=(a,b)))=true then some (prD q)else none) (by omega) (fun q hq=>?_) ?_
    ·refine⟨[q.1,q.2],[a,b],rfl,rfl,?_⟩;have e:decide ([q.1,q.2]=[a,b])=decide (q=(a,b)):=Zbm q (a,b);show if (!decide ([q.1,q.2]=[a,b]))=true then _ else _;rw[e];exact ite2 (fun h=>⟨_,rfl,Yn h⟩) (fun h=>Yo h)
    ·rw[Xt (fun q:Int×Int=>!decide (q=(a,b)))];exact⟨by simp,hR⟩
  |wish a b=>
   refine⟨_,rfl,_,rfl,by simp,_,rfl,?_⟩;have hR:R (.own [.int (codeN (U4 w a b)),plD (if U4 w a b=none then w++[(a,b)]else w)]):=hR
   have no:∀c:Str,U4 w a b=some c->R (.own [.int (codeN (some c)),plD w]):=fun c e=>by
    rw[e,Yo (by intro z;cases z)]at hR;exact hR
   have bad:¬((1<=a/\a<=10)/\(1<=b/\b<=10))->R (.own [.int 2,plD w]):=fun z=>by
    rw[←NC];refine no _ ?_;unfold U4;by_cases c1:1<=a/\a<=10
    ·rw[Yo (Wm.mpr c1),Yn (fun y=>z ⟨c1,y⟩)]
    ·rw[Yn c1]
   have mn:∀x y:Int,(if y<x then y else x)<=x/\(if y<x then y else x)<=y/\((if y<x then y else x)=x\/(if y<x then y else x)=y):=fun x y=>by split<;>omega
   have mx:∀x y:Int,x<=(if y>x then y else x)/\y<=(if y>x then y else x)/\((if y>x then y else x)=x\/(if y>x then y else x)=y):=fun x y=>by split<;>omega
   have m1:=mn a b;have m2:=mx a b;refine ite2 (fun g=>iteT ?_) (fun g=>ite2 (fun g2=>?_) (fun g2=>?_))
   ·have g':(if b<a then b else a)<1:=Yp g;exact⟨by simp,bad (by omega)⟩
   ·have g':10<(if b>a then b else a):=Yp g2;exact⟨by simp,bad (by omega)⟩
   ·have n1:¬(if b<a then b else a)<1:=fun z=>g (Yl z);have n2:¬10<(if b>a then b else a):=fun z=>g2 (Yl z);have c1:1<=a/\a<=10:=by omega
    have c2:1<=b/\b<=10:=by omega
    unfold U4 at no hR;rw[Yo (Wm.mpr c1),Yo (Wm.mpr c2)]at no hR;refine⟨_,rfl,_,rfl,ite2 (fun g3=>?_) (fun g3=>?_)⟩
    ·have:=no _ (Yn (Yp g3))
     rw[GK]at this;exact⟨by simp,this⟩
    ·have n3:¬a=b:=fun z=>g3 (Yl z);rw[Yo n3]at no hR;show ∃c,InR (prD (a,b)) (plD w) c/\_;refine⟨_,.lp (a,b) w,ite2 (fun g4=>?_) (fun g4=>?_)⟩
     ·have:=no _ (Yn (Yp g4))
      rw[Gf]at this;exact⟨by simp,this⟩
     ·have n4:¬(a,b)∈w:=fun z=>g4 (Yl z);rw[Yo n4]at no hR;refine ite2 (fun g5=>?_) (fun g5=>?_)
      ·have g':(((w.map prD).length:Nat):Int)=20:=Yp g5
       have:=no _ (Yn (by omega))
       rw[G6]at this;exact⟨by simp,this⟩
      ·have g':¬(((w.map prD).length:Nat):Int)=20:=fun z=>g5 (Yl z);rw[Yo (by omega),Yn rfl]at hR;refine⟨by simp,rfl,rfl,Yy (YR (W8 hl) (Yr 1)) (by omega),by simp,?_⟩;have e9:plD (w++[(a,b)])=.lst (w.map prD++[prD (a,b)]):=YQ D.lst Y5;rw[e9]at hR;exact hR
def Zb2(G:Glob K mg)(DD:Def K mg "_law_odd" BV ["_law_cell","_law_good"])
  : Bt P w K mg base:=by
 refine DD.oz (k:=0) OY (fun _ _ _ _ _ _ E hr=>⟨_,(J7 (JL (cq K hr (JB Ud (pv 0) J6) J6) (J9 (JF (jx K (JS (JQ J6 (JQ J6 (JQ (UX Xi J6) (JQ (JB Bl J6 J6) Uh))))) (JB Ud (JB Uy (pv 0) J6) J6))))
   JO) (J9 (JF (pv 1)))), (J8 (JP (JG (Uo (Ue (J2 0) J4) J4)) (JJ (JA (JR (JY J4 (JY J4 (JY (Xh J4) (JY (BI J4 J4) JW))))) (Ue (Uw (J2 0) J4) J4))) JN) (Ki 1))⟩) (.a fun ds R X h=>?_)
 ·obtain⟨c,g,rfl,hR⟩:=h;refine⟨rfl,?_⟩;have h4:0<=c / 7 % 4/\c / 7 % 4<4:=by omega
  refine⟨(by show(0:Int)<7;decide),ite2 (fun _=>?_) (fun _=>hR _)⟩;exact⟨⟨by decide,by decide,by decide⟩,by simp,⟨by decide,by decide⟩,(by show(0:Int)<4;decide),_,Po (f:=D.int) (xs:=[0,11,-3,10 ^ (30:Int).toNat]) h4.1 h4.2,hR _⟩
def Mv(G:Glob K mg)(DD:Def K mg "_law_place" Bv ["_law_cell","_law_strips"])
  : G8 P w K mg base:=by
 refine DD.oz (k:=0) Zb7 (fun _ _ _ _ _ _ E hr=>⟨_,(J7 (JL (cq K hr (JB Ud (pv 0) J6) J6) (J9 (JF (jx K (JS (JQ J6 (JQ (UX Xi J6) (JQ (JB Ui (ln K G.len (pv 1)) J6) (JQ (JB Bl J6 J6) Uh))))) (JB Ud (JB Uy (pv 0) J6) J6))))
   JO) (J7 (JL (JT (Cg (K:=K) (show _<cLine from hr.units0)) (pv 1) (JS Uh) (Ua _)) (J9 (JF J6))
   JO) (J9 (JF (JB Ui J6 (JB Ud (JB Uy (pv 0) J6) (ln K G.len (pv 1)))))))), (J8 (JP (JG (Uo (Ue (J2 0) J4) J4)) (JJ (JA (JR (JY J4 (JY (Xh J4) (JY (Uj (U1 (sz (J2 1))) J4) (JY (BI J4 J4) JW))))) (Ue (Uw (J2 0) J4) J4))) JN) (J8 (JP (JG (B4 (J2 1) (JR JW))) (JJ J4) JN) (JJ (Uj J4 (Ue (Uw (J2 0) J4) (U1 (sz (J2 1))))))))⟩) (.a fun ds R X h=>?_)
 ·obtain⟨c,ps,rfl,hz,hR⟩:=h;refine⟨rfl,?_⟩;have h4:0<=c / 11 % 4/\c / 11 % 4<4:=by omega
  have hl:(ps.map prD).length=ps.length:=Yi ..;refine⟨(by show(0:Int)<11;decide),ite2 (fun _=>?_) (fun _=>?_)⟩
  ·exact⟨⟨by decide,by decide,by decide⟩,by simp,⟨by decide,by decide⟩,(by show(0:Int)<4;decide),_,Po (f:=D.int) (xs:=[0,-1,(((ps.map prD).length:Nat):Int)+1,10 ^ (30:Int).toNat]) h4.1 h4.2,hR _⟩
  ·refine⟨by simp,?_⟩;have emp:(ps.map prD).isEmpty=decide (ps=[]):=by cases ps<;>simp
   show if (ps.map prD).isEmpty=true then _ else _;rw[emp];refine ite2 (fun _=>hR _) (fun g=>?_);have hne:0<ps.length:=Qf.mpr fun z=>g (Yl z);exact⟨⟨by decide,by decide⟩,(by show 0<(((ps.map prD).length:Nat):Int);omega),hR _⟩
def L3(G:Glob K mg)(DD:Def K mg "_law_width" BQ ["_law_cell","_law_strips","_law_place_here"])
  : D7 P w K mg base:=by
 refine DD.oz (k:=0) HU (fun _ _ _ _ _ _ E hr=>⟨_,(J7 (JL (PW.pt (UF (JT Xa (pv 2) J6 (Ua _)) (UF (JT Xf (pv 2) (ln K G.len (pv 1)) (Ua _)) (UP (cq K hr (JB Ud (pv 0) J6) J6))))) (J9 (JF (jx K (JS (JQ J6 (JQ (UX Xi J6) (JQ J6 (JQ J6 (JQ J6 (JQ J6 (JQ (JB Bl J6 J6) Uh)))))))) (JB Ud (JB Uy (pv 0) J6) J6))))
   JO) (J9 (JF (JB Ud (JB Uy (pv 0) J6) (JB Ui (jx K (jx K (pv 1) (JB US (pv 2) J6)) J6) J6))))), (J8 (JP (UG (JG (Xc (J2 2) J4)) (UG (JG (UY (J2 2) (U1 (sz (J2 1))))) (JG (Uo (Ue (J2 0) J4) J4)))) (JJ (JA (JR (JY J4 (JY (Xh J4) (JY J4 (JY J4 (JY J4 (JY J4 (JY (BI J4 J4) JW)))))))) (Ue (Uw (J2 0) J4) J4))) JN) (JJ (Ue (Uw (J2 0) J4) (Uj (JA (JA (J2 1) (UU (J2 2) J4)) J4) J4))))⟩) (.a fun ds R X h=>?_)
 ·obtain⟨c,ps,p,rfl,hz,hF,hR⟩:=h;refine⟨rfl,?_⟩;have hl:(ps.map prD).length=ps.length:=Yi ..;have h7:0<=c / 5 % 7/\c / 5 % 7<7:=by omega
  have out:∃v:Int,atI ([0,-1,1,1000,1001,999,10 ^ (30:Int).toNat].map D.int) (c / 5 % 7)=some (.int v):=⟨_,Po (f:=D.int) (xs:=[0,-1,1,1000,1001,999,10 ^ (30:Int).toNat]) h7.1 h7.2⟩;obtain⟨v,ev⟩:=out;refine ite2 (fun g=>iteT ?_) (fun g=>ite2 (fun g2=>iteT ?_) (fun g2=>⟨(by show(0:Int)<5;decide),ite2 (fun g3=>?_) (fun g3=>?_)⟩))
  ·exact⟨⟨by decide,by decide,by decide⟩,by simp,⟨by decide,by decide⟩,(by show(0:Int)<7;decide),_,ev,hR _⟩
  ·exact⟨⟨by decide,by decide,by decide⟩,by simp,⟨by decide,by decide⟩,(by show(0:Int)<7;decide),_,ev,hR _⟩
  ·exact⟨⟨by decide,by decide,by decide⟩,by simp,⟨by decide,by decide⟩,(by show(0:Int)<7;decide),_,ev,hR _⟩
  ·have n1:¬p<1:=fun z=>g (Yl z);have n2:¬(((ps.map prD).length:Nat):Int)<p:=fun z=>g2 (Yl z);have hm:=hF _ (NS (ps:=ps) (p:=p) (by omega) (by omega));exact⟨⟨by decide,by decide⟩,_,Ks (by omega) (by omega),_,rfl,(by show 0<(atP1 ps p).2+1;omega),hR _⟩
def L8(G:Glob K mg)(DD:Def K mg "check_strips" FF ["strips"])(Zk:N9 P w K mg base)(Zx:EC P w K mg base)
  : DW P w K mg base:=by
 refine DD.ox (k:=1) Bc (fun _ _ _ _ _ _ E hr=>⟨_,(J7 (JL (JT Xf (ln K G.len (pv 0)) (ExcR.X4 G.STRIPS) (Ua _)) (J9 (ExcR.Xe G.g_TooManyStrips.c G.m_TooManyStrips ExcR.Xb rfl (az (ExcR.pe_f (ExcR.XM (ExcR.Pa (ExcR.X4 G.STRIPS) (ExcR.XM ExcR.Pj)))))))
   JO) (J9 (UT ExcR.Gz rfl (Us (K:=K) (pv 0)) (Kr (K:=K) (n:=2) rfl (UQ (gz 1 Bc.nd) (UQ (gz 2 Bc.nd) Kn))) (J7 (Uv (UK Zk (hr.mono (by decide)) ExcR.Ux (az (pv 1)))) (J9 (Uv (UK Zx (hr.mono (by decide)) ExcR.Ux (az (pv 2))))))))), (J8 (JP (JG (UY (U1 (sz (J2 0))) J4)) (UZ (sz (se_f (XG (KU J4 (XG Pm)))))) JN) (JM 0 (UO [1,2] (XA (J2 0)) (K6 (Xm (JC 1) (Xm (JC 2) Kz))) (J8 (Xn (UV (sz (J2 1)))) (Xn (UV (sz (J2 2))))))))⟩) (.a fun ds R X h=>?_)
 ·obtain⟨ps,rfl,hz,hR⟩:=h;refine⟨rfl,?_⟩;have hl:(ps.map prD).length=ps.length:=Yi ..;unfold PP at hR;refine ite2 (fun g=>?_) (fun g=>?_)
  ·have g':(40:Int)<((ps.map prD).length:Int):=Yp g;rw[Yn (by omega)]at hR;exact⟨by decide,by decide,by decide,by decide,by decide,by simp,hR⟩
  ·have g':¬(40:Int)<((ps.map prD).length:Int):=fun z=>g (Yl z);rw[Yo (by omega)]at hR;refine⟨rfl,XC (xs:=ps) (emb:=prD) (fun i γ'=>γ'=[some (.bor (plD ps)),none,none]/\K8 (ps.drop i)=K8 ps) ⟨rfl,rfl⟩ ?_ ?_⟩
   ·rintro i hi γ' ⟨rfl,hf⟩;have ed:ps.drop i=ps[i]::ps.drop (i+1):=Qy hi;rw[ed,OV]at hf;generalize ps[i]=p at hf ⊢;refine⟨rfl,p.1,rfl,?_⟩;unfold PJ;by_cases c:1<=p.1/\p.1<=10
    ·rw[Yo (fun z=>z c)]at hf;rw[Yn c];refine⟨p.2,rfl,?_⟩;unfold Fi;by_cases c2:1<=p.2/\p.2<=1000
     ·rw[Yo (fun z=>z c2)]at hf;rw[Yn c2];exact⟨rfl,hf⟩
     ·rw[Yn c2]at hf;rw[Yo c2];rw[←hf]at hR;exact hR
    ·rw[Yn c]at hf;rw[Yo c];rw[←hf]at hR;exact hR
   ·rintro γ' ⟨rfl,hf⟩;rw[List.drop_length]at hf;rw[←hf]at hR;exact hR
def MF(G:Glob K mg)(DD:Def K mg "check_order" FW ["strips","order"])(Ze:PN P w K mg base)
  : EE P w K mg base:=by
 refine DD.ox (k:=1) IM (fun _ _ _ _ _ _ E hr=>⟨_,(J9 (JL (cn K hr (UI (Sd (K:=K) (w:=w) rfl) (by rfl) G.sorted boot_sorted (az (pv 1))) (fz Ze hr (az (pv 0)))) (J9 (ExcR.Xe G.g_BadOrder.c G.m_BadOrder ExcR.Xb rfl (az Um)))
   JO)), (JP (JG (Px (N2 (sz (J2 1))) (JK (sz (J2 0))))) (UZ (sz Up)) JN)⟩) (.a fun ds R X h=>?_)
 ·obtain⟨ps,os,rfl,hF,hz,hl,hR⟩:=h;refine⟨rfl,?_⟩;refine⟨os,rfl,hl,fun ns h1 h2=>⟨ps,rfl,hF,hz,_,_,rfl,rfl,?_⟩⟩;have q:=Oa (ps:=ps) h1 h2;unfold Ph at hR;refine ite2 (fun g=>?_) (fun g=>?_)
  ·have g':¬ns=JX ps:=fun z=>by rw[Yn rfl,Yl z]at g;cases g
   rw[Yo (fun z=>g' (q.mpr z))]at hR;exact⟨by simp,hR⟩
  ·have g':ns=JX ps:=YN fun z=>g (by rw[Yn rfl,Y0 z];rfl);rw[Yn (q.mp g')]at hR;exact hR
def OW(G:Glob K mg)(DD:Def K mg "ring_from" FE ["least","holders","wishes"])(Zy:Ej P w K mg base)
  : AC P w K mg base:=by
 refine DD.oz (k:=1) KY (fun _ _ _ _ _ _ E hr=>⟨_,(J7 (Pu.pz 3 KY.nd (JS (az (JS (az (pv 0)))))) (J7 (Pu.pz 4 KY.nd (UI (Sd (K:=K) (w:=w) rfl) (by rfl) G.sorted boot_sorted (az (UR (N':=["holder","least"]) (φ:=[none,some 0]) rfl (Own.CompOk.of (by rfl)) (Us (K:=K) (pv 1)) (fun _ _ _ _ _=>⟨(gz 0 (show(["holder","least"]:List Str).Nodup from by decide +kernel)),(X0 (JT Xf (pv 0) (pv 1) (Ua _))),(pv 0)⟩))))) (J7 (DK YT (U2 (K:=K) (pv 3)) (J7 (Pk (N':=["path","wishes","least"]) (φ:=[none,some 2,some 0]) (i:=5) KY.nd rfl rfl rfl (Own.CompOk.of (by rfl)) (Us (K:=K) (pv 3)) (fun _ _ _ _ _=>⟨(gz 0 (show(["path","wishes","least"]:List Str).Nodup from by decide +kernel)),(X0 (JT (X2 (K:=K) (show _<cLine from Uq hr)) (Ub (bz (jx K (pv 0) (UX Xi J6)) (pv 2))) (pv 1) (by with_unfolding_all rfl))),(pv 0)⟩)) (J7 (JL (U2 (K:=K) (pv 5)) (J9 (JF (jx K (pv 5) J6)))
   JO) (J7 (Pu.pz 3 KY.nd (fz Zy hr (dz (pv 3) (pv 4) (pv 2)))) (J7 (Pu.pz 6 KY.nd (UR (N':=["path"]) (φ:=[none]) rfl (Own.CompOk.of (by rfl)) (Us (K:=K) (pv 3)) (fun _ _ _ _ _=>⟨(gz 0 (show(["path"]:List Str).Nodup from by decide +kernel)),XN,(jx K (pv 0) (UX Xi J6))⟩))) (J9 (Pk (N':=["holder","reached"]) (φ:=[none,some 6]) (i:=4) KY.nd rfl rfl rfl (Own.CompOk.of (by rfl)) (Us (K:=K) (pv 4)) (fun _ _ _ _ _=>⟨(gz 0 (show(["holder","reached"]:List Str).Nodup from by decide +kernel)),(X0 (JT (TR (K:=K) (show _<cLine from Uq hr)) (pv 0) (pv 1) (by with_unfolding_all rfl))),(pv 0)⟩)))))))) (J9 (JF (JS Uh)))))), (J8 (JM 0 (JH (JR (sz (JR (sz (J2 0))))) (JC 3))) (J8 (JH (N2 (sz (U3 (UW (J2 1)) (JC 0) (JG (UY (J2 0) (J2 1))) (J2 0)))) (JC 4)) (J8 (Ck [5,6] (UD (J2 3)) (J8 (JM 0 (JH (U3 (UW (J2 3)) (JC 0) (JG (UN (Uc (tz (JA (J2 0) (Xh J4)) (J2 2))) (J2 1))) (J2 0)) (JC 5))) (J8 (JP (UD (J2 5)) (BR (JA (J2 5) J4)) JN) (J8 (JH (JK (uz (J2 3) (J2 4) (J2 2))) (JC 3)) (J8 (JH (U3 (UW (J2 3)) (JC 0) Kg (JA (J2 0) (Xh J4))) (JC 6)) (JH (U3 (UW (J2 4)) (JC 0) (JG (UN (J2 0) (J2 1))) (J2 0)) (JC 4))))))) (BR (JR JW)))))⟩) (.a fun ds R X h=>?_)
 ·obtain⟨l,hs,ws,rfl,hnd,hz,hR⟩:=h;refine⟨rfl,?_⟩;refine⟨by simp,by simp,UC (xs:=hs) (emb:=D.int) (fun h=>if decide (l<h)=true then some (.int h)else none) (by omega) (fun h _=>ite2 (fun g=>⟨_,rfl,Yn g⟩) (fun g=>Yo g)) ?_⟩;rw[GX fun h=>decide (l<h)];refine⟨hs.filter fun h=>decide (l<h),rfl,Vi (Wc _ _) (by omega),fun ls hp hsrt=>?_⟩;have hlt:ls.Pairwise (· < ·):=T4 hsrt (hp.nodup_iff.mpr (hnd.filter _))
  have hm:∀h,h∈ls↔Gr hs l h:=fun h=>by
   rw[hp.mem_iff,YG,W2];exact Iff.rfl
  have hlen:ls.length<=hs.length:=by
   rw[hp.length_eq];exact Wc _ _
  refine CQ (fun γ'=>∃k ps ls,γ'=[some (.sh (.int l)),some (.bor (.lst (hs.map D.int))),some (.bor (.lst (ws.map prD))),some (.own (ps.map (em l))),some (.own (ls.map D.int)),none,none]/\Lev hs ws l k ps ls/\ps.length<=60/\ls.length<=hs.length/\(k+ls.length<=hs.length\/(ps=[]/\k<=hs.length+1)))
   (fun γ=>2*Ar 4 γ+min 1 (Ar 3 γ)) ⟨0,[[]],ls,rfl,Lev.start hlt hm,by simp,hlen,.inl (by omega)⟩ ?_
  rintro γ' ⟨k,ps,ls,rfl,L,hpl,hll,hk⟩;have emp:(!(ps.map (em l)).isEmpty)=decide (ps≠[]):=by cases ps<;>simp
  show if (!(ps.map (em l)).isEmpty)=true then _ else _;rw[emp];refine ite2 (fun g=>?_) (fun g=>?_)
  ·have hne:ps≠[]:=Yp g;have hk':k+ls.length<=hs.length:=hk.elim id fun z=>absurd z.1 hne;have hpk:∀p∈ps,p.length<=60:=fun p hp=>by rw[(L.way p hp).1];omega
   refine UC (xs:=ps) (emb:=em l) (fun p=>if decide ((JU l p,l)∈ws)=true then some (em l p)else none) (by omega) (fun p hp=>⟨_,FJ l p,by simp,_,.lp (JU l p,l) ws,ite2 (fun g=>⟨_,rfl,Yn g⟩) (fun g=>Yo g)⟩) ?_;rw[Xt fun p=>decide ((JU l p,l)∈ws)];generalize ef:(ps.filter fun p=>decide ((JU l p,l)∈ws))=fs;have emp2:(!(fs.map (em l)).isEmpty)=decide (fs≠[]):=by cases fs<;>simp
   show if (!(fs.map (em l)).isEmpty)=true then _ else _;rw[emp2];refine ite2 (fun g2=>?_) (fun g2=>?_)
   ·have hfe:fs≠[]:=Yp g2;cases fs with
    |nil=>exact absurd rfl hfe
    |cons p r=>
     obtain⟨i,hi,e1,e2,e3⟩:=Gd ef;have hp:p∈ps:=by rw[←e1];exact YC hi
     refine⟨em l p,Xq _ _,hR (l::p) (L.found hi e1 (Yp e2) fun j hj hji z=>?_) (by have:=(L.way p hp).1;simp;omega)⟩
     have:=e3 j hj hji
     rw[Yl z]at this;cases this
   ·have hfe:fs=[]:=YN fun z=>g2 (Yl z)
    have hn:∀p∈ps,(JU l p,l)∉ws:=fun p hp z=>by
     have:p∈fs:=by rw[←ef];exact YG.mpr ⟨hp,Yl z⟩
     rw[hfe]at this;cases this
    refine⟨l,ps,ls,ws,rfl,L.srt,L.lsrt,fun p hp=>Yy (hpk p hp) (by decide),by omega,fun lg G hlg=>?_⟩;refine UC (xs:=lg) (emb:=em l) (fun p=>some (.int (JU l p))) (by omega) (fun p _=>⟨_,FJ l p,_,rfl,rfl⟩) ?_;have e1:lg.filterMap (fun p=>some (D.int (JU l p)))=(lg.map (JU l)).map D.int:=by rw[Ql,Wk];rfl
    rw[e1];refine UC (xs:=ls) (emb:=D.int) (fun h=>if decide (¬h∈lg.map (JU l))=true then some (.int h)else none) (by omega) (fun h _=>⟨_,.li h _,?_⟩) ?_
    ·by_cases c:h∈lg.map (JU l)
     ·simp only[Yl c];exact iteF (Yo (by simp[c]))
     ·simp only[Y0 c];exact iteT ⟨_,rfl,Yn (by simp[c])⟩
    rw[GX fun h=>decide (¬h∈lg.map (JU l))];have L':=L.next hn G rfl
    have hsub:∀h∈lg.map (JU l),h∈ls:=fun h hh=>by
     obtain⟨q,hq,e⟩:=YU.mp hh;obtain⟨p,x,⟨_,a⟩,rfl,_⟩:=G.mem q hq;rw[Xw]at e;rw[←e];exact a
    have hfl:=Wc (fun h=>decide (¬h∈lg.map (JU l))) ls
    have hless:lg≠[]->(ls.filter fun h=>decide (¬h∈lg.map (JU l))).length<ls.length:=fun hne=>by
     obtain⟨q,hq⟩:=List.exists_mem_of_ne_nil lg hne;have hm:JU l q∈ls:=hsub _ (Vd hq);refine Nat.lt_of_le_of_ne hfl fun z=>?_
     have:=List.filter_eq_self.mp (List.Sublist.eq_of_length (Vb (l:=ls)) z) (JU l q) hm
     rw[W2]at this;exact this (Vd hq)
    refine⟨⟨k+1,lg,_,rfl,L',by omega,by omega,?_⟩,?_⟩
    ·by_cases c:lg=[]
     ·exact .inr ⟨c,by omega⟩
     ·have:=hless c
      exact .inl (by omega)
    ·show 2*((ls.filter fun h=>decide (¬h∈lg.map (JU l))).map D.int).length+min 1 (lg.map (em l)).length<2*(ls.map D.int).length+min 1 (ps.map (em l)).length;rw[Yi,Yi,Yi,Yi]
     have:0<ps.length:=Qf.mpr hne
     by_cases c:lg=[]
     ·rw[c];rw[c]at hfl;simp only[List.length_nil];omega
     ·have:=hless c
      omega
  ·have hpe:ps=[]:=YN fun z=>g (Yl z);subst hpe;exact⟨by simp,hR [] L.over (by simp)⟩
def MY(G:Glob K mg)(DD:Def K mg "sold" BP ["strips","place","holder"])(Zp:SM P w K mg base)(Zk:N9 P w K mg base)
  : EH P w K mg base:=by
 refine DD.ox (k:=1) AV (fun _ _ _ _ _ _ E hr=>⟨_,(J7 (Uv (UK Zp (hr.mono (by decide)) ExcR.Ux (bz (pv 0) (pv 1)))) (J7 (Uv (UK Zk (hr.mono (by decide)) ExcR.Ux (az (pv 2)))) (J7 (Pu.pz 3 AV.nd (jx K (pv 0) (JB US (pv 1) J6))) (J7 (JL (cq K hr (jx K (pv 3) J6) (pv 2)) (J9 (ExcR.Xe G.g_OwnStrip.c G.m_OwnStrip ExcR.Xb rfl (az Um)))
   JO) (J9 (JF (JB Xr (JB Xr (Xv (Xx (K:=K)) (pv 0) X6 (Xj (JB US (pv 1) J6))) (JS (az (Ub (bz (pv 2) (jx K (pv 3) J6)))))) (Xv (Xx (K:=K)) (pv 0) (Xj (pv 1)) X6)))))))), (J8 (Xn (UV (tz (J2 0) (J2 1)))) (J8 (Xn (UV (sz (J2 2)))) (J8 (JH (JA (J2 0) (UU (J2 1) J4)) (JC 3)) (J8 (JP (JG (Uo (JA (J2 3) J4) (J2 2))) (UZ (sz Up)) JN) (JM 2 (JJ (Xl (Xl (X7 (J2 0) X1 (Xo (UU (J2 1) J4))) (JR (sz (Uc (tz (J2 2) (JA (J2 3) J4)))))) (X7 (J2 0) (Xo (J2 1)) X1))))))))⟩) (.a fun ds R X h=>?_)
 ·obtain⟨ps,p,h,rfl,hz,hR⟩:=h;refine⟨rfl,?_⟩;unfold Xp at hR;refine⟨ps,p,rfl,?_⟩;unfold NP;by_cases c:p<1\/(ps.length:Int)<p
  ·rw[Yn c]at hR ⊢;exact hR
  ·rw[Yo c]at hR ⊢;refine⟨h,rfl,?_⟩;unfold PJ;by_cases c2:1<=h/\h<=10
   ·rw[Yo (fun z=>z c2)]at hR;rw[Yn c2];refine⟨_,Ks (by omega) (by omega),?_⟩;have l1:(cutD (ps.map prD) none (some (p-1))).length<=1000:=by have:=(KN (ps.map prD) none (some (p-1))).length_le;rw[Yi]at this;omega
    have l2:(cutD (ps.map prD) (some p) none).length<=1000:=by have:=(KN (ps.map prD) (some p) none).length_le;rw[Yi]at this;omega
    refine⟨_,rfl,ite2 (fun g=>?_) (fun g=>?_)⟩
    ·have g':(atP1 ps p).1=h:=Yp g;rw[Yn g']at hR;exact⟨by simp,hR⟩
    ·have g':¬(atP1 ps p).1=h:=fun z=>g (Yl z);rw[Yo g']at hR;refine⟨Kc _,_,rfl,by simp,by simp,rfl,rfl,Yy (YR l1 (Yr 1)) (by decide),Kc _,rfl,rfl,Yy (YR (by rw[Yt];exact YR l1 (Yr 1)) l2) (by decide),?_⟩;have e:=Ah (ps:=ps) (p:=p) (x:=(h,(atP1 ps p).2)) (by omega) (by omega);show R (.own (cutD (ps.map prD) none (some (p-1))++[prD (h,(atP1 ps p).2)]++cutD (ps.map prD) (some p) none));rw[e];exact hR
   ·rw[Yn c2]at hR;rw[Yo c2];exact hR
def Za8(G:Glob K mg)(DD:Def K mg "parted" FU ["strips","place","width"])(Zp:SM P w K mg base)
  : EF P w K mg base:=by
 refine DD.ox (k:=1) CP (fun _ _ _ _ _ _ E hr=>⟨_,(J7 (Uv (UK Zp (hr.mono (by decide)) ExcR.Ux (bz (pv 0) (pv 1)))) (J7 (Pu.pz 3 CP.nd (jx K (pv 0) (JB US (pv 1) J6))) (J7 (JL (PW.pt (UF (JT Xa (pv 2) J6 (Ua _)) (UP (JT P6 (pv 2) (jx K (pv 3) J6) (Ua _))))) (J9 (ExcR.Xe G.g_BadPart.c G.m_BadPart ExcR.Xb rfl (az Um)))
   JO) (J7 (JL (JT P6 (ln K G.len (pv 0)) (ExcR.X4 G.STRIPS) (Ua _)) (J9 (ExcR.Xe G.g_TooManyStrips.c G.m_TooManyStrips ExcR.Xb rfl (az (ExcR.pe_f (ExcR.XM (ExcR.Pa (ExcR.X4 G.STRIPS) (ExcR.XM ExcR.Pj)))))))
   JO) (J9 (JF (JB Xr (JB Xr (Xv (Xx (K:=K)) (pv 0) X6 (Xj (JB US (pv 1) J6))) (JS (bz (Ub (bz (jx K (pv 3) J6) (pv 2))) (Ub (bz (jx K (pv 3) J6) (JB US (jx K (pv 3) J6) (pv 2))))))) (Xv (Xx (K:=K)) (pv 0) (Xj (pv 1)) X6)))))))), (J8 (Xn (UV (tz (J2 0) (J2 1)))) (J8 (JH (JA (J2 0) (UU (J2 1) J4)) (JC 3)) (J8 (JP (UG (JG (Xc (J2 2) J4)) (JG (PQ (J2 2) (JA (J2 3) J4)))) (UZ (sz Up)) JN) (J8 (JP (JG (PQ (U1 (sz (J2 0))) J4)) (UZ (sz (se_f (XG (KU J4 (XG Pm)))))) JN) (JM 2 (JJ (Xl (Xl (X7 (J2 0) X1 (Xo (UU (J2 1) J4))) (JR (tz (Uc (tz (JA (J2 3) J4) (J2 2))) (Uc (tz (JA (J2 3) J4) (UU (JA (J2 3) J4) (J2 2))))))) (X7 (J2 0) (Xo (J2 1)) X1))))))))⟩) (.a fun ds R X h=>?_)
 ·obtain⟨ps,p,w,rfl,hz,hR⟩:=h;refine⟨rfl,?_⟩;have hl:(ps.map prD).length=ps.length:=Yi ..;refine⟨ps,p,rfl,?_⟩;unfold UB at hR;unfold NP;by_cases c:p<1\/(ps.length:Int)<p
  ·rw[Yn c]at hR ⊢;exact hR
  ·rw[Yo c]at hR ⊢;refine⟨_,Ks (by omega) (by omega),?_⟩
   have go:¬(w<1\/(atP1 ps p).2<=w)->_:=fun c2=>by
    rw[Yo c2]at hR;exact hR
   by_cases c2:w<1\/(atP1 ps p).2<=w
   ·rw[Yn c2]at hR;refine ite2 (fun g=>iteT ⟨by simp,hR⟩) (fun g=>⟨_,rfl,ite2 (fun g2=>⟨by simp,hR⟩) (fun g2=>?_)⟩);have g':¬w<1:=fun z=>g (Yl z);have g2':¬(atP1 ps p).2<=w:=fun z=>g2 (Yl z);omega
   ·rw[Yo c2]at hR;refine ite2 (fun g=>absurd (Yp g) (by omega)) (fun g=>⟨_,rfl,ite2 (fun g2=>absurd (Yp g2) (by omega)) (fun g2=>?_)⟩);refine ite2 (fun g3=>?_) (fun g3=>?_)
    ·have g3':(40:Int)<=((ps.map prD).length:Int):=Yp g3;rw[Yn (by omega)]at hR;exact⟨by decide,by decide,by decide,by decide,by decide,by simp,hR⟩
    ·have g3':¬(40:Int)<=((ps.map prD).length:Int):=fun z=>g3 (Yl z);rw[Yo (by omega)]at hR;have l1:(cutD (ps.map prD) none (some (p-1))).length<=1000:=by have:=(KN (ps.map prD) none (some (p-1))).length_le;rw[Yi]at this;omega
     have l2:(cutD (ps.map prD) (some p) none).length<=1000:=by have:=(KN (ps.map prD) (some p) none).length_le;rw[Yi]at this;omega
     refine⟨Kc _,_,rfl,by simp,_,rfl,_,rfl,by simp,by simp,rfl,rfl,Yy (YR l1 (Yr 2)) (by decide),Kc _,rfl,rfl,Yy (YR (by rw[Yt];exact YR l1 (Yr 2)) l2) (by decide),?_⟩;rw[←AM (by omega)]at hR;exact hR
def Za4(G:Glob K mg)(DD:Def K mg "united" Sz ["strips","place"])(Zz:Ge P w K mg base)
  : Eh P w K mg base:=by
 refine DD.ox (k:=1) Ad (fun _ _ _ _ _ _ E hr=>⟨_,(J7 (Uv (UK Zz (hr.mono (by decide)) ExcR.Ux (bz (pv 0) (pv 1)))) (J7 (Pu.pz 2 Ad.nd (jx K (pv 0) (JB US (pv 1) J6))) (J7 (Pu.pz 3 Ad.nd (jx K (pv 0) (pv 1))) (J7 (JL (cn K hr (jx K (pv 2) J6) (jx K (pv 3) J6)) (J9 (ExcR.Xe G.g_UnlikeHolders.c G.m_UnlikeHolders ExcR.Xb rfl (az Um)))
   JO) (J7 (JL (JT Xf (JB Ui (jx K (pv 2) J6) (jx K (pv 3) J6)) (ExcR.X4 G.WIDEST) (Ua _)) (J9 (ExcR.Xe G.g_TooWide.c G.m_TooWide ExcR.Xb rfl (az (ExcR.pe_f (ExcR.XM (ExcR.Pa (ExcR.X4 G.WIDEST) (ExcR.XM ExcR.Pj)))))))
   JO) (J9 (JF (JB Xr (JB Xr (Xv (Xx (K:=K)) (pv 0) X6 (Xj (JB US (pv 1) J6))) (JS (az (Ub (bz (jx K (pv 2) J6) (JB Ui (jx K (pv 2) J6) (jx K (pv 3) J6))))))) (Xv (Xx (K:=K)) (pv 0) (Xj (JB Ui (pv 1) J6)) X6))))))))), (J8 (Xn (UV (tz (J2 0) (J2 1)))) (J8 (JH (JA (J2 0) (UU (J2 1) J4)) (JC 2)) (J8 (JH (JA (J2 0) (J2 1)) (JC 3)) (J8 (JP (JG (Px (JA (J2 2) J4) (JA (J2 3) J4))) (UZ (sz Up)) JN) (J8 (JP (JG (UY (Uj (JA (J2 2) J4) (JA (J2 3) J4)) J4)) (UZ (sz (se_f (XG (KU J4 (XG Pm)))))) JN) (JJ (Xl (Xl (X7 (J2 0) X1 (Xo (UU (J2 1) J4))) (JR (sz (Uc (tz (JA (J2 2) J4) (Uj (JA (J2 2) J4) (JA (J2 3) J4))))))) (X7 (J2 0) (Xo (Uj (J2 1) J4)) X1))))))))⟩) (.a fun ds R X h=>?_)
 ·obtain⟨ps,p,rfl,hz,hR⟩:=h;refine⟨rfl,?_⟩;have hl:(ps.map prD).length=ps.length:=Yi ..;refine⟨ps,p,rfl,?_⟩;unfold uniE at hR;by_cases c:p<1\/(ps.length:Int)<=p
  ·rw[Yn c]at hR ⊢;exact hR
  ·rw[Yo c]at hR ⊢
   have e2:atI (ps.map prD) p=some (prD (atP1 ps (p+1))):=by
    have:=Ks (ps:=ps) (p:=p+1) (by omega) (by omega)
    rwa[show p+1-1=p by omega]at this
   refine⟨_,Ks (by omega) (by omega),_,e2,_,rfl,_,rfl,ite2 (fun g=>?_) (fun g=>?_)⟩
   ·have g':¬(atP1 ps p).1=(atP1 ps (p+1)).1:=fun z=>by rw[Yl z]at g;cases g
    rw[Yn g']at hR;exact⟨by simp,hR⟩
   ·have g':(atP1 ps p).1=(atP1 ps (p+1)).1:=YN fun z=>g (by rw[Y0 z];rfl);rw[Yo (fun z=>z g')]at hR;refine⟨_,rfl,_,rfl,ite2 (fun g2=>?_) (fun g2=>?_)⟩
    ·rw[Yn (Yp g2)]at hR;exact⟨by decide,by decide,by decide,by decide,by decide,by simp,hR⟩
    ·rw[Yo (fun z=>g2 (Yl z))]at hR;have l1:(cutD (ps.map prD) none (some (p-1))).length<=1000:=by have:=(KN (ps.map prD) none (some (p-1))).length_le;rw[Yi]at this;omega
     have l2:(cutD (ps.map prD) (some (p+1)) none).length<=1000:=by have:=(KN (ps.map prD) (some (p+1)) none).length_le;rw[Yi]at this;omega
     refine⟨Kc _,_,rfl,_,rfl,_,rfl,by simp,by simp,rfl,rfl,Yy (YR l1 (Yr 1)) (by decide),Kc _,rfl,rfl,Yy (YR (by rw[Yt];exact YR l1 (Yr 1)) l2) (by decide),?_⟩;rw[←Dj (by omega)]at hR;exact hR
def MK(G:Glob K mg)(DD:Def K mg "with_wish" Ac ["wishes","ahead","behind"])(Zk:N9 P w K mg base)
  : Du P w K mg base:=by
 refine DD.ox (k:=1) Zd6 (fun _ _ _ _ _ _ E hr=>⟨_,(J7 (Uv (UK Zk (hr.mono (by decide)) ExcR.Ux (az (pv 1)))) (J7 (Uv (UK Zk (hr.mono (by decide)) ExcR.Ux (az (pv 2)))) (J7 (JL (cq K hr (pv 1) (pv 2)) (J9 (ExcR.Xe G.g_LikeHolders.c G.m_LikeHolders ExcR.Xb rfl (az Um)))
   JO) (J7 (JL (JT (X2 (K:=K) (show _<cLine from Uq hr)) (Ub (bz (pv 1) (pv 2))) (pv 0) (by with_unfolding_all rfl)) (J9 (ExcR.Xe G.g_WishStands.c G.m_WishStands ExcR.Xb rfl (az Um)))
   JO) (J7 (JL (JT P6 (ln K G.len (pv 0)) (ExcR.X4 G.MOST_WISHES) (Ua _)) (J9 (ExcR.Xe G.g_TooManyWishes.c G.m_TooManyWishes ExcR.Xb rfl (az (ExcR.pe_f (ExcR.XM (ExcR.Pa (ExcR.X4 G.MOST_WISHES) (ExcR.XM ExcR.Pj)))))))
   JO) (J9 (JF (JB Xr (pv 0) (JS (az (Ub (bz (pv 1) (pv 2))))))))))))), (J8 (Xn (UV (sz (J2 1)))) (J8 (Xn (UV (sz (J2 2)))) (J8 (JP (JG (Uo (J2 1) (J2 2))) (UZ (sz Up)) JN) (J8 (JP (JG (UN (Uc (tz (J2 1) (J2 2))) (J2 0))) (UZ (sz Up)) JN) (J8 (JP (JG (PQ (U1 (sz (J2 0))) J4)) (UZ (sz (se_f (XG (KU J4 (XG Pm)))))) JN) (JM 2 (JM 1 (JJ (Xl (J2 0) (JR (sz (Uc (tz (J2 1) (J2 2))))))))))))))⟩) (.a fun ds R X h=>?_)
 ·obtain⟨ws,a,b,rfl,hz,hR⟩:=h;refine⟨rfl,?_⟩;have hl:(ws.map prD).length=ws.length:=Yi ..;unfold U4 at hR;refine⟨a,rfl,?_⟩;unfold PJ;by_cases c1:1<=a/\a<=10
  ·rw[Yo (fun z=>z c1)]at hR;rw[Yn c1];refine⟨b,rfl,?_⟩;unfold PJ;by_cases c2:1<=b/\b<=10
   ·rw[Yo (fun z=>z c2)]at hR;rw[Yn c2];refine ite2 (fun g=>?_) (fun g=>?_)
    ·rw[Yn (Yp g)]at hR;exact⟨by simp,hR⟩
    ·rw[Yo (fun z=>g (Yl z))]at hR;refine⟨by simp,_,.lp (a,b) ws,ite2 (fun g2=>?_) (fun g2=>?_)⟩
     ·rw[Yn (Yp g2)]at hR;exact⟨by simp,hR⟩
     ·rw[Yo (fun z=>g2 (Yl z))]at hR;refine ite2 (fun g3=>?_) (fun g3=>?_)
      ·have g3':(20:Int)<=((ws.map prD).length:Int):=Yp g3;rw[Yn (by omega)]at hR;exact⟨by decide,by decide,by decide,by decide,by decide,by simp,hR⟩
      ·have g3':¬(20:Int)<=((ws.map prD).length:Int):=fun z=>g3 (Yl z);rw[Yo (by omega)]at hR;refine⟨by simp,by simp,Kc _,rfl,Yy (YR (Yy (W8 hl) hz) (Yr 1)) (by decide),?_⟩;rw[Y5]at hR;exact hR
   ·rw[Yn c2]at hR;rw[Yo c2];exact hR
  ·rw[Yn c1]at hR;rw[Yo c1];exact hR
def IS(G:Glob K mg)(DD:Def K mg "pair_costs" FC ["strips"])(Ze:PN P w K mg base)(Z0:Gm P w K mg base)
  : GB P w K mg base:=by
 refine DD.oz (k:=1) TH (fun _ _ _ _ _ _ E hr=>⟨_,(J7 (Pu.pz 1 TH.nd (fz Ze hr (az (pv 0)))) (J7 (Pu.pz 2 TH.nd Ry) (J7 (UT YT rfl (Us (K:=K) (pv 1)) (gz 3 TH.nd) (J9 (UT YT rfl (Us (K:=K) (pv 1)) (gz 4 TH.nd) (J9 (NG (Uq hr) (pv 2) (Ub (bz (pv 3) (pv 4))) (fz Z0 hr (dz (pv 0) (pv 3) (pv 4))) rfl))))) (J9 (JF (pv 2)))))), (J8 (JH (JK (sz (J2 0))) (JC 1)) (J8 (JH Za5 (JC 2)) (J8 (JM 1 (UO [3,4] (XA (J2 1)) (JC 3) (JM 1 (UO [4] (XA (J2 1)) (JC 4) (JM 4 (JM 3 (N1 2 (Uc (tz (J2 3) (J2 4))) (JK (uz (J2 0) (J2 3) (J2 4)))))))))) (Ki 2))))⟩) (.a fun ds R X h=>?_)
 ·obtain⟨ps,rfl,hF,hz,hR⟩:=h;refine⟨rfl,?_⟩;refine⟨ps,rfl,hF,hz,?_⟩;have hh:=Kt ps;generalize JX ps=hs at hh hR ⊢
  refine⟨rfl,XC (xs:=hs) (emb:=D.int) (fun i γ'=>∃kvs:List (List Key×V),γ'=[some (.bor (.lst (ps.map prD))),some (.sh (.lst (hs.map D.int))),some (.own (.dT kvs)),none,none]/\kvs.length<=i*10/\
   ∀x∈hs.take i,∀y∈hs,valV kvs [.inl x,.inl y]=some (.int (pcM ps x y ps.length))) ⟨[],rfl,by simp,by simp⟩ ?_ ?_⟩
  ·rintro i hi γ' ⟨kvs,rfl,hl,hv⟩
   refine⟨rfl,XC (xs:=hs) (emb:=D.int) (fun j γ'=>∃kvs:List (List Key×V),γ'=[some (.bor (.lst (ps.map prD))),some (.sh (.lst (hs.map D.int))),some (.own (.dT kvs)),some (.sh (.int hs[i])),none]/\kvs.length<=i*10+j/\
    (∀x∈hs.take i,∀y∈hs,valV kvs [.inl x,.inl y]=some (.int (pcM ps x y ps.length)))/\∀y∈hs.take j,valV kvs [.inl hs[i],.inl y]=some (.int (pcM ps hs[i] y ps.length))) ⟨kvs,rfl,by omega,hv,by simp⟩ ?_ ?_⟩
   ·rintro j hj γ' ⟨kvs,rfl,hl,hv,hw⟩;refine⟨ps,_,_,rfl,hF,by simp,_,_,rfl,rfl,by omega,_,rfl,Yy (TJ _ _ _) (by omega),fun x hx y hy=>?_,fun y hy=>?_⟩
    ·rw[T9];by_cases e:([.inl x,.inl y]:List Key)=[.inl hs[i],.inl hs[j]]
     ·rw[Yn e];simp only[Qz,Sum.inl.injEq,and_true]at e;rw[e.1,e.2]
     ·rw[Yo e];exact hv x hx y hy
    ·rw[T9];by_cases e:([.inl hs[i],.inl y]:List Key)=[.inl hs[i],.inl hs[j]]
     ·rw[Yn e];simp only[Qz,Sum.inl.injEq,and_true]at e;rw[e.2]
     ·rw[Yo e];rw[YD hj,Y4,Ym]at hy;rcases hy with hy|hy
      ·exact hw y hy
      ·subst hy;exact absurd rfl e
   ·rintro γ' ⟨kvs,rfl,hl,hv,hw⟩;rw[Wp]at hw;refine⟨kvs,rfl,by omega,fun x hx y hy=>?_⟩;rw[YD hi,Y4,Ym]at hx;rcases hx with hx|hx
    ·exact hv x hx y hy
    ·subst hx;exact hw y hy
  ·rintro γ' ⟨kvs,rfl,hl,hv⟩;rw[Wp]at hv;exact hR kvs hv
def Mf(G:Glob K mg)(DD:Def K mg "cost_with_last" FY ["members","last","least","pairs"])(Zl:NW P w K mg base)
  : EX P w K mg base:=by
 refine DD.oz (k:=1) A8 (fun _ _ _ _ _ _ E hr=>⟨_,(J7 (Pu.pz 4 A8.nd (fz Zl hr (bz (pv 0) (pv 1)))) (J9 (JF (JB Ui (Pr (Uq hr) (pv 2) (pv 4) (fun _ _=>rfl)) (UI (EZ (K:=K) rfl) (by rfl) G.sum boot_sum (az (UR (N':=["other","pairs","last"]) (φ:=[none,some 3,some 1]) rfl (Own.CompOk.of (by rfl)) (TY (K:=K) (pv 4)) (fun _ _ _ _ _=>⟨(gz 0 (show(["other","pairs","last"]:List Str).Nodup from by decide +kernel)),XN,(Pr (Uq hr) (pv 1) (Ub (bz (pv 0) (pv 2))) (fun _ _=>rfl))⟩)))))))), (J8 (JH (JK (tz (J2 0) (J2 1))) (JC 4)) (JM 1 (JJ (Uj (Pv (J2 2) (J2 4)) (AQ (sz (U3 (SndI.c (Tg (J2 4))) (JC 0) Kg (Pv (J2 1) (Uc (tz (J2 0) (J2 2)))))))))))⟩) (.a fun ds R X h=>?_)
 ·obtain⟨ms,l,le,pa,c,v,rfl,hz,hv,hc,hR⟩:=h;refine⟨rfl,?_⟩;rw[TC];have hz':(JZ ms l).length<=1000:=Yy less_sub.length_le hz;refine⟨ms,l,rfl,hz,_,_,Nu _,hv,rfl,_,rfl,UC (s:=.sh .non) (xs:=JZ ms l) (emb:=D.int) (fun m=>some (.int (c m))) (by omega) (fun m hm=>?_) ?_⟩
  ·exact⟨by simp,_,_,rfl,hc m hm,rfl,_,rfl,rfl⟩
  ·rw[mapD];exact⟨(JZ ms l).map c,by rw[Wk];rfl,hR⟩
def Zdz(G:Glob K mg)(DD:Def K mg "cost_with_first" F1 ["members","first","least","pairs"])(Zl:NW P w K mg base)
  : Ep P w K mg base:=by
 refine DD.oz (k:=1) CJ (fun _ _ _ _ _ _ E hr=>⟨_,(J7 (Pu.pz 4 CJ.nd (fz Zl hr (bz (pv 0) (pv 1)))) (J9 (JF (JB Ui (Pr (Uq hr) (pv 2) (pv 4) (fun _ _=>rfl)) (UI (EZ (K:=K) rfl) (by rfl) G.sum boot_sum (az (UR (N':=["other","pairs","first"]) (φ:=[none,some 3,some 1]) rfl (Own.CompOk.of (by rfl)) (TY (K:=K) (pv 4)) (fun _ _ _ _ _=>⟨(gz 0 (show(["other","pairs","first"]:List Str).Nodup from by decide +kernel)),XN,(Pr (Uq hr) (pv 1) (Ub (bz (pv 2) (pv 0))) (fun _ _=>rfl))⟩)))))))), (J8 (JH (JK (tz (J2 0) (J2 1))) (JC 4)) (JM 1 (JJ (Uj (Pv (J2 2) (J2 4)) (AQ (sz (U3 (SndI.c (Tg (J2 4))) (JC 0) Kg (Pv (J2 1) (Uc (tz (J2 2) (J2 0)))))))))))⟩) (.a fun ds R X h=>?_)
 ·obtain⟨ms,l,le,pa,c,v,rfl,hz,hv,hc,hR⟩:=h;refine⟨rfl,?_⟩;rw[TC];have hz':(JZ ms l).length<=1000:=Yy less_sub.length_le hz;refine⟨ms,l,rfl,hz,_,_,Nu _,hv,rfl,_,rfl,UC (s:=.sh .non) (xs:=JZ ms l) (emb:=D.int) (fun m=>some (.int (c m))) (by omega) (fun m hm=>?_) ?_⟩
  ·exact⟨by simp,_,_,rfl,hc m hm,rfl,_,rfl,rfl⟩
  ·rw[mapD];exact⟨(JZ ms l).map c,by rw[Wk];rfl,hR⟩
def MS(G:Glob K mg)(DD:Pu.DefM K (Meth K (ExcR.JD mg "Village") "drop") "drop" "Village.drop" Su ["self","ahead","behind"])(Zf:P7 P w K mg base)(Z1:D9 P w K mg base)(Zg:P1 P w K mg base)(Zc:Kq P w K mg base)(Zd:Kw P w K mg base)
  : AS P w K mg base:=by
 refine DD.ox (k:=1) Dt (fun _ _ _ _ _ _ E hr=>⟨_,(J7 (Uv (U6 Zf G.cl_Village (hr.mono (by decide)) ExcR.Ux (pv 0))) (J7 (Pu.pz 3 Dt.nd (UK Z1 (hr.mono (by decide)) ExcR.Ux (dz (U6 Zc G.cl_Village (hr.mono (by decide)) U7 (pv 0)) (pv 1) (pv 2)))) (J9 (JF (XW Zg G.cl_Village (hr.mono (by decide)) U7 (pv 0) (dz (Ub (dz Um (pv 1) (pv 2))) (U6 Zd G.cl_Village (hr.mono (by decide)) U7 (pv 0)) (pv 3))))))), (J8 (Xn (TU TX (J2 0) JW)) (J8 (JH (UV (uz (UL KF (J2 0) JW) (J2 1) (J2 2))) (JC 3)) (JM 2 (JM 1 (JM 3 (XU (PB 0 Nl (uz (Uc (uz Up (J2 1) (J2 2))) (UL K5 (J2 0) JW) (J2 3)))))))))⟩) (.c fun o ss R X h=>?_)
 ·obtain⟨x,b1,b2,b3,bk,fs,ws,f,w,p,h,rfl,rfl,hb,hf,hw,hz,hR⟩:=h;refine⟨rfl,?_⟩;unfold NN at hR;refine⟨rfl,rfl,bk,fs++[f],ws++[w],rfl,?_⟩;unfold KZ;by_cases c:100<=bk.length
  ·rw[Yn c]at hR ⊢;exact⟨_,rfl,⟨rfl,by simp⟩,hR⟩
  ·rw[Yo c]at hR ⊢;refine⟨rfl,rfl,bk,fs++[f],ws,w,rfl,w,p,h,rfl,hz,?_⟩;cases e:UE w p h with
   |some c=>
    rw[e]at hR;exact⟨_,rfl,⟨rfl,by simp⟩,hR⟩
   |none=>
    rw[e]at hR;refine⟨rfl,rfl,by simp,rfl,rfl,bk,fs,ws++[w],f,rfl,?_⟩;exact⟨x,b1,b2,b3,bk,fs++[f],ws++[w],("drop",[p,h]),f,PL w p h,rfl,rfl,hb,by rw[Yt];simp;omega,by rw[Yt];simp;omega,_,rfl,⟨rfl,by simp⟩,hR⟩
def LM(G:Glob K mg)(DD:Def K mg "_law_draw" F6 ["_law_script","_law_k"])(Zi:Tf P w K mg base)(Zb:Py P w K mg base)
  : Ae P w K mg base:=by
 refine DD.oz (k:=1) Zde (fun _ _ _ _ _ _ E hr=>⟨_,(J7 (JL (cq K hr (JB Ud (fz Zb hr (bz (pv 0) J6)) J6) J6) (J9 (JF (fz Zb hr (bz (pv 0) (JB Ui J6 (pv 1))))))
   JO) (J9 (JF (fz Zi hr (bz (fz Zb hr (bz (pv 0) J6)) (pv 1)))))), (J8 (JP (JG (Uo (Ue (JK (tz (J2 0) J4)) J4) J4)) (JJ (JK (tz (J2 0) (Uj J4 (J2 1))))) JN) (JJ (JK (tz (JK (tz (J2 0) J4)) (J2 1)))))⟩) (.a fun ds R X h=>?_)
 ·obtain⟨ns,k,rfl,hk,hR⟩:=h;refine⟨rfl,?_⟩;refine⟨ns,0,rfl,by decide,(by show(0:Int)<2;decide),ite2 (fun _=>?_) (fun _=>?_)⟩
  ·exact⟨ns,_,rfl,by omega,hR _⟩
  ·exact⟨ns,1,rfl,by decide,_,_,rfl,hR _⟩
def LR(G:Glob K mg)(DD:Def K mg "_law_row" BD ["_law_found","_law_due"])(Zm:NZ P w K mg base)
  : FM P w K mg base:=by
 refine DD.oz (k:=1) Ag (fun _ _ _ _ _ _ E hr=>⟨_,(J7 (JL (PW.pt (UF (Xk (U2 (K:=K) (UI (Ts (K:=K)) (by rfl) G.isinstance Q0 (bz (pv 0) (Ta (v:=.ty "list") rfl G.list boot_list rfl))))) (UP (cn K hr (ln K G.len (pv 0)) (ln K G.len (pv 1)))))) (J9 (JF Xd))
   JO) (J7 (UT YT rfl (TK rfl G.range (az (ln K G.len (pv 1)))) (gz 2 Ag.nd) (J9 (JL (PW.pt (UF (Xk (U2 (K:=K) (fz Zm hr (az (jx K (pv 0) (pv 2)))))) (UP (cn K hr (jx K (pv 0) (pv 2)) (jx K (pv 1) (pv 2)))))) (J9 (JF Xd))
   JO))) (J9 (JF Xd)))), (J8 (JP (UG (Xy (UD (TQ (tz (J2 0) Nn)))) (JG (Px (U1 (sz (J2 0))) (U1 (sz (J2 1)))))) (JJ Xg) JN) (J8 (UO [2] (T3 (sz (U1 (sz (J2 1))))) (JC 2) (JP (UG (Xy (UD (JK (sz (JA (J2 0) (J2 2)))))) (JG (Px (JA (J2 0) (J2 2)) (JA (J2 1) (J2 2))))) (JJ Xg) JN)) (JJ Xg)))⟩) (.a fun ds R X h=>?_)
 ·obtain⟨xs,rfl|rfl,hz,hR⟩:=h;refine⟨rfl,?_⟩
  ·have hl:(xs.map D.int).length=xs.length:=Yi ..;refine⟨_,.same _,iteF (Sl rfl ?_)⟩;refine⟨⟨by omega,by omega⟩,Tr (fun i γ'=>γ'=[some (.bor (.lst (xs.map D.int))),some (.bor (.lst (xs.map D.int))),none]) rfl ?_ ?_⟩
   ·rintro i γ' hi rfl;have hi':i<(((xs.map D.int).length:Nat):Int).toNat:=hi;have ez:(0:Int)+(i:Int)=(i:Int):=by omega
    have hb:i<xs.length:=by omega
    have ha:atI (xs.map D.int) (0+(i:Int))=some (.int xs[i]):=by rw[ez];exact T1 hb
    exact⟨_,ha,_,rfl,iteF ⟨_,ha,_,ha,Sl rfl rfl⟩⟩
   ·rintro γ' rfl;exact hR
  ·refine⟨rfl,?_⟩;have hl:(xs.map D.int).length=xs.length:=Yi ..;have hl2:((xs.length:Nat):Int)=(((xs.map D.int).length:Nat):Int):=by rw[hl]
   refine⟨_,.same _,iteF (Sl hl2 ?_)⟩;refine⟨⟨by omega,by omega⟩,Tr (fun i γ'=>γ'=[some (.sh (.fL xs)),some (.bor (.lst (xs.map D.int))),none]) rfl ?_ ?_⟩
   ·rintro i γ' hi rfl;have hi':i<(((xs.map D.int).length:Nat):Int).toNat:=hi;have ez:(0:Int)+(i:Int)=(i:Int):=by omega
    have hb:i<xs.length:=by omega
    have ha:atI (xs.map D.int) (0+(i:Int))=some (.int xs[i]):=by rw[ez];exact T1 hb
    have hc:atI xs (0+(i:Int))=some xs[i]:=by rw[ez];exact SE (Yj hb)
    exact⟨_,hc,_,rfl,iteF ⟨_,hc,_,ha,Sl rfl rfl⟩⟩
   ·rintro γ' rfl;exact hR
def Ig(G:Glob K mg)(DD:Def K mg "_law_is_ring" FV ["_law_ring","_law_holders","_law_wishes"])(Zm:NZ P w K mg base)
  : B5 P w K mg base:=by
 refine DD.oz (k:=1) GD (fun _ _ _ _ _ _ E hr=>⟨_,(J7 (JL (PW.pt (UF (Xk (U2 (K:=K) (UI (Ts (K:=K)) (by rfl) G.isinstance Q0 (bz (pv 0) (Ta (v:=.ty "list") rfl G.list boot_list rfl))))) (UP (JT Xa (ln K G.len (pv 0)) J6 (Ua _))))) (J9 (JF Xd))
   JO) (J7 (UT YT rfl (TK rfl G.range (az (ln K G.len (pv 0)))) (gz 3 GD.nd) (J7 (JL (PW.pt (UF (Xk (U2 (K:=K) (fz Zm hr (az (jx K (pv 0) (pv 3)))))) (UF (JT (TR (K:=K) (show _<cLine from Uq hr)) (jx K (pv 0) (pv 3)) (pv 1) (by with_unfolding_all rfl)) (UP (JT (X2 (K:=K) (show _<cLine from Uq hr)) (jx K (pv 0) (pv 3)) (Xv (Xx (K:=K)) (pv 0) X6 (Xj (pv 3))) (by with_unfolding_all rfl)))))) (J9 (JF Xd))
   JO) (J9 (JL (PW.pt (Km (JT Xf (pv 3) J6 (Ua _)) (KI (JT (TR (K:=K) (show _<cLine from Uq hr)) (Ub (bz (jx K (pv 0) (JB US (pv 3) J6)) (jx K (pv 0) (pv 3)))) (pv 2) (by with_unfolding_all rfl))))) (J9 (JF Xd))
   JO)))) (J9 (JF (KB (X2 (K:=K) (show _<cLine from Uq hr)) (Ub (bz (jx K (pv 0) (UX Xi J6)) (jx K (pv 0) J6))) (pv 2) (by with_unfolding_all rfl)))))), (J8 (JP (UG (Xy (UD (TQ (tz (J2 0) Nn)))) (JG (Xc (U1 (sz (J2 0))) J4))) (JJ Xg) JN) (J8 (UO [3] (T3 (sz (U1 (sz (J2 0))))) (JC 3) (J8 (JP (UG (Xy (UD (JK (sz (JA (J2 0) (J2 3)))))) (UG (JG (UN (JA (J2 0) (J2 3)) (J2 1))) (JG (UN (JA (J2 0) (J2 3)) (X7 (J2 0) X1 (Xo (J2 3))))))) (JJ Xg) JN) (JP (Kh (JG (UY (J2 3) J4)) (JG (UN (Uc (tz (JA (J2 0) (UU (J2 3) J4)) (JA (J2 0) (J2 3)))) (J2 2)))) (JJ Xg) JN))) (JJ (UN (Uc (tz (JA (J2 0) (Xh J4)) (JA (J2 0) J4))) (J2 2)))))⟩) (.a fun ds R X h=>?_)
 ·obtain⟨rs,hs,ws,rfl,hz,Rg,hR⟩:=h;refine⟨rfl,?_⟩;have two:=Rg.two;have hl:(rs.map D.int).length=rs.length:=Yi ..;refine⟨_,.same _,iteF ?_⟩;show if decide ((((rs.map D.int).length:Nat):Int)<2)=true then _ else _;rw[Y0 (by rw[hl];omega)];refine iteF ?_;refine⟨⟨by omega,by omega⟩,Tr (fun i γ'=>γ'=[some (.bor (.lst (rs.map D.int))),some (.bor (.lst (hs.map D.int))),some (.bor (.lst (ws.map prD))),none]) rfl ?_ ?_⟩
  ·rintro i γ' hi rfl;have hi':i<(((rs.map D.int).length:Nat):Int).toNat:=hi;have ez:(0:Int)+(i:Int)=(i:Int):=by omega
   have hb:i<rs.length:=by omega
   have ha:atI (rs.map D.int) (0+(i:Int))=some (.int rs[i]):=by rw[ez];exact T1 hb
   refine⟨_,ha,_,rfl,iteF ⟨_,ha,_,.li _ _,?_⟩⟩;show if (!decide (rs[i]∈hs))=true then _ else _;rw[Yl (Rg.sub _ (YC hb))];refine iteF ⟨_,ha,P2 _,?_⟩
   have ec:cutD (rs.map D.int) none (some (0+(i:Int)))=(rs.take i).map D.int:=by
    rw[KC,N0 rs (by omega),ez,YX]
   show ∃b,InR (.int rs[i]) (.lst (cutD (rs.map D.int) none (some (0+(i:Int))))) b/\_;rw[ec];refine⟨_,.li _ _,?_⟩;show if decide (rs[i]∈rs.take i)=true then _ else _
   have hni:rs[i]∉rs.take i:=fun z=>by
    obtain⟨j,hj,e⟩:=YE.mp z;rw[YJ]at hj;rw[Ws]at e
    have:=(List.getElem_inj (h₀:=by omega) (h₁:=hb) Rg.nodup).mp e
    omega
   rw[Y0 hni];refine iteF (ite2 (fun g=>?_) (fun g=>iteF rfl));have g':0<(0:Int)+(i:Int):=Yp g
   have ha':atI (rs.map D.int) (0+(i:Int)-1)=some (.int rs[i-1]):=by
    rw[show(0:Int)+(i:Int)-1=((i-1:Nat):Int) by omega];exact T1 (by omega)
   refine⟨_,ha',_,ha,by simp,_,.lp (rs[i-1],rs[i]) ws,?_⟩;show if (!decide ((rs[i-1],rs[i])∈ws))=true then _ else _;rw[Yl (Rg.chain (i-1) _ _ (Yj (by omega)) (by rw[show i-1+1=i by omega];exact Yj hb))];exact iteF rfl
  ·rintro γ' rfl;have hb0:0<rs.length:=by omega
   have hbl:rs.length-1<rs.length:=by omega
   have a1:atI (rs.map D.int) (-1)=some (.int rs[rs.length-1]):=by
    refine Pe (f:=D.int) ?_;unfold atI ixN;rw[Yo (by omega),Yn (by omega)];show rs[_]?=_;rw[show((-1:Int)+(rs.length:Int)).toNat=rs.length-1 by omega];exact Yj hbl
   have a2:atI (rs.map D.int) 0=some (.int rs[0]):=T1 hb0;refine⟨_,a1,_,a2,by simp,_,.lp (rs[rs.length-1],rs[0]) ws,?_⟩;show R (.sh (.bl (decide ((rs[rs.length-1],rs[0])∈ws))));rw[Yl (Rg.last _ _ (Yj hb0) (Yj hbl))];exact hR
def Zac(G:Glob K mg)(DD:Def K mg "_law_step" Fv ["_law_now","_law_deed_here"])(Z2:CI P w K mg base)(Z3:E6 P w K mg base)
  : Ee P w K mg base:=by
 refine DD.oz (k:=1) Fj (fun _ _ _ _ _ _ E hr=>⟨_,(J7 (JL (PW.pt (UF (cq K hr (jx K (pv 1) J6) Um) (UP (cq K hr (jx K (pv 1) J6) Um)))) (J7 (Pu.pz 2 Fj.nd (fz Z3 hr (bz (jx K (pv 0) J6) (pv 1)))) (J9 (JF (JS (dz (jx K (pv 2) J6) (jx K (pv 0) J6) (jx K (pv 2) J6))))))
   JO) (J7 (Pu.pz 2 Fj.nd (fz Z2 hr (bz (jx K (pv 0) J6) (pv 1)))) (J9 (JF (JS (dz (jx K (pv 2) J6) (jx K (pv 2) J6) (jx K (pv 0) J6))))))), (J8 (JP (UG (JG (Uo (JA (J2 1) J4) Up)) (JG (Uo (JA (J2 1) J4) Up))) (J8 (JM 1 (JH (BW (tz (JA (J2 0) J4) (J2 1))) (JC 2))) (JJ (JR (uz (JA (J2 2) J4) (JA (J2 0) J4) (JA (J2 2) J4))))) JN) (J8 (JM 1 (JH (BW (tz (JA (J2 0) J4) (J2 1))) (JC 2))) (JJ (JR (uz (JA (J2 2) J4) (JA (J2 2) J4) (JA (J2 0) J4))))))⟩) (.b fun ds R X h=>?_)
 ·obtain⟨f,w,ds,x,rfl,hz,hw,hR⟩:=h;refine⟨rfl,?_⟩;have at1:atI (plD f::plD w::ds) 1=some (plD w):=Na (by decide) rfl
  have land:∀x:Dd,x.land=true->R (.own [.int (codeN (x.err f w)),plD (x.nf f w),plD (x.nw f w)])->R (.own [.int (codeN (x.err f [])),plD (x.fld' f),plD w]):=fun x h k=>by
   have e:=x.err_land h f w [];have e2:x.wsh w=w:=by cases x<;>first|rfl|cases h
   unfold Dd.nf Dd.nw at k;rw[e2,e,ite_self]at k;unfold Dd.fld';exact k
  have wish:∀x:Dd,x.land=false->R (.own [.int (codeN (x.err f w)),plD (x.nf f w),plD (x.nw f w)])->R (.own [.int (codeN (x.err [] w)),plD f,plD (x.wsh' w)]):=fun x h k=>by
   have e:=x.err_wish h f [] w;have e2:x.fld f=f:=by cases x<;>first|rfl|cases h
   unfold Dd.nf Dd.nw at k;rw[e2,e,ite_self]at k;unfold Dd.wsh';exact k
  cases x with
  |sell p h=>exact⟨_,rfl,_,rfl,_,Xq _ _,f,.sell p h,rfl,rfl,hz,_,rfl,_,rfl,_,at1,by simp,land _ rfl hR⟩
  |part p h=>exact⟨_,rfl,_,rfl,_,Xq _ _,f,.part p h,rfl,rfl,hz,_,rfl,_,rfl,_,at1,by simp,land _ rfl hR⟩
  |unite p=>exact⟨_,rfl,_,rfl,_,Xq _ _,f,.unite p,rfl,rfl,hz,_,rfl,_,rfl,_,at1,by simp,land _ rfl hR⟩
  |wish a b=>exact⟨_,rfl,_,at1,w,.wish a b,rfl,rfl,hw,_,rfl,_,Xq _ _,_,rfl,by simp,wish _ rfl hR⟩
  |drop a b=>exact⟨_,rfl,_,rfl,_,at1,w,.drop a b,rfl,rfl,hw,_,rfl,_,Xq _ _,_,rfl,by simp,wish _ rfl hR⟩
def Io(G:Glob K mg)(DD:Def K mg "_law_start" Ab ["_law_script","_law_menu_here","_law_many"])(Zb:Py P w K mg base)(Zi:Tf P w K mg base)(Zh:Tt P w K mg base)
  : GW P w K mg base:=by
 refine DD.oz (k:=1) KE (fun _ _ _ _ _ _ E hr=>⟨_,(J7 (Pu.pz 3 KE.nd (fz Zb hr (bz (pv 0) J6))) (J7 (Pu.pz 4 KE.nd (JS Uh)) (J7 (UT YT rfl (TK rfl G.range (az (pv 2))) (gz 5 KE.nd) (J7 (Pu.pz 6 KE.nd (pv 3)) (KQ (JL (cq K hr (JB Ud (fz Zb hr (bz (pv 0) J6)) J6) J6) (J9 (Pu.pz 6 KE.nd (fz Zi hr (bz (fz Zb hr (bz (pv 0) J6)) (JB Ui J6 (pv 5))))))
   JO) (J7 (Pu.pz 7 KE.nd (JB Ui (jx K (pv 1) J6) (JB Ud (JB Uy (pv 6) (jx K (pv 1) J6)) (jx K (pv 1) J6)))) (J7 (Uv (Ku YI Wg Wh Ko (pv 4) (az (Ub (bz (fz Zh hr (bz (pv 1) (JB Ud (pv 6) (jx K (pv 1) J6)))) (pv 7)))))) (J9 (Pu.pz 3 KE.nd (JB Uy (JB Uy (pv 3) (jx K (pv 1) J6)) (jx K (pv 1) J6))))))))) (J9 (JF (pv 4)))))), (J8 (JH (JK (tz (J2 0) J4)) (JC 3)) (J8 (JH (JR JW) (JC 4)) (J8 (UO [5,6,7] (T3 (sz (J2 2))) (JC 5) (J8 (JM 3 (JH (J2 3) (JC 6))) (KP (JP (JG (Uo (Ue (JK (tz (J2 0) J4)) J4) J4)) (JH (JK (tz (JK (tz (J2 0) J4)) (Uj J4 (J2 5)))) (JC 6)) JN) (J8 (JH (Uj (JA (J2 1) J4) (Ue (Uw (J2 6) (JA (J2 1) J4)) (JA (J2 1) J4))) (JC 7)) (J8 (JM 7 (TB 4 (Uc (tz (JK (tz (J2 1) (Ue (J2 6) (JA (J2 1) J4)))) (J2 7))))) (JH (Uw (Uw (J2 3) (JA (J2 1) J4)) (JA (J2 1) J4)) (JC 3))))))) (Ki 4))))⟩) (.a fun ds R X h=>?_)
 ·obtain⟨ns,m,n,rfl,hM,h0,h1,hR⟩:=h;refine⟨rfl,?_⟩;have hMM:=hM;obtain⟨a,b,c,d,e,rfl,ha,hb,hc,hd,he⟩:=hM;refine⟨ns,2,rfl,by decide,by simp,⟨by omega,by omega⟩,Tr (fun i γ'=>∃(ps:List (Int×Int)) (r:Int),γ'=[some (.bor (.scr ns)),some (.bor (.lst (([a,b,c,d,e]:List Int).map D.int))),some (.sh (.int n)),some (.sh (.int r)),some (.own (ps.map prD)),none,none,none]/\Field ps/\ps.length=i) ⟨[],_,rfl,(fun q hq=>by cases hq),rfl⟩ ?_ ?_⟩
  ·rintro i γ' hi ⟨ps,r,rfl,hF,hl⟩;have hlm:(ps.map prD).length=ps.length:=Yi ..;have hi':i<n.toNat:=hi;refine KM (fun γ'=>∃(v:Int) (t:Option S),γ'=[some (.bor (.scr ns)),some (.bor (.lst (([a,b,c,d,e]:List Int).map D.int))),some (.sh (.int n)),some (.sh (.int r)),some (.own (ps.map prD)),t,some (.sh (.int v)),none]) ?_ ?_
   ·refine⟨ns,0,rfl,by decide,(by show(0:Int)<2;decide),ite2 (fun _=>?_) (fun _=>⟨_,_,rfl⟩)⟩;exact⟨ns,1,rfl,by decide,_,_,rfl,_,_,rfl⟩
   ·rintro γ' ⟨v,t,rfl⟩;have q1:=Int.emod_nonneg (v / a) (show d≠0 by omega);have q2:=Vl (v / a) (show 0<d by omega);refine⟨_,rfl,_,rfl,⟨by omega,by omega⟩,_,rfl,(by show 0<d;omega),_,rfl,(by show 0<a;omega),[a,b,c,d,e],_,rfl,hMM,fun h l1 l2 _=>⟨by simp,by omega,?_⟩⟩;refine⟨_,rfl,⟨by omega,by omega⟩,_,rfl,⟨by omega,by omega⟩,ps++[(h,e+v / a % d)],r / a / d,?_,fun q hq=>?_,by rw[Yt,hl];rfl⟩
    ·rw[Y5];rfl
    ·rcases Y4.mp hq with hq|hq
     ·exact hF q hq
     ·rw[Ym]at hq;subst hq;exact⟨l1,l2,by show 1<=e+v / a % d;omega,by show e+v / a % d<=1000;omega⟩
  ·rintro γ' ⟨ps,r,rfl,hF,hl⟩;exact hR ps hF hl
def LH(G:Glob K mg)(DD:Def K mg "_law_days" S8 ["_law_script","_law_most"])(Zi:Tf P w K mg base)(Zb:Py P w K mg base)
  : E1 P w K mg base:=by
 refine DD.oz (k:=1) M6 (fun _ _ _ _ _ _ E hr=>⟨_,(J7 (JL (cq K hr (JB Ud (fz Zb hr (bz (pv 0) J6)) J6) J6) (J9 (JF (Xv (Xx (K:=K)) (pv 0) (Xj J6) (Xj (JB Ui J6 (pv 1))))))
   JO) (J9 (JF (UR (N':=["_law_k","_law_script"]) (φ:=[none,some 0]) rfl (Own.CompOk.of (by rfl)) (TK rfl G.range (az (JB Ud (fz Zb hr (bz (pv 0) J6)) (JB Ui (pv 1) J6)))) (fun _ _ _ _ _=>⟨(gz 0 (show(["_law_k","_law_script"]:List Str).Nodup from by decide +kernel)),XN,(fz Zi hr (bz (fz Zb hr (bz (pv 1) J6)) (JB Ui J6 (pv 0))))⟩))))), (J8 (JP (JG (Uo (Ue (JK (tz (J2 0) J4)) J4) J4)) (JJ (Rv (J2 0) (Xo J4) (Xo (Uj J4 (J2 1))))) JN) (JJ (U3 (SndI.c (T3 (sz (Ue (JK (tz (J2 0) J4)) (Uj (J2 1) J4))))) (JC 0) Kg (JK (tz (JK (tz (J2 1) J4)) (Uj J4 (J2 0)))))))⟩) (.a fun ds R X h=>?_)
 ·obtain⟨ns,n,rfl,h0,h1,hR⟩:=h;refine⟨rfl,?_⟩;refine⟨ns,0,rfl,by decide,(by show(0:Int)<2;decide),ite2 (fun _=>?_) (fun _=>?_)⟩
  ·refine hR _ ?_;unfold Pu.cutD;rw[YJ]
   have e3:HT.sIx ns.length 0 (some 3)=min 3 ns.length:=by
    rw[show(3:Int)=((3:Nat):Int) by rfl,HT.NY]
   have e2:HT.sIx ns.length ns.length (some (3+n))=min (3+n).toNat ns.length:=by
    rw[show(3+n:Int)=(((3+n).toNat:Nat):Int) by omega,HT.NY];rfl
   rw[e3,e2];omega
  ·refine⟨ns,2,rfl,by decide,(by show 0<n+1;omega),?_⟩;have q1:=Int.emod_nonneg (ns.getD (2:Int).toNat 0) (show n+1≠0 by omega);have q2:=Vl (ns.getD (2:Int).toNat 0) (show 0<n+1 by omega);refine⟨⟨by omega,by omega⟩,CG (fun i=>some (.int (mixP (ns.getD (1:Int).toNat 0) (200+(0+(i:Int)))))) (by omega) (fun i hi=>⟨ns,1,rfl,by decide,_,_,rfl,_,rfl,rfl⟩) ?_⟩
   have e:(List.range (ns.getD (2:Int).toNat 0 % (n+1)).toNat).filterMap (fun i:Nat=>some (D.int (mixP (ns.getD (1:Int).toNat 0) (200+(0+(i:Int))))))=((List.range (ns.getD (2:Int).toNat 0 % (n+1)).toNat).map fun i:Nat=>mixP (ns.getD (1:Int).toNat 0) (200+(0+(i:Int)))).map D.int:=by
    rw[Ql,Wk];rfl
   rw[e];refine hR _ ?_;rw[Yi,List.length_range];omega
def Zaz(G:Glob K mg)(DD:Def K mg "_law_pair" BX ["_law_cell","_law_menu_here"])(Zo:Bt P w K mg base)(Zh:Tt P w K mg base)
  : NQ P w K mg base:=by
 refine DD.oz (k:=1) T7 (fun _ _ _ _ _ _ E hr=>⟨_,(J7 (Pu.pz 2 T7.nd (jx K (JS (JQ J6 (JQ (jx K (pv 1) J6) (JQ (jx K (pv 1) J6) (JQ (jx K (pv 1) J6) Uh))))) (JB Ud (pv 0) J6))) (J7 (Pu.pz 3 T7.nd (JB Ud (JB Uy (pv 0) J6) (pv 2))) (J7 (Pu.pz 4 T7.nd (JB Ud (JB Ui (JB Ui (pv 3) J6) (JB Ud (JB Uy (pv 0) J6) (UI (Gk rfl) (by rfl) G.max boot_max (bz J6 (JB US (pv 2) J6))))) (pv 2))) (J7 (Pu.pz 5 T7.nd (fz Zo hr (bz (JB Uy (pv 0) J6) (fz Zh hr (bz (pv 1) (pv 3)))))) (J9 (JF (Ub (bz (pv 5) (fz Zo hr (bz (JB Uy (pv 0) J6) (fz Zh hr (bz (pv 1) (pv 4))))))))))))), (J8 (JH (JA (JR (JY J4 (JY (JA (J2 1) J4) (JY (JA (J2 1) J4) (JY (JA (J2 1) J4) JW))))) (Ue (J2 0) J4)) (JC 2)) (J8 (JH (Ue (Uw (J2 0) J4) (J2 2)) (JC 3)) (J8 (JH (Ue (Uj (Uj (J2 3) J4) (Ue (Uw (J2 0) J4) (Da (tz J4 (UU (J2 2) J4))))) (J2 2)) (JC 4)) (J8 (JH (JK (tz (Uw (J2 0) J4) (JK (tz (J2 1) (J2 3))))) (JC 5)) (JM 5 (JJ (Uc (tz (J2 5) (JK (tz (Uw (J2 0) J4) (JK (tz (J2 1) (J2 4)))))))))))))⟩) (.a fun ds R X h=>?_)
 ·obtain⟨c,m,rfl,hM,hR⟩:=h;refine⟨rfl,?_⟩;have hMM:=hM;obtain⟨a,b,e,d,f,rfl,ha,hb,he,hd,hf⟩:=hM;have h4:0<=c % 4/\c % 4<4:=by omega
  obtain⟨pool,ep,hp⟩:∃p:Int,atI [D.int 10,.int a,.int a,.int a] (c % 4)=some (.int p)/\1<=p/\p<=10:=by
   have:c % 4=0\/c % 4=1\/c % 4=2\/c % 4=3:=by omega
   rcases this with e|e|e|e<;>rw[e]
   ·exact⟨10,rfl,by decide,by decide⟩
   ·exact⟨a,rfl,ha⟩
   ·exact⟨a,rfl,ha⟩
   ·exact⟨a,rfl,ha⟩
  have hmx:0<(if pool-1>1 then pool-1 else 1):=by split<;>omega
  refine⟨_,rfl,_,rfl,_,rfl,by simp,(by show(0:Int)<4;decide),_,ep,?_⟩;refine⟨⟨by decide,by decide⟩,(by show 0<pool;omega),⟨by decide,by decide⟩,hmx,(by show 0<pool;omega),?_⟩;refine⟨⟨by decide,by decide⟩,_,_,rfl,hMM,fun h1 _ _ _=>⟨_,_,rfl,fun v1=>?_⟩⟩;exact⟨⟨by decide,by decide⟩,_,_,rfl,hMM,fun h2 _ _ _=>⟨_,_,rfl,fun v2=>⟨by simp,hR v1 v2⟩⟩⟩
def Mo(G:Glob K mg)(DD:Def K mg "find_ring" Bp ["holders","wishes"])(Z4:AC P w K mg base)
  : Sw P w K mg base:=by
 refine DD.oz (k:=2) T5 (fun _ _ _ _ _ _ E hr=>⟨_,(J7 (Pu.pz 2 T5.nd (JS Uh)) (J7 (UT YT rfl (Us (K:=K) (UI (Sd (K:=K) (w:=w) rfl) (by rfl) G.sorted boot_sorted (az (pv 0)))) (gz 3 T5.nd) (J7 (Pu.pz 4 T5.nd (fz Z4 hr (dz (pv 3) (pv 0) (pv 1)))) (J9 (JL (PW.pt (Km (U2 (K:=K) (pv 4)) (KI (PW.pt (UF (Xk (U2 (K:=K) (pv 2))) (UP (JT Xa (ln K G.len (pv 4)) (ln K G.len (pv 2)) (Ua _)))))))) (J9 (Pu.pz 2 T5.nd (pv 4)))
   JO)))) (J9 (JF (pv 2))))), (J8 (JH (JR JW) (JC 2)) (J8 (JM 2 (UO [3,4] (XA (N2 (sz (J2 0)))) (JC 3) (J8 (JH (JK (uz (J2 3) (J2 0) (J2 1))) (JC 4)) (JP (Kh (UD (J2 4)) (UG (Xy (UD (J2 2))) (JG (Xc (U1 (sz (J2 4))) (U1 (sz (J2 2))))))) (JM 4 (JH (J2 4) (JC 2))) JN)))) (JM 2 (Ki 2))))⟩) (.a fun ds R X h=>?_)
 ·obtain⟨hs,ws,rfl,hnd,hz,hR⟩:=h;refine⟨rfl,?_⟩;refine⟨by simp,hs,rfl,by omega,fun ns hp hsrt=>?_⟩;have hlt:ns.Pairwise (· < ·):=T4 hsrt (hp.nodup_iff.mpr hnd);refine⟨rfl,XC (xs:=ns) (emb:=D.int) (fun i γ'=>∃r,γ'=[some (.bor (.lst (hs.map D.int))),some (.bor (.lst (ws.map prD))),some (.sh (.lst (r.map D.int))),none,none]/\r.length<=60/\FRi hs ws (ns.take i) r) ⟨[],rfl,by simp,.inl ⟨rfl,fun l hl=>by rw[QB]at hl;cases hl⟩⟩ ?_ ?_⟩
  ·rintro i hi γ' ⟨r,rfl,hrl,F⟩
   have hbef:∀m∈ns.take i,m<ns[i]:=fun m hm=>by
    obtain⟨j,hj,e⟩:=YE.mp hm;rw[YJ]at hj;rw[Ws]at e;rw[←e];exact YZ.mp hlt j i (by omega) hi (by omega)
   rw[YD hi];generalize ns[i]=l at hbef ⊢;refine⟨l,hs,ws,rfl,hnd,hz,fun f hf hfl=>?_⟩;have ef:(!(f.map D.int).isEmpty)=decide (f≠[]):=by cases f<;>simp
   have er:(!(r.map D.int).isEmpty)=decide (r≠[]):=by cases r<;>simp
   show if (!(f.map D.int).isEmpty)=true then _ else _;rw[ef];refine ite2 (fun g=>?_) (fun g=>iteF ⟨r,rfl,hrl,F.keep hbef hf (.inl (YN fun z=>g (Yl z)))⟩);have hfe:f≠[]:=Yp g;show if (!(!(r.map D.int).isEmpty))=true then _ else _;rw[er];by_cases hre:r=[]
   ·rw[Y0 (fun z=>z hre)];exact iteT (iteT ⟨f,rfl,hfl,F.take hbef hf ⟨hfe,.inl hre⟩⟩)
   ·rw[Yl hre];refine iteF ?_;show if decide (((f.map D.int).length:Int)<((r.map D.int).length:Int))=true then _ else _;rw[Yi,Yi];refine ite2 (fun g2=>?_) (fun g2=>?_)
    ·have:=Yp g2
     exact⟨f,rfl,hfl,F.take hbef hf ⟨hfe,.inr (by omega)⟩⟩
    ·have:¬(f.length:Int)<(r.length:Int):=fun z=>g2 (Yl z)
     exact⟨r,rfl,hrl,F.keep hbef hf (.inr ⟨hre,by omega⟩)⟩
  ·rintro γ' ⟨r,rfl,hrl,F⟩;rw[Wp]at F;exact hR r (F.all fun z=>hp.mem_iff) hrl
def MC(G:Glob K mg)(DD:Def K mg "least_costs" Fx ["strips","wishes","pairs"])(Z5:DU P w K mg base)(Ze:PN P w K mg base)(Z6:Eu P w K mg base)(Z7:EX P w K mg base)
  : Dv P w K mg base:=by
 refine DD.oz (k:=2) NX (fun _ _ _ _ _ _ E hr=>⟨_,(J7 (Pu.pz 3 NX.nd (Lu (Uq hr) (Ub Uh) J6)) (J7 (UT YT rfl (Us (K:=K) (Xv (Xx (K:=K)) (fz Z5 hr (az (fz Ze hr (az (pv 0))))) (Xj J6) X6)) (gz 4 NX.nd) (J7 (Pk (N':=["holder","members","wishes"]) (φ:=[none,some 4,some 1]) (i:=5) NX.nd rfl rfl rfl (Own.CompOk.of (by rfl)) (TY (K:=K) (pv 4)) (fun _ _ _ _ _=>⟨(gz 0 (show(["holder","members","wishes"]:List Str).Nodup from by decide +kernel)),(X0 (U2 (K:=K) (fz Z6 hr (dz (pv 1) (pv 0) (pv 2))))),(pv 0)⟩)) (J9 (NG (Uq hr) (pv 3) (pv 4) (UI (M0 (K:=K) rfl) (by rfl) G.min boot_min (az (UR (N':=["last","members","least","pairs"]) (φ:=[none,some 4,some 3,some 2]) rfl (Own.CompOk.of (by rfl)) (Us (K:=K) (pv 5)) (fun _ _ _ _ _=>⟨(gz 0 (show(["last","members","least","pairs"]:List Str).Nodup from by decide +kernel)),XN,(fz Z7 hr (JQ (pv 1) (JQ (pv 0) (JQ (pv 2) (JQ (pv 3) Uh)))))⟩)))) rfl)))) (J9 (JF (pv 3))))), (J8 (JH (Zb3 (Uc JW) J4) (JC 3)) (J8 (UO [4,5] (XA (X7 (JK (sz (JK (sz (J2 0))))) (Xo J4) X1)) (JC 4) (J8 (JH (U3 (SndI.c (Tg (J2 4))) (JC 0) (UD (JK (uz (J2 1) (J2 0) (J2 2)))) (J2 0)) (JC 5)) (N1 3 (J2 4) (HA (sz (U3 (UW (J2 5)) (JC 0) Kg (JK (JY (J2 1) (JY (J2 0) (JY (J2 2) (JY (J2 3) JW))))))))))) (Ki 3)))⟩) (.a fun ds R X h=>?_)
 ·obtain⟨ps,ws,pa,c,rfl,hF,hz,hw,hu,hc,hL,hR⟩:=h;refine⟨rfl,?_⟩;refine⟨by simp,_,_,rfl,rfl,?_⟩;refine⟨ps,rfl,hF,hz,_,rfl,Kt ps,?_⟩;have hh:=Kt ps;have nd:(JX ps).Nodup:=(Ke ps).imp (fun h=>Q9 h);generalize JX ps=hs at hh nd hc hL hR ⊢;have hsl:=CA hs;have hsub:=Nd hs;have hbef:=Au nd;have hsn:=Zaq nd
  have hlen:(Ul hs).length<=1024:=by
   rw[hsl];exact Nat.pow_le_pow_right (j:=10) (by decide) hh
  obtain⟨T,eT⟩:=Zau hs;rw[eT]at hsub hbef hsn hlen hR ⊢;refine⟨rfl,rfl,?_⟩
  have ec:Pu.cutD (List.map tD ([]::T)) (some 1) none=T.map tD:=by
   rw[KC,ND _ (by decide)];rfl
  rw[ec];refine XC (xs:=T) (emb:=tD) (fun i γ'=>∃kvs:List (List Key×V),γ'=[some (.bor (.lst (ps.map prD))),some (.bor (.lst (ws.map prD))),some (.bor (.dT pa)),some (.own (.dT kvs)),none,none]/\Tab ws c ([]::T.take i) kvs) ⟨_,rfl,O1 ws c⟩ ?_ ?_
  ·rintro i hi γ' ⟨kvs,rfl,ht⟩;have em:([]::T)[i+1]?=some T[i]:=by rw[Wd,Yj hi]
   have hmem:T[i]∈[]::T:=Y8 em;have hsm:=hsub _ hmem;have hne:T[i]≠[]:=fun e=>(Wa.mp hsn).1 (e▸YC hi)
   have hnew:T[i]∉[]::T.take i:=fun z=>by
    rcases Yx.mp z with z|z
    ·exact hne z
    ·obtain⟨j,hj,e⟩:=YE.mp z;rw[YJ]at hj;rw[Ws]at e;exact YZ.mp (Wa.mp hsn).2 j i (by omega) hi (by omega) e
   have hml:T[i].length<=10:=Yy hsm.length_le hh
   have hless:∀l∈T[i],JZ T[i] l∈[]::T.take i:=fun l hl=>by
    obtain⟨j,hj,e⟩:=hbef (i+1) _ em l hl
    have:([]::T.take i)=([]::T).take (i+1):=by rw[List.take_succ_cons]
    rw[this];refine Y8 (i:=j) ?_;rw[Wv hj];exact e
   have ndm:T[i].Nodup:=nd.sublist hsm
   have hkl:kvs.length<=1024:=by
    have:=YQ List.length ht.keys
    rw[Yi,Yi,Y6,YJ]at this;rw[Y6]at hlen;omega
   have etk:[]::T.take (i+1)=([]::T.take i)++[T[i]]:=by rw[YD hi];rfl
   rw[etk];generalize T[i]=ms at *;obtain⟨vs,hvs⟩:=El fun l hl=>ht.val _ (hless l hl);obtain⟨l0,hl0,hl0'⟩:=hL ms hsm hne;refine⟨_,rfl,UC (s:=.sh .non) (xs:=ms) (emb:=D.int) (fun h=>if Kl ws ms h=true then some (.int h)else none) (by omega) (fun h hm=>?_) ?_⟩
   ·refine⟨ms,h,ws,rfl,hw,?_⟩;refine ite2 (fun g=>⟨_,rfl,Yn g⟩) (fun g=>Yo g)
   ·rw[Xt (fun h=>Kl ws ms h)];refine UC (xs:=ms.filter (fun h=>Kl ws ms h)) (emb:=D.int) (fun l=>some (.int (vs l+((JZ ms l).map (c · l)).sum))) (Yy (Wc _ _) (by omega)) (fun l hl=>?_) ?_
    ·obtain⟨hl1,hl2⟩:=YG.mp hl;exact⟨ms,l,kvs,pa,(c · l),vs l,rfl,by omega,(hvs l hl1).1,fun m hm=>hc m (hsm.subset (less_sub.subset hm)) l (hsm.subset hl1),_,rfl,rfl⟩
    ·rw[mapD];refine⟨(ms.filter (fun h=>Kl ws ms h)).map fun l=>vs l+((JZ ms l).map (c · l)).sum,by rw[Wk];rfl,?_,fun M hM hle=>⟨_,_,Nu ms,rfl,by omega,_,rfl,ht.put hnew (Lj ndm hu (fun l hl=>(hvs l hl).2) ?_ ?_)⟩⟩
     ·rw[Yi];exact List.length_pos_of_mem (YG.mpr ⟨hl0,lastM_iff.mpr hl0'⟩)
     ·obtain⟨l,hl,e⟩:=YU.mp hM;obtain⟨hl1,hl2⟩:=YG.mp hl;exact⟨l,hl1,hl2,e.symm⟩
     ·intro l hl hlast;exact hle _ (YU.mpr ⟨l,YG.mpr ⟨hl,hlast⟩,rfl⟩)
  ·rintro γ' ⟨kvs,rfl,ht⟩;rw[Wp]at ht;exact hR kvs ht
def Zdc(G:Glob K mg)(DD:Pu.DefM K (Mk K (ExcR.JD mg "Village")) "__init__" "Village.__init__" FD ["self","strips"])(Z8:DW P w K mg base)
  : Ga P w K mg base:=by
 refine DD.ox (k:=2) Zcg (fun _ _ _ _ _ _ E hr=>⟨_,(J7 (Uv (UK Z8 (hr.mono (by decide)) ExcR.Ux (az (pv 1)))) (J7 (FA (pv 0) (JS Uh) rfl) (J7 (FA (pv 0) (JS (az (XS (PY (K:=K)) (by rfl) G.list boot_list (az (pv 1))))) rfl) (J9 (FA (pv 0) (JS (az (JS Uh))) rfl))))), (J8 (Xn (UV (sz (J2 1)))) (J8 (Bq 0 G.cl_Village G.n_Village_book Za9 (JR JW)) (J8 (Bq 0 G.cl_Village G.n_Village_fields RT (JR (sz (PR (sz (J2 1)))))) (Bq 0 G.cl_Village G.n_Village_wished Zel (JR (sz (JR JW)))))))⟩) (.c fun o ss R X h=>?_)
 ·obtain⟨x,ps,rfl,rfl,hz,hR⟩:=h;refine⟨rfl,?_⟩;refine⟨ps,rfl,hz,?_⟩;cases e:PP ps with
  |some c=>
   rw[e]at hR;exact⟨_,rfl,⟨rfl,by simp⟩,hR⟩
  |none=>
   rw[e]at hR;refine⟨by simp,rfl,rfl,by decide,fun b1=>?_⟩;refine⟨rfl,by simp,rfl,rfl,by decide,fun b2=>?_⟩;refine⟨by simp,by simp,rfl,rfl,by decide,fun b3=>?_⟩;exact⟨_,rfl,⟨rfl,by simp⟩,hR b1 b2 b3⟩
def Hy(G:Glob K mg)(DD:Pu.DefM K (Meth K (ExcR.JD mg "Village") "sell") "sell" "Village.sell" Bm ["self","place","holder"])(Zf:P7 P w K mg base)(Z9:EH P w K mg base)(Zg:P1 P w K mg base)(Zd:Kw P w K mg base)(Zc:Kq P w K mg base)
  : Er P w K mg base:=by
 refine DD.ox (k:=2) Dp (fun _ _ _ _ _ _ E hr=>⟨_,(J7 (Uv (U6 Zf G.cl_Village (hr.mono (by decide)) ExcR.Ux (pv 0))) (J7 (Pu.pz 3 Dp.nd (UK Z9 (hr.mono (by decide)) ExcR.Ux (dz (U6 Zd G.cl_Village (hr.mono (by decide)) U7 (pv 0)) (pv 1) (pv 2)))) (J9 (JF (XW Zg G.cl_Village (hr.mono (by decide)) U7 (pv 0) (dz (Ub (dz Um (pv 1) (pv 2))) (pv 3) (U6 Zc G.cl_Village (hr.mono (by decide)) U7 (pv 0)))))))), (J8 (Xn (TU TX (J2 0) JW)) (J8 (JH (UV (uz (UL K5 (J2 0) JW) (J2 1) (J2 2))) (JC 3)) (JM 2 (JM 1 (JM 3 (XU (PB 0 Nl (uz (Uc (uz Up (J2 1) (J2 2))) (J2 3) (UL KF (J2 0) JW)))))))))⟩) (.c fun o ss R X h=>?_)
 ·obtain⟨x,b1,b2,b3,bk,fs,ws,f,w,p,h,rfl,rfl,hb,hf,hw,hz,hR⟩:=h;refine⟨rfl,?_⟩;unfold Sh at hR;refine⟨rfl,rfl,bk,fs++[f],ws++[w],rfl,?_⟩;unfold KZ;by_cases c:100<=bk.length
  ·rw[Yn c]at hR ⊢;exact⟨_,rfl,⟨rfl,by simp⟩,hR⟩
  ·rw[Yo c]at hR ⊢;refine⟨rfl,rfl,bk,fs,ws++[w],f,rfl,f,p,h,rfl,hz,?_⟩;cases e:Xp f p h with
   |some c=>
    rw[e]at hR;exact⟨_,rfl,⟨rfl,by simp⟩,hR⟩
   |none=>
    rw[e]at hR;refine⟨rfl,rfl,by simp,rfl,rfl,bk,fs++[f],ws,w,rfl,?_⟩;exact⟨x,b1,b2,b3,bk,fs++[f],ws++[w],("sell",[p,h]),Kk f p h,w,rfl,rfl,hb,by rw[Yt];simp;omega,by rw[Yt];simp;omega,_,rfl,⟨rfl,by simp⟩,hR⟩
def Zbg(G:Glob K mg)(DD:Pu.DefM K (Meth K (ExcR.JD mg "Village") "part") "part" "Village.part" Bb ["self","place","width"])(Zf:P7 P w K mg base)(ZA:EF P w K mg base)(Zg:P1 P w K mg base)(Zd:Kw P w K mg base)(Zc:Kq P w K mg base)
  : Dy P w K mg base:=by
 refine DD.ox (k:=2) GP (fun _ _ _ _ _ _ E hr=>⟨_,(J7 (Uv (U6 Zf G.cl_Village (hr.mono (by decide)) ExcR.Ux (pv 0))) (J7 (Pu.pz 3 GP.nd (UK ZA (hr.mono (by decide)) ExcR.Ux (dz (U6 Zd G.cl_Village (hr.mono (by decide)) U7 (pv 0)) (pv 1) (pv 2)))) (J9 (JF (XW Zg G.cl_Village (hr.mono (by decide)) U7 (pv 0) (dz (Ub (dz Um (pv 1) (pv 2))) (pv 3) (U6 Zc G.cl_Village (hr.mono (by decide)) U7 (pv 0)))))))), (J8 (Xn (TU TX (J2 0) JW)) (J8 (JH (UV (uz (UL K5 (J2 0) JW) (J2 1) (J2 2))) (JC 3)) (JM 2 (JM 1 (JM 3 (XU (PB 0 Nl (uz (Uc (uz Up (J2 1) (J2 2))) (J2 3) (UL KF (J2 0) JW)))))))))⟩) (.c fun o ss R X h=>?_)
 ·obtain⟨x,b1,b2,b3,bk,fs,ws,f,w,p,h,rfl,rfl,hb,hf,hw,hz,hR⟩:=h;refine⟨rfl,?_⟩;unfold Sk at hR;refine⟨rfl,rfl,bk,fs++[f],ws++[w],rfl,?_⟩;unfold KZ;by_cases c:100<=bk.length
  ·rw[Yn c]at hR ⊢;exact⟨_,rfl,⟨rfl,by simp⟩,hR⟩
  ·rw[Yo c]at hR ⊢;refine⟨rfl,rfl,bk,fs,ws++[w],f,rfl,f,p,h,rfl,hz,?_⟩;cases e:UB f p h with
   |some c=>
    rw[e]at hR;exact⟨_,rfl,⟨rfl,by simp⟩,hR⟩
   |none=>
    rw[e]at hR;refine⟨rfl,rfl,by simp,rfl,rfl,bk,fs++[f],ws,w,rfl,?_⟩;exact⟨x,b1,b2,b3,bk,fs++[f],ws++[w],("part",[p,h]),X9 f p h,w,rfl,rfl,hb,by rw[Yt];simp;omega,by rw[Yt];simp;omega,_,rfl,⟨rfl,by simp⟩,hR⟩
def O0(G:Glob K mg)(DD:Pu.DefM K (Meth K (ExcR.JD mg "Village") "unite") "unite" "Village.unite" SO ["self","place"])(Zf:P7 P w K mg base)(ZC:Eh P w K mg base)(Zg:P1 P w K mg base)(Zd:Kw P w K mg base)(Zc:Kq P w K mg base)
  : GO P w K mg base:=by
 refine DD.ox (k:=2) ER (fun _ _ _ _ _ _ E hr=>⟨_,(J7 (Uv (U6 Zf G.cl_Village (hr.mono (by decide)) ExcR.Ux (pv 0))) (J7 (Pu.pz 2 ER.nd (UK ZC (hr.mono (by decide)) ExcR.Ux (bz (U6 Zd G.cl_Village (hr.mono (by decide)) U7 (pv 0)) (pv 1)))) (J9 (JF (XW Zg G.cl_Village (hr.mono (by decide)) U7 (pv 0) (dz (Ub (bz Um (pv 1))) (pv 2) (U6 Zc G.cl_Village (hr.mono (by decide)) U7 (pv 0)))))))), (J8 (Xn (TU TX (J2 0) JW)) (J8 (JH (UV (tz (UL K5 (J2 0) JW) (J2 1))) (JC 2)) (JM 1 (JM 2 (XU (PB 0 Nl (uz (Uc (tz Up (J2 1))) (J2 2) (UL KF (J2 0) JW))))))))⟩) (.c fun o ss R X h=>?_)
 ·obtain⟨x,b1,b2,b3,bk,fs,ws,f,w,p,rfl,rfl,hb,hf,hw,hz,hR⟩:=h;refine⟨rfl,?_⟩;unfold NK at hR;refine⟨rfl,rfl,bk,fs++[f],ws++[w],rfl,?_⟩;unfold KZ;by_cases c:100<=bk.length
  ·rw[Yn c]at hR ⊢;exact⟨_,rfl,⟨rfl,by simp⟩,hR⟩
  ·rw[Yo c]at hR ⊢;refine⟨rfl,rfl,bk,fs,ws++[w],f,rfl,f,p,rfl,hz,?_⟩;cases e:uniE f p with
   |some c=>
    rw[e]at hR;exact⟨_,rfl,⟨rfl,by simp⟩,hR⟩
   |none=>
    rw[e]at hR;refine⟨rfl,rfl,by simp,rfl,rfl,bk,fs++[f],ws,w,rfl,?_⟩;exact⟨x,b1,b2,b3,bk,fs++[f],ws++[w],("unite",[p]),uniL f p,w,rfl,rfl,hb,by rw[Yt];simp;omega,by rw[Yt];simp;omega,_,rfl,⟨rfl,by simp⟩,hR⟩
def Zd7(G:Glob K mg)(DD:Pu.DefM K (Meth K (ExcR.JD mg "Village") "wish") "wish" "Village.wish" Fc ["self","ahead","behind"])(Zf:P7 P w K mg base)(ZD:Du P w K mg base)(Zg:P1 P w K mg base)(Zc:Kq P w K mg base)(Zd:Kw P w K mg base)
  : Cy P w K mg base:=by
 refine DD.ox (k:=2) A6 (fun _ _ _ _ _ _ E hr=>⟨_,(J7 (Uv (U6 Zf G.cl_Village (hr.mono (by decide)) ExcR.Ux (pv 0))) (J7 (Pu.pz 3 A6.nd (UK ZD (hr.mono (by decide)) ExcR.Ux (dz (U6 Zc G.cl_Village (hr.mono (by decide)) U7 (pv 0)) (pv 1) (pv 2)))) (J9 (JF (XW Zg G.cl_Village (hr.mono (by decide)) U7 (pv 0) (dz (Ub (dz Um (pv 1) (pv 2))) (U6 Zd G.cl_Village (hr.mono (by decide)) U7 (pv 0)) (pv 3))))))), (J8 (Xn (TU TX (J2 0) JW)) (J8 (JH (UV (uz (UL KF (J2 0) JW) (J2 1) (J2 2))) (JC 3)) (JM 2 (JM 1 (JM 3 (XU (PB 0 Nl (uz (Uc (uz Up (J2 1) (J2 2))) (UL K5 (J2 0) JW) (J2 3)))))))))⟩) (.c fun o ss R X h=>?_)
 ·obtain⟨x,b1,b2,b3,bk,fs,ws,f,w,p,h,rfl,rfl,hb,hf,hw,hz,hR⟩:=h;refine⟨rfl,?_⟩;unfold NJ at hR;refine⟨rfl,rfl,bk,fs++[f],ws++[w],rfl,?_⟩;unfold KZ;by_cases c:100<=bk.length
  ·rw[Yn c]at hR ⊢;exact⟨_,rfl,⟨rfl,by simp⟩,hR⟩
  ·rw[Yo c]at hR ⊢;refine⟨rfl,rfl,bk,fs++[f],ws,w,rfl,w,p,h,rfl,hz,?_⟩;cases e:U4 w p h with
   |some c=>
    rw[e]at hR;exact⟨_,rfl,⟨rfl,by simp⟩,hR⟩
   |none=>
    rw[e]at hR;refine⟨rfl,rfl,by simp,rfl,rfl,bk,fs,ws++[w],f,rfl,?_⟩;exact⟨x,b1,b2,b3,bk,fs++[f],ws++[w],("wish",[p,h]),f,w++[(p,h)],rfl,rfl,hb,by rw[Yt];simp;omega,by rw[Yt];simp;omega,_,rfl,⟨rfl,by simp⟩,hR⟩
def Lc(G:Glob K mg)(DD:Pu.DefM K (Meth K (ExcR.JD mg "Village") "broken") "broken" "Village.broken" FH ["self","order"])(ZE:EE P w K mg base)(ZF:EV P w K mg base)(Zd:Kw P w K mg base)(Zc:Kq P w K mg base)
  : An P w K mg base:=by
 refine DD.ox (k:=2) Zei (fun _ _ _ _ _ _ E hr=>⟨_,(J7 (Uv (UK ZE (hr.mono (by decide)) ExcR.Ux (bz (U6 Zd G.cl_Village (hr.mono (by decide)) U7 (pv 0)) (pv 1)))) (J9 (JF (fz ZF hr (bz (pv 1) (U6 Zc G.cl_Village (hr.mono (by decide)) U7 (pv 0))))))), (J8 (Xn (UV (tz (UL K5 (J2 0) JW) (J2 1)))) (JJ (JK (tz (J2 1) (UL KF (J2 0) JW)))))⟩) (.a fun ds R X h=>?_)
 ·obtain⟨bk,fs,ws,f,w,os,rfl,hF,hz,hl,hw,hR⟩:=h;refine⟨rfl,?_⟩;refine⟨rfl,rfl,bk,fs,ws++[w],f,rfl,f,os,rfl,hF,hz,hl,?_⟩;cases e:Ph f os with
  |some c=>
   rw[e]at hR;exact hR
  |none=>
   rw[e]at hR
   have hp:os.Perm (JX f):=by
    unfold Ph at e;split at e
    ·rename_i z;exact List.isPerm_iff.mp z
    ·cases e
   exact⟨rfl,rfl,bk,fs++[f],ws,w,rfl,os,w,rfl,hp.symm.nodup ((Ke f).imp (fun h=>Q9 h)),by have:=hp.length_eq;have:=Kt f;omega,hw,hR⟩
def IG(G:Glob K mg)(DD:Def K mg "_law_opening" BU ["_law_script","_law_menu_here"])(Zi:Tf P w K mg base)(Zb:Py P w K mg base)(Zn:NQ P w K mg base)(Zh:Tt P w K mg base)
  : Em P w K mg base:=by
 refine DD.oz (k:=2) KH (fun _ _ _ _ _ _ E hr=>⟨_,(J7 (Pu.pz 2 KH.nd (fz Zi hr (bz (fz Zb hr (bz (pv 0) J6)) J6))) (@J7 _ _ _ _ _ (@Pu.pz _ _ _ _ _ _ 3 KH.nd (@Gb _ _ _ _ _ _ _ (CK (K:=K)) (@JS _ _ _ _ (@JQ _ _ _ _ _ J6 (@JQ _ _ _ _ _ J6 (@JQ _ _ _ _ _ J6 (@JQ _ _ _ _ _ J6 (@JQ _ _ _ _ _ J6 (@JQ _ _ _ _ _ J6 (@JQ _ _ _ _ _ J6 (@JQ _ _ _ _ _ J6 (@JQ _ _ _ _ _ (jx K (pv 1) J6) Uh rfl) rfl) rfl) rfl) rfl) rfl) rfl) rfl) rfl)) (JB Ud (pv 2) J6) (fun _ _=>rfl)) rfl (by first|exact Or.inl rfl|exact Or.inr rfl) rfl (by first|exact .inl rfl|exact .inr rfl|assumption)) (J7 (Pu.pz 4 KH.nd (JS Uh)) (J7 (UT YT rfl (TK rfl G.range (az (pv 3))) (gz 5 KH.nd) (J7 (Pu.pz 6 KH.nd (fz Zn hr (bz (fz Zi hr (bz (pv 2) (JB Ui J6 (pv 5)))) (pv 1)))) (KQ (JL (cq K hr (JB Ud (pv 2) J6) J6) (J9 (Pu.pz 6 KH.nd (Ub (bz (JB Ui J6 (JB Ud (JB Ui (pv 2) (pv 5)) J6)) (JB Ui J6 (JB Ud (JB Ui (JB Ui (JB Ui (pv 2) (pv 5)) J6) (JB Uy (pv 5) J6)) J6))))))
   JO) (KQ (JL (cq K hr (JB Ud (pv 2) J6) J6) (J9 (Pu.pz 6 KH.nd (Ub (bz (fz Zh hr (bz (pv 1) (pv 5))) (fz Zh hr (bz (pv 1) (JB Ud (JB Ui (pv 5) J6) (pv 3))))))))
   JO) (J9 (Uv (Ku YI Wg Wh Ko (pv 4) (az (Ub (dz Um (jx K (pv 6) J6) (jx K (pv 6) J6))))))))))) (J9 (JF (pv 4))))))), (J8 (JH (JK (tz (JK (tz (J2 0) J4)) J4)) (JC 2)) (J8 (JH (JA (JR (JY J4 (JY J4 (JY J4 (JY J4 (JY J4 (JY J4 (JY J4 (JY J4 (JY (JA (J2 1) J4) JW)))))))))) (Ue (J2 2) J4)) (JC 3)) (J8 (JH (JR JW) (JC 4)) (J8 (UO [5,6] (T3 (sz (J2 3))) (JC 5) (J8 (JH (JK (tz (JK (tz (J2 2) (Uj J4 (J2 5)))) (J2 1))) (JC 6)) (KP (JP (JG (Uo (Ue (J2 2) J4) J4)) (JH (Uc (tz (Uj J4 (Ue (Uj (J2 2) (J2 5)) J4)) (Uj J4 (Ue (Uj (Uj (Uj (J2 2) (J2 5)) J4) (Uw (J2 5) J4)) J4)))) (JC 6)) JN) (KP (JP (JG (Uo (Ue (J2 2) J4) J4)) (JH (Uc (tz (JK (tz (J2 1) (J2 5))) (JK (tz (J2 1) (Ue (Uj (J2 5) J4) (J2 3)))))) (JC 6)) JN) (TB 4 (Uc (uz Up (JA (J2 6) J4) (JA (J2 6) J4)))))))) (Ki 4)))))⟩) (.a fun ds R X h=>?_)
 ·obtain⟨ns,m,rfl,hM,hR⟩:=h;refine⟨rfl,?_⟩;have hMM:=hM;obtain⟨a,b,c,d,e,rfl,ha,hb,hc,hd,he⟩:=hM;refine⟨ns,1,rfl,by decide,_,_,rfl,?_⟩;generalize mixP (ns.getD (1:Int).toNat 0) 300=sd;have h9:0<=sd % 9/\sd % 9<9:=by omega
  obtain⟨many,em,hm⟩:∃v:Int,atI ([0,1,2,3,4,6,9,24,a].map D.int) (sd % 9)=some (.int v)/\0<=v/\v<=24:=by
   refine⟨_,Po (f:=D.int) (xs:=[0,1,2,3,4,6,9,24,a]) h9.1 h9.2,?_⟩
   have hall:∀v∈([0,1,2,3,4,6,9,24,a]:List Int),0<=v/\v<=24:=by
    intro v hv;simp at hv;rcases hv with rfl|rfl|rfl|rfl|rfl|rfl|rfl|rfl|rfl<;>omega
   exact hall _ (YC _)
  refine⟨_,rfl,by simp,(by show(0:Int)<9;decide),_,em,by simp,⟨by omega,by omega⟩,?_⟩;refine Tr (fun i γ'=>∃qs:List (Int×Int),qs.length=i/\γ'=[some (.bor (.scr ns)),some (.bor (.lst (([a,b,c,d,e]:List Int).map D.int))),some (.sh (.int sd)),some (.sh (.int many)),some (.own (qs.map fun q=>dD (Dd.wish q.1 q.2).q)),none,none]) ⟨[],rfl,rfl⟩ ?_ ?_
  ·rintro i γ' hi ⟨qs,hq,rfl⟩;have hi':i<many.toNat:=hi;have hlm:(qs.map fun q=>dD (Dd.wish q.1 q.2).q).length=qs.length:=Yi ..;refine⟨_,_,rfl,_,_,rfl,hMM,fun p1 p2=>?_⟩;refine KM (fun γ'=>∃(x y:Int),γ'=[some (.bor (.scr ns)),some (.bor (.lst (([a,b,c,d,e]:List Int).map D.int))),some (.sh (.int sd)),some (.sh (.int many)),some (.own (qs.map fun q=>dD (Dd.wish q.1 q.2).q)),some (.sh (.int (0+(i:Int)))),some (.sh (prD (x,y)))]) ?_ ?_
   ·refine⟨(by show(0:Int)<9;decide),ite2 (fun _=>?_) (fun _=>⟨p1,p2,rfl⟩)⟩;exact⟨(by show(0:Int)<10;decide),⟨by decide,by decide⟩,(by show(0:Int)<10;decide),by simp,_,_,rfl⟩
   ·rintro γ' ⟨p1,p2,rfl⟩;refine KM (fun γ'=>∃(x y:Int),γ'=[some (.bor (.scr ns)),some (.bor (.lst (([a,b,c,d,e]:List Int).map D.int))),some (.sh (.int sd)),some (.sh (.int many)),some (.own (qs.map fun q=>dD (Dd.wish q.1 q.2).q)),some (.sh (.int (0+(i:Int)))),some (.sh (prD (x,y)))]) ?_ ?_
    ·refine⟨(by show(0:Int)<9;decide),ite2 (fun _=>?_) (fun _=>⟨p1,p2,rfl⟩)⟩;exact⟨_,_,rfl,hMM,fun h1 _ _ _=>⟨(by show 0<many;omega),_,_,rfl,hMM,fun h2 _ _ _=>⟨by simp,_,_,rfl⟩⟩⟩
    ·rintro γ' ⟨x,y,rfl⟩;refine⟨_,Xq _ _,_,PU _ _ (.inr rfl),by simp,by omega,?_⟩;exact⟨qs++[(x,y)],by rw[Yt,hq];rfl,by rw[Y5];rfl⟩
  ·rintro γ' ⟨qs,hq,rfl⟩;have hq':qs.length=many.toNat:=hq;exact hR qs (by omega)
def Zdi(G:Glob K mg)(DD:Def K mg "_law_deed" FZ ["_law_cell","_law_menu_here","_law_now"])(ZG:G8 P w K mg base)(Zn:NQ P w K mg base)(Zo:Bt P w K mg base)(ZH:D7 P w K mg base)(Zh:Tt P w K mg base)
  : GG P w K mg base:=by
 refine DD.oz (k:=2) Pp (fun _ _ _ _ _ _ E hr=>⟨_,(J7 (Pu.pz 3 Pp.nd (JB Ud (pv 0) J6)) (J7 (Pu.pz 4 Pp.nd (JB Uy (pv 0) J6)) (J7 (Pu.pz 5 Pp.nd (fz ZG hr (bz (pv 4) (jx K (pv 2) J6)))) (J7 (Pu.pz 6 Pp.nd (JB Uy (JB Uy (pv 4) J6) (UI (Gk rfl) (by rfl) G.max boot_max (bz J6 (ln K G.len (jx K (pv 2) J6)))))) (J7 (JL (JT Xa (pv 3) J6 (Ua _)) (J9 (JF (Ub (dz Um (pv 5) (fz Zo hr (bz (pv 6) (fz Zh hr (bz (pv 1) (JB Ud (JB Uy (pv 6) J6) (jx K (pv 1) J6))))))))))
   JO) (J7 (JL (JT Xa (pv 3) J6 (Ua _)) (J9 (JF (Ub (dz Um (pv 5) (fz ZH hr (dz (pv 6) (jx K (pv 2) J6) (pv 5)))))))
   JO) (J7 (JL (cq K hr (pv 3) J6) (J9 (JF (Ub (bz Um (pv 5)))))
   JO) (J7 (Pu.pz 7 Pp.nd (fz Zn hr (bz (pv 4) (pv 1)))) (KQ (JL (PW.pt (Km (cq K hr (pv 3) J6) (Km (JT Xf (JB Ud (pv 4) J6) J6 (Ua _)) (KI (JT (Mg (K:=K) (show _<cLine from hr.units0)) (jx K (pv 2) J6) (JS Uh) (Ua _)))))) (J9 (Pu.pz 7 Pp.nd (jx K (jx K (pv 2) J6) (JB Ud (JB Uy (pv 4) J6) (ln K G.len (jx K (pv 2) J6))))))
   JO) (J7 (JL (JT Xa (pv 3) J6 (Ua _)) (J9 (JF (Ub (dz (jx K (JS (bz Um Um)) (JB Uy (pv 3) J6)) (jx K (pv 7) J6) (jx K (pv 7) J6)))))
   JO) (J9 (JF (Ub (az Um)))))))))))))), (J8 (JH (Ue (J2 0) J4) (JC 3)) (J8 (JH (Uw (J2 0) J4) (JC 4)) (J8 (JH (JK (tz (J2 4) (JA (J2 2) J4))) (JC 5)) (J8 (JH (Uw (Uw (J2 4) J4) (Da (tz J4 (U1 (sz (JA (J2 2) J4)))))) (JC 6)) (J8 (JP (JG (Xc (J2 3) J4)) (JM 5 (JJ (Uc (uz Up (J2 5) (JK (tz (J2 6) (JK (tz (J2 1) (Ue (Uw (J2 6) J4) (JA (J2 1) J4)))))))))) JN) (J8 (JP (JG (Xc (J2 3) J4)) (JM 5 (JJ (Uc (uz Up (J2 5) (JK (uz (J2 6) (JA (J2 2) J4) (J2 5))))))) JN) (J8 (JP (JG (Uo (J2 3) J4)) (JM 5 (JJ (Uc (tz Up (J2 5))))) JN) (J8 (JH (JK (tz (J2 4) (J2 1))) (JC 7)) (KP (JP (Kh (JG (Uo (J2 3) J4)) (Kh (JG (UY (Ue (J2 4) J4) J4)) (JG (B4 (JA (J2 2) J4) (JR JW))))) (JH (JA (JA (J2 2) J4) (Ue (Uw (J2 4) J4) (U1 (sz (JA (J2 2) J4))))) (JC 7)) JN) (J8 (JP (JG (Xc (J2 3) J4)) (JJ (Uc (uz (JA (JR (tz Up Up)) (Uw (J2 3) J4)) (JA (J2 7) J4) (JA (J2 7) J4)))) JN) (JJ (Uc (sz Up)))))))))))))⟩) (.a fun ds R X h=>?_)
 ·obtain⟨c,m,f,w,es,rfl,hM,hz,hF,hw,hR,hB⟩:=h;refine⟨rfl,?_⟩;have hMM:=hM;have at1:atI (plD f::plD w::es) 1=some (plD w):=Na (by decide) rfl;have hl:(f.map prD).length=f.length:=Yi ..;have hlw:(w.map prD).length=w.length:=Yi ..;have hmx:∀z:Int,0<(if z>1 then z else 1)/\((if z>1 then z else 1)=z\/(if z>1 then z else 1)=1):=fun z=>by split<;>omega
  have hm1:=hmx (((f.map prD).length:Nat):Int);refine⟨(by show(0:Int)<9;decide),⟨by decide,by decide⟩,_,Xq _ _,_,f,rfl,hz,fun p=>?_⟩;refine⟨⟨by decide,by decide⟩,_,Xq _ _,⟨hm1.1,Int.lt_of_le_of_lt (b:=1000) (by rcases hm1.2 with w|w<;>rw[w]<;>omega) (by decide)⟩,?_⟩
  obtain⟨m0,m1,m2,m3,m4,em,ha,hb,hc,hd,he⟩:=hM;have i0:atI (m.map D.int) 0=some (.int m0):=by rw[em];rfl
  refine ite2 (fun _=>?_) (fun _=>ite2 (fun _=>?_) (fun _=>ite2 (fun _=>?_) (fun g4=>?_)))
  ·exact⟨⟨by decide,by decide⟩,_,i0,(by show 0<m0;omega),m,_,rfl,hMM,fun h _ _ _=>⟨_,_,rfl,fun v=>⟨by simp,hR (.sell p v)⟩⟩⟩
  ·exact⟨_,Xq _ _,_,f,p,rfl,hz,hF,fun v=>⟨by simp,hR (.part p v)⟩⟩
  ·exact⟨by simp,hR (.unite p)⟩
  ·refine⟨_,m,rfl,hMM,fun a b=>?_⟩;refine KM (fun γ'=>∃(a b:Int) (t1 t2 t3:Option S),γ'=[some (.sh (.int c)),some (.bor (.lst (m.map D.int))),some (.bor (.tup (plD f::plD w::es))),some (.sh (.int (c % 9))),t1,t2,t3,some (.sh (prD (a,b)))]) ?_ ?_
   ·refine ite2 (fun _=>⟨(by show(0:Int)<4;decide),ite2 (fun _=>⟨_,at1,by simp,?_⟩) (fun _=>iteF ⟨a,b,_,_,_,rfl⟩)⟩) (fun _=>iteF ⟨a,b,_,_,_,rfl⟩);have emp:(w.map prD).isEmpty=decide (w=[]):=by cases w<;>simp
    show if (!(w.map prD).isEmpty)=true then _ else _;rw[emp];refine ite2 (fun g=>?_) (fun g=>⟨a,b,_,_,_,rfl⟩);have hne:w≠[]:=fun z=>by rw[Yl z]at g;cases g
    have hp:0<w.length:=Qf.mpr hne;have q1:=Int.emod_nonneg (c / 9 / 4) (show(((w.map prD).length:Nat):Int)≠0 by omega);have q2:=Vl (c / 9 / 4) (show 0<(((w.map prD).length:Nat):Int) by omega);exact⟨_,at1,⟨by decide,by decide⟩,_,at1,(by show 0<(((w.map prD).length:Nat):Int);omega),_,Po (f:=prD) (xs:=w) q1 (by omega),_,_,_,_,_,rfl⟩
   ·rintro γ' ⟨a,b,t1,t2,t3,rfl⟩;refine ite2 (fun g=>?_) (fun g=>⟨by simp,hB⟩);have g':c % 9<8:=Yp g;have hk:c % 9 / 7=0\/c % 9 / 7=1:=by omega
    have ex:∃k:Str,atI [D.str "wish",.str "drop"] (c % 9 / 7)=some (.str k)/\(k=("wish" : Str)\/k=("drop" : Str)):=by
     rcases hk with e|e<;>rw[e]
     ·exact⟨_,rfl,.inl rfl⟩
     ·exact⟨_,rfl,.inr rfl⟩
    obtain⟨k,ek,hk2⟩:=ex;refine⟨by simp,⟨by decide,by decide⟩,_,ek,_,Xq _ _,_,PU _ _ (.inr rfl),by simp,?_⟩;rcases hk2 with rfl|rfl
    ·exact hR (.wish a b)
    ·exact hR (.drop a b)
def Ol(G:Glob K mg)(DD:Def K mg "check_no_ring" SX ["strips","wishes"])(Zq:Sw P w K mg base)(Ze:PN P w K mg base)(ZI:Zc6 P w K mg base)
  : AI P w K mg base:=by
 refine DD.ox (k:=3) Cq (fun _ _ _ _ _ _ E hr=>⟨_,(J7 (Pu.pz 2 Cq.nd (fz Zq hr (bz (fz Ze hr (az (pv 0))) (pv 1)))) (J9 (JL (U2 (K:=K) (pv 2)) (J9 (ExcR.IA ZI (hr.mono (by decide)) G.m_Ringed ExcR.OB rfl rfl (az (pv 2))))
   JO))), (J8 (JH (JK (tz (JK (sz (J2 0))) (J2 1))) (JC 2)) (JP (UD (J2 2)) (JM 2 (Zb9 (sz (J2 2)))) JN))⟩) (.a fun ds R X h=>?_)
 ·obtain⟨ps,ws,rfl,hF,hz,hu,hX,hR⟩:=h;refine⟨rfl,?_⟩;refine⟨ps,rfl,hF,hz,_,ws,rfl,(Ke ps).imp (fun h=>Q9 h),Yy (Kt ps) (by decide),fun r hr hl=>?_⟩;by_cases e:r=[]
  ·have hN:=(hr.none_iff hu).mp e;subst e;exact iteF (A:=False) (hR hN)
  ·have hx:=hX r hr e;refine ite2 (fun _=>⟨r,rfl,hx⟩) (fun g=>absurd g ?_);cases r with
   |nil=>exact absurd rfl e
   |cons a t=>simp
def Zcm(G:Glob K mg)(DD:Pu.DefM K (Meth K (ExcR.JD mg "Village") "ring") "ring" "Village.ring" Fk ["self"])(Zq:Sw P w K mg base)(Ze:PN P w K mg base)(Zc:Kq P w K mg base)(Zd:Kw P w K mg base)
  : BS P w K mg base:=by
 refine DD.oz (k:=3) Zaw (fun _ _ _ _ _ _ E hr=>⟨_,(J9 (JF (fz Zq hr (bz (fz Ze hr (az (U6 Zd G.cl_Village (hr.mono (by decide)) U7 (pv 0)))) (U6 Zc G.cl_Village (hr.mono (by decide)) U7 (pv 0)))))), (BR (JK (tz (JK (sz (UL K5 (J2 0) JW))) (UL KF (J2 0) JW))))⟩) (.a fun ds R X h=>?_)
 ·obtain⟨bk,fs,ws,f,w,rfl,hF,hz,hR⟩:=h;refine⟨rfl,?_⟩;refine⟨rfl,rfl,bk,fs,ws++[w],f,rfl,f,rfl,hF,hz,rfl,rfl,bk,fs++[f],ws,w,rfl,?_⟩;exact⟨_,w,rfl,(Ke f).imp (fun h=>Q9 h),Yy (Kt f) (by decide),fun r hr hl=>hR r hr hl⟩
def Ri(G:Glob K mg)(DD:Def K mg "_law_call" Ss ["_law_village","_law_deed_here"])(ZJ:AS P w K mg base)(ZK:Er P w K mg base)(ZL:Dy P w K mg base)(ZM:GO P w K mg base)(ZN:Cy P w K mg base)
  : CM P w K mg base:=by
 refine DD.ox (k:=3) OL (fun _ _ _ _ _ _ E hr=>⟨_,(J7 (JL (cq K hr (jx K (pv 1) J6) Um) (J9 (JF (XW ZK G.cl_Village (hr.mono (by decide)) ExcR.Ux (pv 0) (bz (jx K (pv 1) J6) (jx K (pv 1) J6)))))
   JO) (J7 (JL (cq K hr (jx K (pv 1) J6) Um) (J9 (JF (XW ZL G.cl_Village (hr.mono (by decide)) ExcR.Ux (pv 0) (bz (jx K (pv 1) J6) (jx K (pv 1) J6)))))
   JO) (J7 (JL (cq K hr (jx K (pv 1) J6) Um) (J9 (JF (XW ZM G.cl_Village (hr.mono (by decide)) ExcR.Ux (pv 0) (az (jx K (pv 1) J6)))))
   JO) (J7 (JL (cq K hr (jx K (pv 1) J6) Um) (J9 (JF (XW ZN G.cl_Village (hr.mono (by decide)) ExcR.Ux (pv 0) (bz (jx K (pv 1) J6) (jx K (pv 1) J6)))))
   JO) (J9 (JF (XW ZJ G.cl_Village (hr.mono (by decide)) ExcR.Ux (pv 0) (bz (jx K (pv 1) J6) (jx K (pv 1) J6))))))))), (J8 (JP (JG (Uo (JA (J2 1) J4) Up)) (XU (Nc 0 Zbu (tz (JA (J2 1) J4) (JA (J2 1) J4)))) JN) (J8 (JP (JG (Uo (JA (J2 1) J4) Up)) (XU (Nc 0 Iv (tz (JA (J2 1) J4) (JA (J2 1) J4)))) JN) (J8 (JP (JG (Uo (JA (J2 1) J4) Up)) (XU (Nc 0 Mn (sz (JA (J2 1) J4)))) JN) (J8 (JP (JG (Uo (JA (J2 1) J4) Up)) (XU (Nc 0 RG (tz (JA (J2 1) J4) (JA (J2 1) J4)))) JN) (XU (Nc 0 O2 (tz (JA (J2 1) J4) (JA (J2 1) J4))))))))⟩) (.c fun o ss R X h=>?_)
 ·obtain⟨x,b1,b2,b3,bk,fs,ws,f,w,d,rfl,rfl,hb,hf,hw,hz,hy,hR⟩:=h;refine⟨rfl,?_⟩;cases d with
  |sell p h=>
   refine⟨_,rfl,?_⟩;refine⟨rfl,rfl,_,rfl,_,rfl,x,b1,b2,b3,bk,fs,ws,f,w,p,h,rfl,rfl,hb,hf,hw,hz,?_⟩;have hR:U5 (Sh bk f p h) (X (vO (ExcR.JD mg "Village") x b1 b2 b3 bk (fs++[f]) (ws++[w]))) (R (vO (ExcR.JD mg "Village") x b1 b2 b3 (bk++[(Dd.sell p h).q]) (fs++[f]++[(Dd.sell p h).fld f]) (ws++[w]++[(Dd.sell p h).wsh w])) (.int (bk.length+1))):=hR;cases e:Sh bk f p h with
   |some c=>rw[e]at hR;exact⟨_,rfl,⟨rfl,by simp⟩,hR⟩
   |none=>rw[e]at hR;exact⟨_,rfl,⟨rfl,by simp⟩,hR⟩
  |part p h=>
   refine⟨_,rfl,_,rfl,?_⟩;refine⟨rfl,rfl,_,rfl,_,rfl,x,b1,b2,b3,bk,fs,ws,f,w,p,h,rfl,rfl,hb,hf,hw,hz,?_⟩;have hR:U5 (Sk bk f p h) (X (vO (ExcR.JD mg "Village") x b1 b2 b3 bk (fs++[f]) (ws++[w]))) (R (vO (ExcR.JD mg "Village") x b1 b2 b3 (bk++[(Dd.part p h).q]) (fs++[f]++[(Dd.part p h).fld f]) (ws++[w]++[(Dd.part p h).wsh w])) (.int (bk.length+1))):=hR;cases e:Sk bk f p h with
   |some c=>rw[e]at hR;exact⟨_,rfl,⟨rfl,by simp⟩,hR⟩
   |none=>rw[e]at hR;exact⟨_,rfl,⟨rfl,by simp⟩,hR⟩
  |unite p=>
   refine⟨_,rfl,_,rfl,_,rfl,?_⟩;refine⟨rfl,rfl,_,rfl,x,b1,b2,b3,bk,fs,ws,f,w,p,rfl,rfl,hb,hf,hw,hz,?_⟩;have hR:U5 (NK bk f p) (X (vO (ExcR.JD mg "Village") x b1 b2 b3 bk (fs++[f]) (ws++[w]))) (R (vO (ExcR.JD mg "Village") x b1 b2 b3 (bk++[(Dd.unite p).q]) (fs++[f]++[(Dd.unite p).fld f]) (ws++[w]++[(Dd.unite p).wsh w])) (.int (bk.length+1))):=hR;cases e:NK bk f p with
   |some c=>rw[e]at hR;exact⟨_,rfl,⟨rfl,by simp⟩,hR⟩
   |none=>rw[e]at hR;exact⟨_,rfl,⟨rfl,by simp⟩,hR⟩
  |wish p h=>
   refine⟨_,rfl,_,rfl,_,rfl,_,rfl,?_⟩;refine⟨rfl,rfl,_,rfl,_,rfl,x,b1,b2,b3,bk,fs,ws,f,w,p,h,rfl,rfl,hb,hf,hw,hy,?_⟩;have hR:U5 (NJ bk w p h) (X (vO (ExcR.JD mg "Village") x b1 b2 b3 bk (fs++[f]) (ws++[w]))) (R (vO (ExcR.JD mg "Village") x b1 b2 b3 (bk++[(Dd.wish p h).q]) (fs++[f]++[(Dd.wish p h).fld f]) (ws++[w]++[(Dd.wish p h).wsh w])) (.int (bk.length+1))):=hR;cases e:NJ bk w p h with
   |some c=>rw[e]at hR;exact⟨_,rfl,⟨rfl,by simp⟩,hR⟩
   |none=>rw[e]at hR;exact⟨_,rfl,⟨rfl,by simp⟩,hR⟩
  |drop p h=>
   refine⟨_,rfl,_,rfl,_,rfl,_,rfl,?_⟩;refine⟨rfl,rfl,_,rfl,_,rfl,x,b1,b2,b3,bk,fs,ws,f,w,p,h,rfl,rfl,hb,hf,hw,hy,?_⟩;have hR:U5 (NN bk w p h) (X (vO (ExcR.JD mg "Village") x b1 b2 b3 bk (fs++[f]) (ws++[w]))) (R (vO (ExcR.JD mg "Village") x b1 b2 b3 (bk++[(Dd.drop p h).q]) (fs++[f]++[(Dd.drop p h).fld f]) (ws++[w]++[(Dd.drop p h).wsh w])) (.int (bk.length+1))):=hR;cases e:NN bk w p h with
   |some c=>rw[e]at hR;exact⟨_,rfl,⟨rfl,by simp⟩,hR⟩
   |none=>rw[e]at hR;exact⟨_,rfl,⟨rfl,by simp⟩,hR⟩
def Za3(G:Glob K mg)(DD:Def K mg "best_order" Sy ["strips","wishes"])(ZO:AI P w K mg base)(ZP:GB P w K mg base)(ZQ:Dv P w K mg base)(Ze:PN P w K mg base)(Zl:NW P w K mg base)(ZR:DV P w K mg base)(ZS:Ep P w K mg base)
  : Am P w K mg base:=by
 refine DD.ox (k:=4) K9 (fun _ _ _ _ _ _ E hr=>⟨_,(J7 (Uv (UK ZO (hr.mono (by decide)) ExcR.Ux (bz (pv 0) (pv 1)))) (J7 (Pu.pz 2 K9.nd (fz ZP hr (az (pv 0)))) (J7 (Pu.pz 3 K9.nd (fz ZQ hr (dz (pv 0) (pv 1) (pv 2)))) (J7 (Pu.pz 4 K9.nd (XS (Eb (K:=K)) (by rfl) G.tuple boot_tuple (az (fz Ze hr (az (pv 0)))))) (J7 (Pu.pz 5 K9.nd (JS Uh)) (J7 (DK ExcR.Gz (U2 (K:=K) (pv 4)) (J7 (Pk (N':=["holder","members","wishes"]) (φ:=[none,some 4,some 1]) (i:=6) K9.nd rfl rfl rfl (Own.CompOk.of (by rfl)) (TY (K:=K) (pv 4)) (fun _ _ _ _ _=>⟨(gz 0 (show(["holder","members","wishes"]:List Str).Nodup from by decide +kernel)),(X0 (U2 (K:=K) (fz ZR hr (dz (pv 1) (pv 0) (pv 2))))),(pv 0)⟩)) (J7 (Pk (N':=["first","members","least","pairs"]) (φ:=[none,some 4,some 3,some 2]) (i:=7) K9.nd rfl rfl rfl (Own.CompOk.of (by rfl)) (Us (K:=K) (pv 6)) (fun _ _ _ _ _=>⟨(gz 0 (show(["first","members","least","pairs"]:List Str).Nodup from by decide +kernel)),(X0 (cq K hr (fz ZS hr (JQ (pv 1) (JQ (pv 0) (JQ (pv 2) (JQ (pv 3) Uh))))) (Pr (Uq hr) (pv 2) (pv 1) (fun _ _=>rfl)))),(pv 0)⟩)) (J7 (Uv (Ku YI Wg Wh Ko (pv 5) (az (jx K (pv 7) J6)))) (J9 (Pu.pz 4 K9.nd (fz Zl hr (bz (pv 4) (jx K (pv 7) J6))))))))) (J9 (JF (pv 5))))))))), (J8 (Xn (UV (tz (J2 0) (J2 1)))) (J8 (JH (JK (sz (J2 0))) (JC 2)) (J8 (JH (JK (uz (J2 0) (J2 1) (J2 2))) (JC 3)) (J8 (JH (D2 (sz (JK (sz (J2 0))))) (JC 4)) (J8 (JH (JR JW) (JC 5)) (J8 (Ck [6,7] (UD (J2 4)) (J8 (JH (U3 (SndI.c (Tg (J2 4))) (JC 0) (UD (JK (uz (J2 1) (J2 0) (J2 2)))) (J2 0)) (JC 6)) (J8 (JH (U3 (UW (J2 6)) (JC 0) (JG (Uo (JK (JY (J2 1) (JY (J2 0) (JY (J2 2) (JY (J2 3) JW))))) (Pv (J2 2) (J2 1)))) (J2 0)) (JC 7)) (J8 (TB 5 (JA (J2 7) J4)) (JH (JK (tz (J2 4) (JA (J2 7) J4))) (JC 4)))))) (Ki 5)))))))⟩) (.a fun ds R X h=>?_)
 ·obtain⟨ps,ws,rfl,hF,hz,hw,hu,hX,hR⟩:=h;refine⟨rfl,?_⟩;refine⟨ps,ws,rfl,hF,hz,hu,hX,fun hN=>?_⟩;have hR:=hR hN;refine⟨ps,rfl,hF,hz,fun pa hpa=>⟨ps,ws,pa,pcc ps,rfl,hF,hz,hw,hu,hpa,Zad hu hN,fun kvs T=>⟨ps,rfl,hF,hz,?_⟩⟩⟩;have hh:=Kt ps;have hri:=Ke ps;have nd:(JX ps).Nodup:=hri.imp (fun h=>Q9 h);have hpa':∀x∈JX ps,∀y∈JX ps,valV pa [.inl x,.inl y]=some (.int (pcc ps x y)):=hpa;generalize pcc ps=c at *;generalize JX ps=hs at *
  refine⟨rfl,by simp,CQ (fun γ'=>∃(ms o:List Int),γ'=[some (.bor (.lst (ps.map prD))),some (.bor (.lst (ws.map prD))),some (.own (.dT pa)),some (.own (.dT kvs)),some (.sh (tD ms)),some (.own (o.map D.int)),none,none]/\ms∈Ul hs/\o.length+ms.length<=10/\
   ∀p,Best ws c ms p->Best ws c hs (o++p)) M3 ⟨hs,[],rfl,List.mem_of_getLast? (ID hs),by simpa using hh,fun p hp=>hp⟩ ?_⟩
  rintro γ' ⟨ms,o,rfl,hms,hol,hB⟩;show if (!(ms.map D.int).isEmpty)=true then _ else _;refine ite2 (fun g=>?_) (fun g=>?_)
  ·have hsm:=Nd hs ms hms;have hne:ms≠[]:=fun e=>by subst e;simp at g
   have ndm:ms.Nodup:=nd.sublist hsm;have hrm:=hri.sublist hsm
   have hless:∀l∈ms,JZ ms l∈Ul hs:=fun l hl=>by
    obtain⟨k,hk,e⟩:=YE.mp hms;obtain⟨j,_,ej⟩:=Au nd k ms (by rw[Yj hk,e]) l hl;exact Y8 ej
   obtain⟨vs,hvs⟩:=El fun l hl=>T.val _ (hless l hl);obtain⟨V,hV1,hV2⟩:=T.val ms hms;have hv2:∀l∈ms,Least ws c (JZ ms l) (vs l):=fun l hl=>(hvs l hl).2
   have hsome:∃f rest,(ms.filter (fun h=>firstM ws ms h)).filter (fun f=>decide (vs f+((JZ ms f).map (c f)).sum=V))=f::rest:=by
    obtain⟨q,q1,q2,q3⟩:=hV2.is;cases q with
    |nil=>exact absurd q1.nil_eq.symm hne
    |cons g p=>
     obtain⟨r1,r2,r3,_⟩:=DZ ndm hu hv2 hV2 q1 q2 q3;exact List.exists_cons_of_ne_nil (List.ne_nil_of_mem (YG.mpr ⟨YG.mpr ⟨r1,r2⟩,Yl r3⟩))
   obtain⟨f,rest,ef⟩:=hsome;have hfm:f∈(ms.filter (fun h=>firstM ws ms h)).filter (fun f=>decide (vs f+((JZ ms f).map (c f)).sum=V)):=by rw[ef];exact YL ..
   obtain⟨hfm,hf3⟩:=YG.mp hfm;obtain⟨hf1,hf2⟩:=YG.mp hfm
   have hmin:∀g∈ms,firstM ws ms g=true->vs g+((JZ ms g).map (c g)).sum=V->f<=g:=fun g h1 h2 h3=>by
    have hg:g∈(ms.filter (fun h=>firstM ws ms h)).filter (fun f=>decide (vs f+((JZ ms f).map (c f)).sum=V)):=YG.mpr ⟨YG.mpr ⟨h1,h2⟩,Yl h3⟩
    have hr:(f::rest).Pairwise (· < ·):=by
     rw[←ef];exact(hrm.filter _).filter _
    rw[ef]at hg;rcases Yx.mp hg with e|hg
    ·omega
    ·have:=(WK.mp hr).1 g hg
     omega
   refine⟨_,rfl,UC (s:=.sh .non) (xs:=ms) (emb:=D.int) (fun h=>if firstM ws ms h=true then some (.int h)else none) (by omega) (fun h hm=>?_) ?_⟩
   ·refine⟨ms,h,ws,rfl,hw,?_⟩;refine ite2 (fun g=>⟨_,rfl,Yn g⟩) (fun g=>Yo g)
   ·rw[Xt (fun h=>firstM ws ms h)];refine UC (xs:=ms.filter (fun h=>firstM ws ms h)) (emb:=D.int) (fun f=>if decide (vs f+((JZ ms f).map (c f)).sum=V)=true then some (.int f)else none) (Yy (Wc _ _) (by omega)) (fun l hl=>?_) ?_
    ·obtain⟨hl1,hl2⟩:=YG.mp hl;refine⟨ms,l,kvs,pa,c l,vs l,rfl,by omega,(hvs l hl1).1,fun m hm=>hpa' l (hsm.subset hl1) m (hsm.subset (less_sub.subset hm)),_,_,Nu ms,hV1,rfl,?_⟩;refine ite2 (fun g=>⟨_,rfl,Yn g⟩) (fun g=>Yo g)
    ·rw[Xt (fun f=>decide (vs f+((JZ ms f).map (c f)).sum=V)),ef];refine⟨_,Xq _ _,by rw[Yi];omega,_,Xq _ _,ms,f,rfl,by omega,⟨JZ ms f,o++[f],?_,hless f hf1,?_,fun p hp=>?_⟩,?_⟩
     ·rw[Y5];rfl
     ·have:=(Kx ndm hf1).length_eq
      rw[Yt];rw[Y6]at this;show o.length+1+_<=10;omega
     ·rw[Vp];exact hB _ (Ru ndm hu hv2 hV2 hf1 hf2 (Yp hf3) hmin hp)
     ·have:=(Kx ndm hf1).length_eq
      rw[Y6]at this;show((JZ ms f).map D.int).length<(ms.map D.int).length;rw[Yi,Yi];omega
  ·have e:ms=[]:=by
    cases ms with
    |nil=>rfl
    |cons a r=>exact absurd rfl g
   subst e
   have:=hB [] (Rk ws c)
   rw[YW]at this;exact hR o this
def Zbs(G:Glob K mg)(DD:Def K mg "_law_go" B6 ["_law_village","_law_past","_law_deed_here"])(ZT:Ee P w K mg base)(ZU:CM P w K mg base)(Zm:NZ P w K mg base)(ZV:DN P w K mg base)
  : Ew P w K mg base:=by
 refine DD.oz (k:=4) Fb (fun _ _ _ _ _ _ E hr=>⟨_,(J7 (JL (cq K hr (jx K (pv 2) J6) Um) (KQ (JL (JT Xf (ln K G.len (pv 1)) J6 (Ua _)) (J7 (Uv (U6 ZV G.cl_Village (hr.mono (by decide)) Se (pv 0))) (J9 (Uv (NO YI Qr Qs NB (pv 1)))))
   JO) (J9 (JF Xd)))
   JO) (J7 (Pu.pz 3 Fb.nd (fz ZT hr (bz (jx K (pv 1) (UX Xi J6)) (pv 2)))) (J7 (JL (JT Xf (jx K (pv 3) J6) J6 (Ua _)) (J9 (JF Xd))
   JO) (J7 (Uv (Ku YI Wg Wh Ko (pv 1) (az (Ub (dz (jx K (pv 3) J6) (jx K (pv 3) J6) (pv 2)))))) (J7 (Pu.pz 4 Fb.nd (UK ZU (hr.mono (by decide)) Se (bz (pv 0) (pv 2)))) (J9 (JF (Nb (fz Zm hr (az (pv 4))) (Nm (KB (TL (K:=K) (show _<cLine from hr.units0)) (pv 4) (JB US (ln K G.len (pv 1)) J6) (Ua _))))))))))), (J8 (JP (JG (Uo (JA (J2 2) J4) Up)) (KP (JP (JG (UY (U1 (sz (J2 1))) J4)) (J8 (KS (PB 0 MP JW)) (KS (OX 1))) JN) (Nz Xg)) JN) (J8 (JM 2 (JH (BW (tz (JA (J2 1) (Xh J4)) (J2 2))) (JC 3))) (J8 (JP (JG (UY (JA (J2 3) J4) J4)) (Nz Xg) JN) (J8 (JM 2 (TB 1 (Uc (uz (JA (J2 3) J4) (JA (J2 3) J4) (J2 2))))) (J8 (JM 2 (IB (RX 0 (sz (J2 2))) (JC 4))) (Nz (Tq (JK (sz (J2 4))) (Uo (J2 4) (UU (U1 (sz (J2 1))) J4)))))))))⟩) (.d fun o1 o2 ss R X h=>?_)
 ·obtain⟨x,b1,b2,b3,a,f0,hs,q,rfl,rfl,rfl,hz,hf,hor⟩:=h;refine⟨rfl,?_⟩;obtain⟨⟨h1,h2⟩,h3⟩:=hf.cur;rcases hor with⟨rfl,hR⟩|⟨d,rfl,hR⟩
  ·refine⟨_,rfl,?_⟩;refine KM (fun γ'=>∃t1 t2 t3:Option S,γ'=[some (.own (vO (ExcR.JD mg "Village") x b1 b2 b3 (bkH hs.dropLast) (fsH f0 hs.dropLast) (wsH hs.dropLast))),some (.own (.lsA a (U9 f0 hs.dropLast))),t1,t2,t3]) ?_ ?_
   ·rcases W6 hs with rfl|⟨h,y,rfl⟩
    ·exact⟨_,_,_,rfl⟩
    ·rw[Qq,W9];have lp':(U9 f0 (h++[y])).length=h.length+2:=by rw[Nv,Yt,Wi]
     have g:(((U9 f0 (h++[y])).length:Nat):Int)>1:=by omega
     have el:(U9 f0 (h++[y]))[(U9 f0 (h++[y])).length-1]?=some (pstD y):=by
      rw[lp',BH,YO (by rw[Nv];omega),Nv];rw[show h.length+2-1-(h.length+1)=0 by omega];rfl
     have ed:(U9 f0 (h++[y])).dropLast=U9 f0 h:=by rw[BH,W9]
     show if decide ((((U9 f0 (h++[y])).length:Nat):Int)>1)=true then _ else _;rw[Yl g];refine iteT ⟨rfl,rfl,x,b1,b2,b3,bkH (h++[y]),fsH f0 (h++[y]),wsH (h++[y]),rfl,rfl,by rw[MQ,Bu],by rw[Ml,Bu],fun e=>?_,fun b0 q e=>?_⟩
     ·rw[BO]at e;simp at e
     ·rw[BO]at e;obtain⟨rfl,e2⟩:=List.append_inj' e rfl;cases e2
      rw[Nt,Sm,W9,W9];refine⟨_,el,?_⟩;rw[ed];exact⟨_,_,_,rfl⟩
   ·rintro γ' ⟨t1,t2,t3,rfl⟩;exact⟨_,_,rfl,rfl,⟨rfl,by simp⟩,rfl,hR⟩
  ·obtain⟨fs,ef,lf⟩:=Pf f0 hs;obtain⟨ws,ew,lw⟩:=Pi hs;obtain⟨dl,el⟩:=Pt f0 hs;have lb:=Bu hs;have lp:=Nv f0 hs;have nb:=d.not_back;refine⟨_,Xq _ _,?_⟩;show if decide (d.q.1=("back" : Str))=true then _ else _;rw[Y0 nb];refine iteF ⟨_,el,curF f0 hs,curW hs,[dl],d,rfl,h2,h3.1,_,rfl,?_⟩;by_cases e:d.err (curF f0 hs) (curW hs)=none
   ·have ea:addH f0 hs d=hs++[(d,d.fld (curF f0 hs),d.wsh (curW hs))]:=by unfold addH;rw[Yn e]
    rw[ea]at hR;rw[BO,Nt,Sm,BH,ef,ew]at hR;show if decide (codeN (d.err (curF f0 hs) (curW hs))>0)=true then _ else _;rw[e];refine iteF ⟨_,rfl,_,rfl,by simp,by omega,?_⟩;refine⟨x,b1,b2,b3,bkH hs,fs,ws,curF f0 hs,curW hs,d,by rw[←ef,←ew],rfl,by omega,by omega,by omega,by omega,by have:=h3.1;omega,?_⟩
    have ec:B3 (bkH hs) (curF f0 hs) (curW hs) d=none:=by
     unfold B3;rw[Yo (by omega),e]
    have en:d.nf (curF f0 hs) (curW hs)=d.fld (curF f0 hs):=by unfold Dd.nf;rw[Yn e]
    have ew':d.nw (curF f0 hs) (curW hs)=d.wsh (curW hs):=by unfold Dd.nw;rw[Yn e]
    rw[ec];have es:((((bkH hs).length:Nat):Int)+1=((((U9 f0 hs++[D.tup [plD (d.nf (curF f0 hs) (curW hs)),plD (d.nw (curF f0 hs) (curW hs)),dD d.q]]).length:Nat)):Int)-1):=by rw[Yt,Wi];omega
    refine⟨_,rfl,iteT ?_⟩;refine⟨_,_,rfl,rfl,⟨rfl,by simp⟩,rfl,?_⟩;rw[Yl es,en,ew'];exact hR
   ·have ea:addH f0 hs d=hs:=by unfold addH;rw[Yo e]
    rw[ea]at hR;show if decide (codeN (d.err (curF f0 hs) (curW hs))>0)=true then _ else _;rw[Yl (Dd.code_pos e)];exact iteT ⟨_,_,rfl,rfl,⟨rfl,by simp⟩,rfl,hR⟩
def O8(G:Glob K mg)(DD:Def K mg "_law_ring_told" S9 ["_law_village","_law_strips","_law_wishes"])(Zr:BS P w K mg base)(Zs:Fu P w K mg base)(Zt:SK P w K mg base)(Zu:B5 P w K mg base)(Zj:FM P w K mg base)
  : GS P w K mg base:=by
 refine DD.oz (k:=4) F7 (fun _ _ _ _ _ _ E hr=>⟨_,(J7 (Pu.pz 3 F7.nd (U6 Zr G.cl_Village (hr.mono (by decide)) U7 (pv 0))) (J7 (Pu.pz 4 F7.nd (fz Zs hr (az (pv 1)))) (J7 (JL (U2 (K:=K) (fz Zt hr (bz (pv 4) (pv 2)))) (J9 (JF (fz Zj hr (bz (pv 3) (JS Uh)))))
   JO) (J9 (JF (fz Zu hr (dz (pv 3) (pv 4) (pv 2)))))))), (J8 (JH (UL Eo (J2 0) JW) (JC 3)) (J8 (JH (JK (sz (J2 1))) (JC 4)) (J8 (JP (UD (JK (tz (J2 4) (J2 2)))) (JJ (JK (tz (J2 3) (JR JW)))) JN) (JJ (JK (uz (J2 3) (J2 4) (J2 2)))))))⟩) (.a fun ds R X h=>?_)
 ·obtain⟨bk,fs,ws,f,w,rfl,hF,hz,hw,hu,hR⟩:=h;refine⟨rfl,?_⟩;have hh:=Kt f;refine⟨rfl,rfl,bk,fs,ws,f,w,rfl,hF,hz,fun r hr hl=>?_⟩;refine⟨f,rfl,by omega,?_⟩;refine⟨JX f,w,rfl,by omega,by omega,ite2 (fun g=>?_) (fun g=>?_)⟩
  ·have hN:¬ ∃r,Ring (JX f) w r:=(Ny hu).mp (Yp g);obtain rfl:=(hr.none_iff hu).mpr hN;exact⟨by simp,[],.inl rfl,by simp,hR⟩
  ·have hne:¬Uk w (JX f) (JX f).length=[]:=fun z=>by rw[Yl z]at g;exact g rfl
   have hrn:r≠[]:=fun z=>hne ((Ny hu).mpr ((hr.none_iff hu).mp z));have RR:=(hr.ring hu hrn).1
   have:=TZ RR.nodup RR.sub
   exact⟨r,JX f,w,rfl,by omega,RR,hR⟩
def Oy(G:Glob K mg)(DD:Pu.DefM K (Meth K (ExcR.JD mg "Village") "order") "order" "Village.order" SG ["self"])(ZW:Am P w K mg base)(Zd:Kw P w K mg base)(Zc:Kq P w K mg base)
  : EY P w K mg base:=by
 refine DD.ox (k:=5) Lh (fun _ _ _ _ _ _ E hr=>⟨_,(J9 (JF (UK ZW (hr.mono (by decide)) ExcR.Ux (bz (U6 Zd G.cl_Village (hr.mono (by decide)) U7 (pv 0)) (U6 Zc G.cl_Village (hr.mono (by decide)) U7 (pv 0)))))), (JJ (UV (tz (UL K5 (J2 0) JW) (UL KF (J2 0) JW))))⟩) (.a fun ds R X h=>?_)
 ·obtain⟨bk,fs,ws,f,w,rfl,hF,hz,hw,hu,hN,hR⟩:=h;refine⟨rfl,?_⟩;exact⟨rfl,rfl,bk,fs,ws++[w],f,rfl,rfl,rfl,bk,fs++[f],ws,w,rfl,f,w,rfl,hF,hz,hw,hu,hN,hR⟩
def Zch(G:Glob K mg)(DD:Def K mg "_law_ring_or_kept" F0 ["_law_village","_law_strips","_law_wishes"])(Zs:Fu P w K mg base)(Zr:BS P w K mg base)(Zj:FM P w K mg base)(ZX:EY P w K mg base)(Zt:SK P w K mg base)(ZY:An P w K mg base)(Zu:B5 P w K mg base)(ZZ:DR P w K mg base)
  : Av P w K mg base:=by
 refine DD.oz (k:=6) KG (fun _ _ _ _ _ _ E hr=>⟨_,(J7 (Pu.pz 3 KG.nd (fz Zs hr (az (pv 1)))) (J7 (Pu.pz 4 KG.nd (U6 Zr G.cl_Village (hr.mono (by decide)) U7 (pv 0))) (J7 (Pu.pz 5 KG.nd (JS Uh)) (J7 (Pu.pz 6 KG.nd (JS Uh)) (KQ (ExcR.Zdm (fun pins D=>(J9 (Pu.pz 5 KG.nd (M1 ZX G.cl_Village (hr.mono (by decide)) (ExcR.MV (pins:=pins) (D:=D) (i:=7) rfl rfl KG.nd rfl rfl rfl G.m_Ringed (by decide) (fun a=>(J9 (Pu.pz 6 KG.nd (ExcR.LQ (pv 7) (by rfl)))))) (pv 0)))))) (J7 (JL (Xk (U2 (K:=K) (fz Zt hr (bz (pv 3) (pv 2))))) (J9 (JF (Nb (fz Zu hr (dz (pv 4) (pv 3) (pv 2))) (Nm (fz Zj hr (bz (pv 6) (pv 4)))))))
   JO) (J7 (JL (PW.pt (UF (Xk (U2 (K:=K) (fz Zj hr (bz (pv 4) (JS Uh))))) (UF (Xk (U2 (K:=K) (fz Zj hr (bz (pv 6) (JS Uh))))) (UP (Xk (U2 (K:=K) (UI (Ts (K:=K)) (by rfl) G.isinstance Q0 (bz (pv 5) (Ta (v:=.ty "list") rfl G.list boot_list rfl))))))))) (J9 (JF Xd))
   JO) (J7 (JL (PW.pt (UF (Xk (U2 (K:=K) (fz Zj hr (bz (UI (Sd (K:=K) (w:=w) rfl) (by rfl) G.sorted boot_sorted (az (pv 5))) (pv 3))))) (UP (Xk (U2 (K:=K) (fz ZZ hr (bz (pv 5) (pv 2)))))))) (J9 (JF Xd))
   JO) (J9 (JF (fz Zj hr (bz (XW ZY G.cl_Village (hr.mono (by decide)) Se (pv 0) (az (XS (PY (K:=K)) (by rfl) G.list boot_list (az (pv 5))))) (JS Uh))))))))))))), (J8 (JH (JK (sz (J2 1))) (JC 3)) (J8 (JH (UL Eo (J2 0) JW) (JC 4)) (J8 (JH (JR JW) (JC 5)) (J8 (JH (JR JW) (JC 6)) (KP (MZ (E':=fun _=>E) G.x_Ringed (fun D=>(JH (CF RN (J2 0) JW) (JC 5))) (JH (Om G.r_Ringed (J2 7)) (JC 6))) (J8 (JP (Xy (UD (JK (tz (J2 3) (J2 2))))) (JJ (Tq (JK (uz (J2 4) (J2 3) (J2 2))) (JK (tz (J2 6) (J2 4))))) JN) (J8 (JP (UG (Xy (UD (JK (tz (J2 4) (JR JW))))) (UG (Xy (UD (JK (tz (J2 6) (JR JW))))) (Xy (UD (TQ (tz (J2 5) Nn)))))) (JJ Xg) JN) (J8 (JP (UG (Xy (UD (JK (tz (N2 (sz (J2 5))) (J2 3))))) (Xy (UD (JK (tz (J2 5) (J2 2)))))) (JJ Xg) JN) (JJ (JK (tz (UL Zec (J2 0) (sz (PR (sz (J2 5))))) (JR JW))))))))))))⟩) (.a fun ds R X h=>?_)
 ·obtain⟨bk,fs,ws,f,w,rfl,hF,hz,hw,hu,hR⟩:=h;refine⟨rfl,?_⟩;have hh:=Kt f;refine⟨f,rfl,by omega,rfl,rfl,bk,fs,ws,f,w,rfl,hF,hz,fun r hr hl=>⟨by simp,by simp,?_⟩⟩
  refine KM (fun γ'=>(r=[]/\(¬ ∃r,Ring (JX f) w r)/\∃o:List Int,Best w (pcc f) (JX f) o/\γ'=[some (.bor (vilD (ExcR.JD mg "Village") bk (fs++[f]) (ws++[w]))),some (.bor (plD f)),some (.bor (plD w)),some (.own ((JX f).map D.int)),some (.sh (.lst (r.map D.int))),some (.own (o.map D.int)),some (.own (([]:List Int).map D.int)),none])\/
   (r≠[]/\γ'=[some (.bor (vilD (ExcR.JD mg "Village") bk (fs++[f]) (ws++[w]))),some (.bor (plD f)),some (.bor (plD w)),some (.own ((JX f).map D.int)),some (.sh (.lst (r.map D.int))),some (.own (([]:List Int).map D.int)),some (.sh (.fL r)),none])) ?_ ?_
  ·refine⟨rfl,rfl,bk,fs,ws,f,w,rfl,hF,hz,hw,hu,fun r2 hr2 hne=>⟨r2,rfl,?_⟩,fun hN o hB=>.inl ⟨(hr.none_iff hu).mpr hN,hN,o,hB,rfl⟩⟩;rw[hr2.one hr]at hne ⊢;exact⟨rfl,.inr ⟨hne,rfl⟩⟩
  rintro γ' (⟨rfl,hN,o,hB,rfl⟩|⟨hne,rfl⟩)
  ·have hol:=hB.perm.length_eq;have hp0:Uk w (JX f) (JX f).length=[]:=(Ny hu).mpr hN;refine⟨JX f,w,rfl,by omega,by omega,ite2 (fun g=>absurd g (by rw[Yl hp0];simp)) (fun _=>?_)⟩;refine⟨by simp,[],.inl rfl,by simp,iteF ⟨by simp,[],.inl rfl,by simp,iteF ⟨_,.same _,iteF ?_⟩⟩⟩;refine⟨o,rfl,by omega,fun ns hp hs=>?_⟩;obtain rfl:=Mi hB.perm hp hs;refine⟨JX f,.inl rfl,by omega,iteF ⟨o,w,rfl,fun _=>iteF ?_,fun⟨q,hq,hb⟩=>absurd hb (by rw[HW hB.keeps q hq];simp)⟩⟩;refine⟨rfl,rfl,rfl,bk,fs,ws,f,w,o,rfl,hF,hz,by omega,hw,?_⟩;rw[Zcf hB.perm]
   have e:w.filter (KR o)=[]:=List.filter_eq_nil_iff.mpr fun q hq hb=>by
    unfold KR at hb;rw[Y9]at hb;exact IK hB.keeps (Yp hb.1) (Yp hb.2) hq
   rw[e];exact⟨by simp,[],.inl rfl,by simp,hR⟩
  ·have RR:=(hr.ring hu hne).1
   have:=TZ RR.nodup RR.sub
   have hp0:¬Uk w (JX f) (JX f).length=[]:=fun z=>hne ((hr.none_iff hu).mpr ((Ny hu).mp z));refine⟨JX f,w,rfl,by omega,by omega,ite2 (fun _=>?_) (fun g=>absurd (by rw[Y0 hp0];rfl) g)⟩;exact⟨r,JX f,w,rfl,by omega,RR,r,.inr rfl,by omega,hR⟩
def Zbe(G:Glob K mg)(DD:Def K mg "law" Kd ["_law_script"])(Ya:Dh P w K mg base)(Yb:GW P w K mg base)(Yc:Ga P w K mg base)(Yd:Em P w K mg base)(Ye:E1 P w K mg base)(Zv:Av P w K mg base)(Yf:Ae P w K mg base)(Yg:GG P w K mg base)(Zb:Py P w K mg base)(Zw:Ew P w K mg base)(Zn:NQ P w K mg base)(Yh:GS P w K mg base)
  : Rw P w K mg base:=by
 refine DD.oz (k:=7) Ka (fun _ _ _ _ _ _ E hr=>⟨_,(J7 (Pu.pz 1 Ka.nd (fz Ya hr (az (fz Yf hr (bz (pv 0) J6))))) (J7 (Pu.pz 2 Ka.nd (JB Ud (JB Uy (fz Zb hr (bz (pv 0) J6)) J6) J6)) (J7 (Rt (jx K (JS (bz (JB Ui J6 (JB Ud (jx K (pv 1) J6) J6)) (jx K (pv 1) J6))) (pv 2)) (Hm (pv 1) J6 Zdy)) (J7 (Pu.pz 3 Ka.nd (fz Yb hr (dz (pv 0) (pv 1) (JB Ud (JB Uy (fz Zb hr (bz (pv 0) J6)) J6) (jx K (JS (bz J6 J6)) (pv 2)))))) (J7 (Pu.pz 4 Ka.nd (M4 Yc G.m_Village (hr.mono (by decide)) Se (az (XS (PY (K:=K)) (by rfl) G.list boot_list (az (pv 3)))))) (J7 (Pu.pz 5 Ka.nd (JS (az (Ub (dz (pv 3) (JS Uh) (Ub Uh)))))) (J7 (UT YT rfl (Us (K:=K) (fz Yd hr (bz (pv 0) (pv 1)))) (gz 6 Ka.nd) (J9 (JL (Xk (U2 (K:=K) (fz Zw hr (dz (pv 4) (pv 5) (pv 6))))) (J9 (JF Xd))
   JO))) (J7 (UT YT rfl (Us (K:=K) (fz Ye hr (bz (pv 0) J6))) (gz 7 Ka.nd) (J7 (Pu.pz 6 Ka.nd (fz Yg hr (dz (JB Uy (pv 7) J6) (pv 1) (jx K (pv 5) (UX Xi J6))))) (KQ (JL (JT Xf (JB Ud (pv 7) J6) J6 (Ua _)) (J7 (Pu.pz 8 Ka.nd (fz Zn hr (bz (JB Uy (pv 7) J6) (pv 1)))) (J9 (Pu.pz 6 Ka.nd (Ub (dz Um (jx K (pv 8) J6) (jx K (pv 8) J6))))))
   JO) (J7 (JL (Xk (U2 (K:=K) (fz Zw hr (dz (pv 4) (pv 5) (pv 6))))) (J9 (JF Xd))
   JO) (J7 (JL (Xk (U2 (K:=K) (fz Yh hr (dz (pv 4) (jx K (jx K (pv 5) (UX Xi J6)) J6) (jx K (jx K (pv 5) (UX Xi J6)) J6))))) (J9 (JF Xd))
   JO) (J9 (JL (PW.pt (Km (cq K hr (pv 2) J6) (KI (Xk (U2 (K:=K) (fz Zv hr (dz (pv 4) (jx K (jx K (pv 5) (UX Xi J6)) J6) (jx K (jx K (pv 5) (UX Xi J6)) J6)))))))) (J9 (JF Xd))
   JO))))))) (J9 (JF (fz Zv hr (dz (pv 4) (jx K (jx K (pv 5) (UX Xi J6)) J6) (jx K (jx K (pv 5) (UX Xi J6)) J6))))))))))))), (J8 (JH (JK (sz (JK (tz (J2 0) J4)))) (JC 1)) (J8 (JH (Ue (Uw (JK (tz (J2 0) J4)) J4) J4) (JC 2)) (J8 (Zaf 1 J4 (JA (JR (tz (Uj J4 (Ue (JA (J2 1) J4) J4)) (JA (J2 1) J4))) (J2 2))) (J8 (JH (JK (uz (J2 0) (J2 1) (Ue (Uw (JK (tz (J2 0) J4)) J4) (JA (JR (tz J4 J4)) (J2 2))))) (JC 3)) (J8 (JH (Zdd (sz (PR (sz (J2 3))))) (JC 4)) (J8 (JM 3 (JH (JR (sz (Uc (uz (J2 3) (JR JW) (Uc JW))))) (JC 5))) (J8 (FQ 5 (UO [6] (XA (JK (tz (J2 0) (J2 1)))) (JC 6) (JM 6 (FQ 5 (Ed (EB (sv_w (Ey 4 5 (by decide) (sz (J2 6))))) (JJ Xg) JN))))) (J8 (UO [6,7,8] (XA (JK (tz (J2 0) J4))) (JC 7) (J8 (JH (JK (uz (Uw (J2 7) J4) (J2 1) (JA (J2 5) (Xh J4)))) (JC 6)) (KP (JP (JG (UY (Ue (J2 7) J4) J4)) (J8 (JH (JK (tz (Uw (J2 7) J4) (J2 1))) (JC 8)) (JH (Uc (uz Up (JA (J2 8) J4) (JA (J2 8) J4))) (JC 6))) JN) (J8 (JM 6 (FQ 5 (Ed (EB (sv_w (Ey 4 5 (by decide) (sz (J2 6))))) (JJ Xg) JN))) (J8 (JP (Xy (UD (JK (uz (J2 4) (JA (JA (J2 5) (Xh J4)) J4) (JA (JA (J2 5) (Xh J4)) J4))))) (JJ Xg) JN) (JP (Kh (JG (Uo (J2 2) J4)) (Xy (UD (JK (uz (J2 4) (JA (JA (J2 5) (Xh J4)) J4) (JA (JA (J2 5) (Xh J4)) J4)))))) (JJ Xg) JN)))))) (JJ (JK (uz (J2 4) (JA (JA (J2 5) (Xh J4)) J4) (JA (JA (J2 5) (Xh J4)) J4))))))))))))⟩) (.a fun ds R X h=>?_)
 ·obtain⟨ns,rfl,hR⟩:=h;refine⟨rfl,?_⟩;refine⟨ns,0,rfl,by decide,fun c0=>⟨c0,rfl,fun m hM=>?_⟩⟩;have hM0:=hM;obtain⟨a0,a1,a2,a3,a4,em,ha,_⟩:=hM0;have i0:atI (m.map D.int) 0=some (.int a0):=by rw[em];rfl
  have s0:ixN (m.map D.int).length 0=some 0:=by rw[em];rfl
  refine⟨ns,0,rfl,by decide,⟨by decide,by decide⟩,(by show(0:Int)<2;decide),?_⟩;generalize ez:ns.getD (Int.toNat 0) 0=z;have hlg:z / 2 % 2=0\/z / 2 % 2=1:=by omega
  have hv:1<=(if z / 2 % 2=0 then 1+a0 % 6 else a0)/\(if z / 2 % 2=0 then 1+a0 % 6 else a0)<=10:=by split<;>omega
  have hM:=Zam hM hv;have es:(m.map D.int).set 0 (.int (if z / 2 % 2=0 then 1+a0 % 6 else a0))=(m.set 0 (if z / 2 % 2=0 then 1+a0 % 6 else a0)).map D.int:=by rw[List.map_set]
  refine⟨_,i0,(by show(0:Int)<6;decide),_,i0,by simp,_,PU _ _ hlg,_,_,s0,rfl,?_⟩;rw[es];generalize m.set 0 (if z / 2 % 2=0 then 1+a0 % 6 else a0)=m at hM;have hlim:(if z / 2 % 2=0 then(13:Int)else 41)=13\/(if z / 2 % 2=0 then(13:Int)else 41)=41:=by split<;>simp
  refine⟨ns,0,rfl,by decide,⟨by decide,by decide⟩,by simp,_,PU _ _ hlg,(by show(0:Int)<(if z / 2 % 2=0 then(13:Int)else 41);omega),ns,m,_,rfl,hM,(by rcases hlim with e|e<;>rw[e]<;>omega),(by rcases hlim with e|e<;>rw[e]<;>omega),fun ps hF hlen=>?_⟩
  have hz:ps.length<=40:=by rcases hlim with e|e<;>rw[e]at hlen<;>omega
  refine⟨rfl,fun x=>⟨x,ps,rfl,rfl,by omega,?_⟩⟩;rw[Zbc hF hz];refine fun b1 b2 b3=>⟨rfl,?_⟩;refine⟨by simp,by simp,by simp,by simp,fun a=>?_⟩;refine⟨ns,m,rfl,hM,fun qs hq=>?_⟩;refine⟨rfl,XC (xs:=qs) (emb:=fun q:Int×Int=>dD (Dd.wish q.1 q.2).q) (fun i γ'=>∃hs:Hist,hs.length<=i/\FineH ps hs/\γ'=[some (.bor (.scr ns)),some (.own (m.map D.int)),some (.sh (.int (z / 2 % 2))),some (.sh (plD ps)),some (.own (vO (ExcR.JD mg "Village") x b1 b2 b3 (bkH hs) (fsH ps hs) (wsH hs))),some (.own (.lsA a (U9 ps hs))),none,none,none]) ?_ ?_ ?_⟩
  ·exact⟨[],Wr _,FineH.nil hF hz,rfl⟩
  ·rintro i γ' hi ⟨hs,h1,h2,rfl⟩;refine⟨x,b1,b2,b3,a,ps,hs,_,rfl,rfl,rfl,by omega,h2,.inr ⟨.wish qs[i].1 qs[i].2,rfl,?_⟩⟩;refine iteF ?_;exact⟨addH ps hs (.wish qs[i].1 qs[i].2),by have:=SY ps hs (.wish qs[i].1 qs[i].2);omega,h2.add _,rfl⟩
  rintro γ' ⟨hs,h1,h2,rfl⟩;refine⟨ns,30,rfl,by decide,by decide,fun cs hc=>?_⟩;refine⟨rfl,XC (xs:=cs) (emb:=D.int) (fun i γ'=>∃hs:Hist,hs.length<=24+i/\FineH ps hs/\γ'=[some (.bor (.scr ns)),some (.own (m.map D.int)),some (.sh (.int (z / 2 % 2))),some (.sh (plD ps)),some (.own (vO (ExcR.JD mg "Village") x b1 b2 b3 (bkH hs) (fsH ps hs) (wsH hs))),some (.own (.lsA a (U9 ps hs))),none,none,none]) ?_ ?_ ?_⟩
  ·exact⟨hs,by omega,h2,rfl⟩
  ·rintro i γ' hi ⟨hs,h1,h2,rfl⟩;obtain⟨⟨c1,c2⟩,c3⟩:=h2.cur;obtain⟨dl,el⟩:=Pt ps hs;refine⟨⟨by decide,by decide⟩,_,el,_,m,curF ps hs,curW hs,[dl],rfl,hM,by omega,c1,by have:=c3.1;omega,fun d=>?_,?_⟩
   ·refine KM (fun γ'=>∃(q:D) (t8:Option S),(q=.tup [.str "back"]\/∃d:Dd,q=dD d.q)/\γ'=[some (.bor (.scr ns)),some (.own (m.map D.int)),some (.sh (.int (z / 2 % 2))),some (.sh (plD ps)),some (.own (vO (ExcR.JD mg "Village") x b1 b2 b3 (bkH hs) (fsH ps hs) (wsH hs))),some (.own (.lsA a (U9 ps hs))),some (.sh q),some (.sh (.int cs[i])),t8]) ⟨(by show(0:Int)<3;decide),ite2 (fun _=>⟨⟨by decide,by decide⟩,_,m,rfl,hM,fun u v=>⟨_,Xq _ _,_,PU _ _ (.inr rfl),by simp,_,_,.inr ⟨.wish u v,rfl⟩,rfl⟩⟩) (fun _=>⟨_,_,.inr ⟨d,rfl⟩,rfl⟩)⟩ ?_;rintro γ' ⟨q,t8,hq,rfl⟩;refine⟨x,b1,b2,b3,a,ps,hs,q,rfl,rfl,rfl,by omega,h2,?_⟩;rcases hq with rfl|⟨d,rfl⟩
    ·refine .inl ⟨rfl,iteF ?_⟩;obtain⟨⟨d1,d2⟩,d3⟩:=(show FineH ps (hs.dropLast)from h2.back).cur
     obtain⟨dl',el'⟩:=Pt ps (hs.dropLast);obtain⟨fs,ef,lf⟩:=Pf ps (hs.dropLast);obtain⟨ws,ew,lw⟩:=Pi (hs.dropLast);have hu:∀q∈curW (hs.dropLast),q.1≠q.2:=fun q hq=>(d3.2.2 q hq).2;have hwl:=d3.1;refine⟨_,el',_,rfl,_,el',_,rfl,bkH (hs.dropLast),fs,ws,curF ps (hs.dropLast),curW (hs.dropLast),by rw[←ef,←ew];rfl,d1,by omega,by omega,hu,iteF ?_⟩;have nxt:(hs.dropLast).length<=24+(i+1):=by rw[QU];omega
     refine ite2 (fun _=>⟨_,el',_,rfl,_,el',_,rfl,bkH (hs.dropLast),fs,ws,curF ps (hs.dropLast),curW (hs.dropLast),by rw[←ef,←ew];rfl,d1,by omega,by omega,hu,iteF ⟨_,nxt,h2.back,rfl⟩⟩) (fun _=>⟨_,nxt,h2.back,rfl⟩)
    ·refine .inr ⟨d,rfl,iteF ?_⟩;obtain⟨⟨d1,d2⟩,d3⟩:=(show FineH ps (addH ps hs d)from h2.add d).cur
     obtain⟨dl',el'⟩:=Pt ps (addH ps hs d);obtain⟨fs,ef,lf⟩:=Pf ps (addH ps hs d);obtain⟨ws,ew,lw⟩:=Pi (addH ps hs d);have hu:∀q∈curW (addH ps hs d),q.1≠q.2:=fun q hq=>(d3.2.2 q hq).2;have hwl:=d3.1;refine⟨_,el',_,rfl,_,el',_,rfl,bkH (addH ps hs d),fs,ws,curF ps (addH ps hs d),curW (addH ps hs d),by rw[←ef,←ew];rfl,d1,by omega,by omega,hu,iteF ?_⟩;have nxt:(addH ps hs d).length<=24+(i+1):=by have:=SY ps hs d;omega
     refine ite2 (fun _=>⟨_,el',_,rfl,_,el',_,rfl,bkH (addH ps hs d),fs,ws,curF ps (addH ps hs d),curW (addH ps hs d),by rw[←ef,←ew];rfl,d1,by omega,by omega,hu,iteF ⟨_,nxt,h2.add d,rfl⟩⟩) (fun _=>⟨_,nxt,h2.add d,rfl⟩)
   ·refine KM (fun γ'=>∃(q:D) (t8:Option S),(q=.tup [.str "back"]\/∃d:Dd,q=dD d.q)/\γ'=[some (.bor (.scr ns)),some (.own (m.map D.int)),some (.sh (.int (z / 2 % 2))),some (.sh (plD ps)),some (.own (vO (ExcR.JD mg "Village") x b1 b2 b3 (bkH hs) (fsH ps hs) (wsH hs))),some (.own (.lsA a (U9 ps hs))),some (.sh q),some (.sh (.int cs[i])),t8]) ⟨(by show(0:Int)<3;decide),ite2 (fun _=>⟨⟨by decide,by decide⟩,_,m,rfl,hM,fun u v=>⟨_,Xq _ _,_,PU _ _ (.inr rfl),by simp,_,_,.inr ⟨.wish u v,rfl⟩,rfl⟩⟩) (fun _=>⟨_,_,.inl rfl,rfl⟩)⟩ ?_;rintro γ' ⟨q,t8,hq,rfl⟩;refine⟨x,b1,b2,b3,a,ps,hs,q,rfl,rfl,rfl,by omega,h2,?_⟩;rcases hq with rfl|⟨d,rfl⟩
    ·refine .inl ⟨rfl,iteF ?_⟩;obtain⟨⟨d1,d2⟩,d3⟩:=(show FineH ps (hs.dropLast)from h2.back).cur
     obtain⟨dl',el'⟩:=Pt ps (hs.dropLast);obtain⟨fs,ef,lf⟩:=Pf ps (hs.dropLast);obtain⟨ws,ew,lw⟩:=Pi (hs.dropLast);have hu:∀q∈curW (hs.dropLast),q.1≠q.2:=fun q hq=>(d3.2.2 q hq).2;have hwl:=d3.1;refine⟨_,el',_,rfl,_,el',_,rfl,bkH (hs.dropLast),fs,ws,curF ps (hs.dropLast),curW (hs.dropLast),by rw[←ef,←ew];rfl,d1,by omega,by omega,hu,iteF ?_⟩;have nxt:(hs.dropLast).length<=24+(i+1):=by rw[QU];omega
     refine ite2 (fun _=>⟨_,el',_,rfl,_,el',_,rfl,bkH (hs.dropLast),fs,ws,curF ps (hs.dropLast),curW (hs.dropLast),by rw[←ef,←ew];rfl,d1,by omega,by omega,hu,iteF ⟨_,nxt,h2.back,rfl⟩⟩) (fun _=>⟨_,nxt,h2.back,rfl⟩)
    ·refine .inr ⟨d,rfl,iteF ?_⟩;obtain⟨⟨d1,d2⟩,d3⟩:=(show FineH ps (addH ps hs d)from h2.add d).cur
     obtain⟨dl',el'⟩:=Pt ps (addH ps hs d);obtain⟨fs,ef,lf⟩:=Pf ps (addH ps hs d);obtain⟨ws,ew,lw⟩:=Pi (addH ps hs d);have hu:∀q∈curW (addH ps hs d),q.1≠q.2:=fun q hq=>(d3.2.2 q hq).2;have hwl:=d3.1;refine⟨_,el',_,rfl,_,el',_,rfl,bkH (addH ps hs d),fs,ws,curF ps (addH ps hs d),curW (addH ps hs d),by rw[←ef,←ew];rfl,d1,by omega,by omega,hu,iteF ?_⟩;have nxt:(addH ps hs d).length<=24+(i+1):=by have:=SY ps hs d;omega
     refine ite2 (fun _=>⟨_,el',_,rfl,_,el',_,rfl,bkH (addH ps hs d),fs,ws,curF ps (addH ps hs d),curW (addH ps hs d),by rw[←ef,←ew];rfl,d1,by omega,by omega,hu,iteF ⟨_,nxt,h2.add d,rfl⟩⟩) (fun _=>⟨_,nxt,h2.add d,rfl⟩)
  rintro γ' ⟨hs,h1,h2,rfl⟩;obtain⟨⟨d1,d2⟩,d3⟩:=h2.cur;obtain⟨dl',el'⟩:=Pt ps hs;obtain⟨fs,ef,lf⟩:=Pf ps hs;obtain⟨ws,ew,lw⟩:=Pi hs;have hu:∀q∈curW hs,q.1≠q.2:=fun q hq=>(d3.2.2 q hq).2;have hwl:=d3.1;exact⟨_,el',_,rfl,_,el',_,rfl,bkH hs,fs,ws,curF ps hs,curW hs,by rw[←ef,←ew];rfl,d1,by omega,by omega,hu,hR⟩
end
end T
namespace T
open PySem PySem.Spec PyProof.Rows L2 Own M
def Rc{l:PySem.W.OpenLaw}{w:World}{K:Za}{h:Heap}{mg:Str->Option Value}{fa:Addr}(X:K.In h)(G0:h.Ns mainGlobals mg)(hfa:mg "law"=some (.ref fa)){Vt:Addr}(Vw:PySem.W.nsIn K mainGlobals "Village"=some (some (.ref Vt)))(VC:PySem.W.plainGet K Vt Str.empty=true)(VD:PySem.W.hasDictIn K Vt=true)(VE:PySem.W.plainOver K Vt=true)(VF:PySem.W.findIn K (.ref Vt) "__setattr__"=some (some (.builtin "object.__setattr__")))(VG:PySem.W.makesIn K Vt=true)(VH:PySem.W.keepIn K (.ref Vt)=true)(VI:PySem.W.findIn K (.ref Vt) "book"=some none)(VJ:PySem.W.findIn K (.ref Vt) "fields"=some none)(VL:PySem.W.findIn K (.ref Vt) "wished"=some none)(a1:Pu.DI K "check_holder" BN)(a2:Pu.DI K "check_width" BF)(a3:Pu.DI K "check_strips" FF)(a4:Pu.DI K "holders_of" BJ)(a5:Pu.DI K "check_order" FW)(a6:Pu.DI K "pair_cost" By)(a7:Pu.DI K "check_neighbours" Ff)(a8:Pu.DI K "broken_wishes" FB)(a9:Pu.DI K "longer_paths" F8)(a10:Pu.DI K "ring_from" FE)(a11:Pu.DI K "find_ring" Bp)(a12:Pu.DI K "check_no_ring" SX)(a13:Pu.DI K "check_place" Aa)(a14:Pu.DI K "sold" BP)(a15:Pu.DI K "parted" FU)(a16:Pu.DI K "united" Sz)(a17:Pu.DI K "with_wish" Ac)(a18:Pu.DI K "without_wish" Bo)(a19:Pu.DI K "pair_costs" FC)(a20:Pu.DI K "sets_of" Sr)(a21:Pu.DI K "without" Fw)(a22:Pu.DI K "may_lie_last" S4)(a23:Pu.DI K "may_lie_first" F2)(a24:Pu.DI K "cost_with_last" FY)(a25:Pu.DI K "cost_with_first" F1)(a26:Pu.DI K "least_costs" Fx)(a27:Pu.DI K "best_order" Sy)(a28:Pu.MI K Vt "__init__" "Village.__init__" FD)(a29:Pu.MI K Vt "strips" "Village.strips" Sq)(a30:Pu.MI K Vt "wishes" "Village.wishes" Bs)(a31:Pu.MI K Vt "check_room" "Village.check_room" FS)(a32:Pu.MI K Vt "enter" "Village.enter" B8)(a33:Pu.MI K Vt "sell" "Village.sell" Bm)(a34:Pu.MI K Vt "part" "Village.part" Bb)(a35:Pu.MI K Vt "unite" "Village.unite" SO)(a36:Pu.MI K Vt "wish" "Village.wish" Fc)(a37:Pu.MI K Vt "drop" "Village.drop" Su)(a38:Pu.MI K Vt "take_back" "Village.take_back" SL)(a39:Pu.MI K Vt "ring" "Village.ring" Fk)(a40:Pu.MI K Vt "order" "Village.order" SG)(a41:Pu.MI K Vt "broken" "Village.broken" FH)(a42:Pu.DI K "_law_at" SD)(a43:Pu.DI K "_law_whole" Fd)(a44:Pu.DI K "_law_mix" Fy)(a45:Pu.DI K "_law_draw" F6)(a46:Pu.DI K "_law_menu" Sv)(a47:Pu.DI K "_law_holder" SB)(a48:Pu.DI K "_law_row" BD)(a49:Pu.DI K "_law_present" Fe)(a50:Pu.DI K "_law_kept" Bj)(a51:Pu.DI K "_law_is_ring" FV)(a52:Pu.DI K "_law_no_ring" Ba)(a53:Pu.DI K "_law_field_step" FI)(a54:Pu.DI K "_law_wish_step" FG)(a55:Pu.DI K "_law_step" Fv)(a56:Pu.DI K "_law_call" Ss)(a57:Pu.DI K "_law_go" B6)(a58:Pu.DI K "_law_start" Ab)(a59:Pu.DI K "_law_days" S8)(a60:Pu.DI K "_law_odd" BV)(a61:Pu.DI K "_law_place" Bv)(a62:Pu.DI K "_law_pair" BX)(a63:Pu.DI K "_law_opening" BU)(a64:Pu.DI K "_law_width" BQ)(a65:Pu.DI K "_law_deed" FZ)(a66:Pu.DI K "_law_ring_told" S9)(a67:Pu.DI K "_law_ring_or_kept" F0){f68:Addr}{od68 an68:Option Addr}{sl68:Array (Option Value)}{oc68 kV68 dc68 pm68 cd68 ct68:Value}(a68:PySem.W.nsIn K mainGlobals "law"=some (some (.ref f68)))(l68:K.lookup f68=some ⟨oc68,od68,.func (PySem.W.fnOf "law" "law" (X3 Kd) (UA Kd) (JE Kd) .none kV68 dc68 pm68 an68 cd68 ct68),sl68⟩)(c68:PySem.W.codeIn K cd68 "law"=true)(k68:PySem.W.keepIn K (.ref f68)=true)(VM:PySem.W.nsIn K mainGlobals "any"=some none)(VN:PySem.W.nsIn K mainGlobals "bool"=some none)(VO:PySem.W.nsIn K mainGlobals "enumerate"=some none)(VP:PySem.W.nsIn K mainGlobals "int"=some none)(VQ:PySem.W.nsIn K mainGlobals "isinstance"=some none)(VR:PySem.W.nsIn K mainGlobals "len"=some none)(VS:PySem.W.nsIn K mainGlobals "list"=some none)(VT:PySem.W.nsIn K mainGlobals "max"=some none)(VU:PySem.W.nsIn K mainGlobals "min"=some none)(VW:PySem.W.nsIn K mainGlobals "range"=some none)(VX:PySem.W.nsIn K mainGlobals "set"=some none)(VY:PySem.W.nsIn K mainGlobals "sorted"=some none)(VZ:PySem.W.nsIn K mainGlobals "sum"=some none)(Ja:PySem.W.nsIn K mainGlobals "tuple"=some none){Ji:Tok}(Jb:PySem.W.nsIn K mainGlobals "HOLDERS"=some (some (.int 10 Ji))){Jj:Tok}(Jc:PySem.W.nsIn K mainGlobals "STRIPS"=some (some (.int 40 Jj))){Jk:Tok}(Jd:PySem.W.nsIn K mainGlobals "WIDEST"=some (some (.int 1000 Jk))){Jl:Tok}(Je:PySem.W.nsIn K mainGlobals "MOST_WISHES"=some (some (.int 20 Jl))){Jm:Tok}(Jf:PySem.W.nsIn K mainGlobals "MOST_DEEDS"=some (some (.int 100 Jm))){Jn:Addr}(Vx:Pu.EI K "TooManyStrips" Jn){Jo:Addr}(Vy:Pu.EI K "BadHolder" Jo){Jp:Addr}(Vz:Pu.EI K "BadWidth" Jp){Jq:Addr}(V0:Pu.EI K "NoStrip" Jq){Jr:Addr}(V1:Pu.EI K "BadOrder" Jr){Js:Addr}(V2:Pu.EI K "OwnStrip" Js){Jt:Addr}(V3:Pu.EI K "BadPart" Jt){Ju:Addr}(V4:Pu.EI K "UnlikeHolders" Ju){Jv:Addr}(V5:Pu.EI K "TooWide" Jv){Jw:Addr}(V6:Pu.EI K "LikeHolders" Jw){Jx:Addr}(V7:Pu.EI K "WishStands" Jx){Jy:Addr}(V8:Pu.EI K "TooManyWishes" Jy){Jz:Addr}(V9:Pu.EI K "NoWish" Jz){J0:Addr}(VA:Pu.EI K "BookFull" J0){J1:Addr}(VB:Pu.EI K "NothingDone" J1){Jg:Addr}(Vv:Pu.RI K "Ringed" Jg "Ringed.__init__" Fg)(x_Ringed:PySem.W.exmOne K (.ref Jg) (.ref Jg)=some true)
  : ∃fd:FuncData,(∀(s:Shared) (v:Value),BindsTo s fd ⟨[v],[]⟩ [("_law_script",v)])/\∀base:Heap,K.In base->base.Ns mainGlobals mg->FnOk l.prog w K mg base CX0 8 fa fd ["_law_script"] (Pu.SJ K):=by
 have e:=hfa.symm.trans (Wf X G0 a68);cases e
 have Jh:=Vv.c X G0;have Vu:=ExcR.FX (Wf X G0 Vw);have G:Glob K mg:=⟨YV X G0 VM,YV X G0 VN,YV X G0 VO,YV X G0 VP,YV X G0 VQ,YV X G0 VR,YV X G0 VS,YV X G0 VT,YV X G0 VU,YV X G0 VW,YV X G0 VX,YV X G0 VY,YV X G0 VZ,YV X G0 Ja,⟨_,Wf X G0 Jb,⟨_,rfl⟩⟩,⟨_,Wf X G0 Jc,⟨_,rfl⟩⟩,⟨_,Wf X G0 Jd,⟨_,rfl⟩⟩,⟨_,Wf X G0 Je,⟨_,rfl⟩⟩,⟨_,Wf X G0 Jf,⟨_,rfl⟩⟩,(Vx.m X G0),(Vx.k X G0),(Vy.m X G0),(Vy.k X G0),(Vz.m X G0),(Vz.k X G0),(V0.m X G0),(V0.k X G0),(V1.m X G0),(V1.k X G0),(V2.m X G0),(V2.k X G0),(V3.m X G0),(V3.k X G0),(V4.m X G0),(V4.k X G0),(V5.m X G0),(V5.k X G0),(V6.m X G0),(V6.k X G0),(V7.m X G0),(V7.k X G0),(V8.m X G0),(V8.k X G0),(V9.m X G0),(V9.k X G0),(VA.m X G0),(VA.k X G0),(VB.m X G0),(VB.k X G0),(Vv.m X G0),(Vv.i X G0),(by rw[Jh];exact x_Ringed),(by rw[Vu];exact Wf X G0 Vw),(by rw[Vu];exact⟨VC,VD,VE,VF⟩),(by rw[Vu];exact VI),(by rw[Vu];exact VJ),(by rw[Vu];exact VL)⟩;have F68:=NV (st:=Kd) l68 c68 k68;have b68:=F68.binds (ps:=["_law_script"]) fun _ _ _ _ _ _ us hl=>by obtain⟨_,rfl⟩:=Pu.len1 hl;rfl
 have D68:Def K mg "law" Kd ["_law_script"]:=⟨_,_,F68,Wf X G0 a68,b68⟩;refine⟨PySem.W.fnOf "law" "law" (X3 Kd) (UA Kd) (JE Kd) .none kV68 dc68 pm68 an68 cd68 ct68,fun s v=>.of_eq rfl,fun base _ _=>?_⟩;have C0:=@HV l.prog w K mg base G (Vv.j Jh);have C1:=@MO l.prog w K mg base G (a1.e X G0);have C2:=@Zcr l.prog w K mg base G (a2.e X G0);have C4:=@Me l.prog w K mg base G (a4.e X G0);have C6:=@Zdj l.prog w K mg base G (a6.e X G0);have C7:=@Lp l.prog w K mg base G (a7.e X G0);have C8:=@Zdt l.prog w K mg base G (a8.e X G0);have C9:=@Hk l.prog w K mg base G (a9.e X G0);have C13:=@Zbi l.prog w K mg base G (a13.e X G0);have C18:=@Hq l.prog w K mg base G (a18.e X G0);have C20:=@Zev l.prog w K mg base G (a20.e X G0);have C21:=@LA l.prog w K mg base G (a21.e X G0);have C22:=@Oj l.prog w K mg base G (a22.e X G0);have C23:=@Zbd l.prog w K mg base G (a23.e X G0);have C29:=@Zdu l.prog w K mg base G (a29.e Vu);have C30:=@LY l.prog w K mg base G (a30.e Vu);have C31:=@Zao l.prog w K mg base G (a31.e Vu);have C32:=@Zbl l.prog w K mg base G (a32.e Vu);have C38:=@R1 l.prog w K mg base G (a38.e Vu);have C42:=@IW l.prog w K mg base G (a42.e X G0);have C43:=@Hi l.prog w K mg base G (a43.e X G0);have C44:=@Ha l.prog w K mg base G (a44.e X G0);have C46:=@Oi l.prog w K mg base G (a46.e X G0);have C47:=@LB l.prog w K mg base G (a47.e X G0);have C49:=@Zbv l.prog w K mg base G (a49.e X G0);have C50:=@IT l.prog w K mg base G (a50.e X G0);have C52:=@LD l.prog w K mg base G (a52.e X G0);have C53:=@Ib l.prog w K mg base G (a53.e X G0);have C54:=@Zex l.prog w K mg base G (a54.e X G0);have C60:=@Zb2 l.prog w K mg base G (a60.e X G0);have C61:=@Mv l.prog w K mg base G (a61.e X G0);have C64:=@L3 l.prog w K mg base G (a64.e X G0);have C3:=@L8 l.prog w K mg base G (a3.e X G0) C1 C2;have C5:=@MF l.prog w K mg base G (a5.e X G0) (P3 C4);have C10:=@OW l.prog w K mg base G (a10.e X G0) C9;have C14:=@MY l.prog w K mg base G (a14.e X G0) C13 C1;have C15:=@Za8 l.prog w K mg base G (a15.e X G0) C13;have C16:=@Za4 l.prog w K mg base G (a16.e X G0) C7;have C17:=@MK l.prog w K mg base G (a17.e X G0) C1;have C19:=@IS l.prog w K mg base G (a19.e X G0) (P3 C4) C6;have C24:=@Mf l.prog w K mg base G (a24.e X G0) C21;have C25:=@Zdz l.prog w K mg base G (a25.e X G0) C21;have C37:=@MS l.prog w K mg base G (a37.e Vu) C31 C18 C32 C30 C29;have C45:=@LM l.prog w K mg base G (a45.e X G0) C44 C42;have C48:=@LR l.prog w K mg base G (a48.e X G0) C43;have C51:=@Ig l.prog w K mg base G (a51.e X G0) C43;have C55:=@Zac l.prog w K mg base G (a55.e X G0) C53 C54;have C58:=@Io l.prog w K mg base G (a58.e X G0) C42 C44 C47;have C59:=@LH l.prog w K mg base G (a59.e X G0) C44 C42;have C62:=@Zaz l.prog w K mg base G (a62.e X G0) C60 C47;have C11:=@Mo l.prog w K mg base G (a11.e X G0) C10;have C26:=@MC l.prog w K mg base G (a26.e X G0) C20 (P3 C4) C22 C24;have C28:=@Zdc l.prog w K mg base G (a28.j Vu VG VH) C3;have C33:=@Hy l.prog w K mg base G (a33.e Vu) C31 C14 C32 C29 C30;have C34:=@Zbg l.prog w K mg base G (a34.e Vu) C31 C15 C32 C29 C30;have C35:=@O0 l.prog w K mg base G (a35.e Vu) C31 C16 C32 C29 C30;have C36:=@Zd7 l.prog w K mg base G (a36.e Vu) C31 C17 C32 C30 C29;have C41:=@Lc l.prog w K mg base G (a41.e Vu) C5 C8 C29 C30;have C63:=@IG l.prog w K mg base G (a63.e X G0) C44 C42 C62 C47;have C65:=@Zdi l.prog w K mg base G (a65.e X G0) C61 C62 C60 C64 C47;have C12:=@Ol l.prog w K mg base G (a12.e X G0) C11 (P3 C4) C0;have C39:=@Zcm l.prog w K mg base G (a39.e Vu) C11 (P3 C4) C30 C29;have C56:=@Ri l.prog w K mg base G (a56.e X G0) C37 C33 C34 C35 C36;have C27:=@Za3 l.prog w K mg base G (a27.e X G0) C12 C19 C26 (P3 C4) C21 C23 C25;have C57:=@Zbs l.prog w K mg base G (a57.e X G0) C55 C56 C43 C38;have C66:=@O8 l.prog w K mg base G (a66.e X G0) C39 C49 C52 C51 C48;have C40:=@Oy l.prog w K mg base G (a40.e Vu) C27 C29 C30;have C67:=@Zch l.prog w K mg base G (a67.e X G0) C49 C39 C48 C40 C52 C41 C51 C50;have C68:=@Zbe l.prog w K mg base G D68 C46 C58 C28 C63 C59 C67 C45 C65 C42 C57 C62 C66;exact(C68.at (Wf X G0 a68) F68 D68).imp fun _ _ _ _ z=>Pu.Rl z
end T
structure PySem.W.Fast:Prop where (tw11573174059667450528 tw17424327254264504320 tw6843527599673931776 tw8295670311683259488 tw5528798256764723360 tw3174665239157984416 tw598645849553764608 tw13609944507461866784 tw17455269746874435872 tw2106468876420963616 tw2444236251936586016 tw643879616959456576 tw14779015146949322048 tw10055875546625536320 tw5007405120270903680 tw6250624211514344864 tw3132175274590693856 tw6488385047572352544 tw13130920522265213472 tw3289884078987253344 tw4156928288277907072 tw11514167586025851520 tw14918983839154886272 tw10371224986937061024 tw14481592213174189760 tw9161675467537155808 tw15808260844334541536 tw18219086160634195712 tw17486357473984674592 tw3812221845555354496 tw12524672327162652544 tw3210884278126373760 tw18325262432343650176 tw16574717810406185920 tw1887494688605896672 tw16250990470978411521 tw16422088634854914049 tw2166164711440608257 tw5399241372066961537 tw7253102828255540417 tw9357227607346561249 tw13550061474799472929 tw9739870181457497409 tw11872761891283955041 tw793198660882540993 tw8752210995367060097 tw12934076233765458657 tw4474401065513523969 tw3470874985683564289 tw1028970840249756481 tw17642620220125959009 tw3396375579861935969 tw7515402879362447233 tw4496712192425392001 tw8555359070171754401 tw5525023948273778625 tw16463127865483540482 tw6580999924181358594 tw3569513527837236386 tw13963149055274135746 tw1414148414263376066 tw6591520994052860098 tw16772390941945738466 tw11565632791019536610 tw12017786267354130658 tw11615497658102714626 tw15668710852253864194 tw12208148441789986050 tw3357564209924275458 tw2853901968918833506 tw2916900212532293026 tw4209331524129164770 tw12153363327588535778 tw9668788942469728866 tw2758233016897132130 tw1167808727479966306 tw17003329090345701026 tw1753400586114462402 tw5213661988154821346 tw6833149012958274274 tw15973326223395095298 tw8788750735924397826 tw5729639214496398114 tw2013775705554172770 tw16417157796819629922 tw3764106988075711330 tw1202417458606712706 tw3293257915969225602 tw14258368881675532162 tw15256593502169935875 tw8687798827044030531 tw2397568096161626179 tw4659857587611484259 tw6562500486033444003 tw3209253494518223139 tw18150550348818208067 tw15044354392905417091 tw10529579204299073923 tw16930214442847164803 tw16399882764548734339 tw15828644656575021507 tw14175095881432695235 tw12440991599467042243 tw28891734850230851 tw9982429099685059171 tw1730801148948428387 tw14331405571824042627 tw16481491982219854467 tw12658252081721655971 tw6001332450800917187 tw11104400862013161187 tw9480330706717183747 tw12230198484447336195 tw15893746055886216963 tw13306583990594171683 tw16209449305503899491 tw16575937283557842787 tw6647751978039609219 tw4998935575538164611 tw6490734381388665763 tw1237132698821087139 tw12173007139919423395 tw17332130408943402979 tw827213063576694820 tw3464204450168704100 tw13272570236331625572 tw2460193496060046436 tw13078756082559332452 tw18040846472152397924 tw1169887927835678916 tw15055728234942362820 tw11928551883922576644 tw2118359791916697892 tw11175727528750522692 tw3635720508949308740 tw11922828765139547492 tw4594050616106064260 tw16517817756919595460 tw1722740602413505988 tw14818953791844038244 tw12027236918095830628 tw12429067310543837860 tw10486847945823963844 tw6096715813773572836 tw11538092494172114692 tw15004646794792595204 tw18075145806783389476 tw9879160073497465636 tw480803732658107204 tw14490054159201019748 tw4054805485041039204 tw11740732064335804292 tw11219294998930162596 tw13708125577410003940 tw7572152782798200837 tw17947617601070451717 tw17415402213795782693 tw14167099389653775429 tw6121208021389004901 tw5157198602531239013 tw364855870036313221 tw1028578673161554053 tw13940951529590050949 tw6733986504881689733 tw7659034969006735525 tw4940808678005928101 tw5697659083142110405 tw1445416315199573221 tw11859281899780367589 tw6970900540380584197 tw10460222472988665093 tw3840316281062860037 tw2146028016811260165 tw16841562431055367461 tw18305505666978093349 tw12679571798570326341 tw18011717771000307013 tw1209659280943673669 tw17821000277316435269 tw702027464290210181 tw12825274674564553093 tw14354459366340877701 tw14637931403932603813 tw14558135231786688965 tw18185295535798235589 tw10475511947219462597 tw8449973604339141093 tw2868382313351309797 tw7422152766413089285 tw15076962040604287493 tw4466364055361651237 tw13475310800843487781 tw5887939651038880357 tw15588884606427890309 tw18014155160182295173 tw5807674956987858661 tw5078759502494609157 tw5895061711277246245 tw3412631874733693733 tw13018461123346330405 tw7961399691797885733 tw18058943010827039589 tw6805780547664460677 tw4363337346646503301 tw2183236132550022053 tw4243960722239118245 tw1883303395214712838 tw16140520427890687014 tw15850866537567427750 tw9842278538197651654 tw11446603701083634886 tw15316257378828752102 tw3277811824206061798 tw14981594474655759622 tw7168511036872232230 tw2901249242442455334 tw5511357011122915654 tw11084410574094162278 tw13316167647882027430 tw11078948526441146822 tw5721961916239393222 tw16091168337500429766 tw11512704601478042118 tw6511952790985906694 tw14821770076990941702 tw7139146589801563686 tw11614064127616790086 tw7720930480750521990 tw12397287604621213478 tw1297521333283603270 tw7378942818317910918 tw8405324916708275110 tw14588459760923687910 tw17903550213558781926 tw8250121533070323719 tw13434571329656463431 tw3154500916990222407 tw5429109794294616167 tw13483609056410366119 tw5902063719207424199 tw107824835209915591 tw7230103387542953191 tw5512132483768348903 tw17879508887913588999 tw1485606702483903783 tw16676805193668569383 tw13672541980172502311 tw3503936343437622599 tw3809742130218429767 tw14974130769262739847 tw14917718196589927847 tw9448275569540135367 tw774650685805098471 tw190330402382714375 tw3971089049807331847 tw12984676865739843111 tw8353462466061156967 tw14564511642680981127 tw6236963814450351783 tw17835042286109933255 tw1477279949377877799 tw7767805029095276327 tw46025384825778023 tw1079152206105820039 tw18135434460405555111 tw4425756422805613479 tw12126483840308453384 tw16521398926323364008 tw582422563302036680 tw5047004085102829768 tw2419468865537949928 tw1927913247208781064 tw5165488746610541000 tw14382222876371963336 tw14460582301866333672 tw3791645912871734792 tw5548864404752036360 tw10948229429987799560 tw12445596209712827944 tw16321522085780050472 tw3120760103904220872 tw8079710274634181352 tw12862317016768022280 tw4350954737679079208 tw12373289317278965544 tw4950932999929288584 tw2829780304008351688 tw15812484212856804361 tw13090905295410548777 tw4645794654264862825 tw16183617261133314185 tw13979470794605756585 tw16800512172009835913 tw7805792620496418185 tw16579972449405211081 tw4270891164523857417 tw2361863158205555209 tw5017818660780522057 tw9613892848436469321 tw11311665056285876969 tw7320796352772204361 tw15190964770197011273 tw2671555017179122569 tw15202694420614567817 tw336976969453563785 tw7781147495215813545 tw11267210167720045545 tw13596692434042943498 tw8543586742371319882 tw17768661970097907786 tw16317654162341770314 tw18139715471030755466 tw1543128090671189162 tw13749359371874947274 tw12612142118837837002 tw10760363759349600522 tw2233571365570269450 tw8055123973545223434 tw8169577970923120938 tw7909924617446905226 tw872537242696343978 tw18039909132474493418 tw16835894922359026154 tw6818475509904516618 tw5032546901927373322 tw7820784231257892362 tw2843920531432511018 tw10460245212071455274 tw2819444957387838058 tw1852959888831012554 tw11310534129554847434 tw6038755832117075690 tw7239212665982179146 tw2436065621651463082 tw6090522732053284778 tw15856881756981580714 tw11803642201844474794 tw14690234915905560522 tw18398868325560895466 tw4981535491680169962 tw13776902627423539275 tw4113049203316096107 tw11142400396974870699 tw15526706171360671915 tw8173934331477358763 tw3035911858468652331 tw3525692741410210091 tw12599711241271415147 tw2494868196200011115 tw6230337086461982091 tw360949297332100555 tw4545153737883766251 tw15712586493902553675 tw3638648087076868747 tw14311538067864724107 tw8695050911386667691 tw4793480833641953963 tw3666793275970464459 tw5513872469097550571 tw4677522164820079403 tw15764408358679874443 tw3577007419467122571 tw4021028551958286219 tw9767386845822198731 tw17501394850231606219 tw15717970907947698155 tw3120577469921598443 tw18331188555501791211 tw11395758272077561868 tw8885471132593145900 tw259984989131056236 tw16056682864565601388 tw358205912157561004 tw15407848770833248460 tw8296493151355719916 tw9134548809205004556 tw1639519689013479724 tw2617519228312752460 tw8127339930633522508 tw9680952859187629484 tw11640404431966352876 tw3057229696586011116 tw957908052110625356 tw484522210040200812 tw17843905399356185196 tw12592485170669445772 tw74039387664188076 tw17871378510355731148 tw146857578397706988 tw9123912535435894604 tw17270565024823201644 tw352309509861043116 tw7233378854154764204 tw8147305682580460492 tw4249617438573292492 tw17229371450756559820 tw5319240365930872845 tw13297296241951690829 tw15173824967731100781 tw13580823416424376461 tw13151856584102179981 tw13049486551920911533 tw12064631755292885165 tw16195617678071015629 tw9710786747101293773 tw2665537513201861869 tw6259812461581529421 tw17650444397793485165 tw10702889455038682541 tw16170180187199271341 tw8922596637393739213 tw8932464613899982317 tw292735401660300813 tw2819577538151563821 tw11894139156938088013 tw14914514783687785165 tw17748702529454086893 tw10832818286423367501 tw17998740858169789293 tw1912820940270900077 tw2336160809880232845 tw7389832721144788909 tw10290894318354378733 tw15534478754973114349 tw13004936991768027150 tw3143154843254044718 tw3929310655314673710 tw12808530945561553998 tw638280268953133166 tw8636331211066066030 tw7385285309244822670 tw18031352726263051470 tw13725962886938622190 tw4972387814599451982 tw15539630272128045454 tw5646558962328691118 tw10068181187169807886 tw6139822848577354286 tw9560491351617058414 tw11876630631682523790 tw5840076457572011694 tw9090323322146099950 tw1242113471037902606 tw12153763246732356494 tw9604825883378693006 tw11552863046514451374 tw1944791542150586286 tw7028194313881939886 tw8031960100169128910 tw5028678785058677742 tw12758654849146085358 tw13392451074905987087 tw10512962087455745039 tw12337770208093538383 tw9189150391709471855 tw6048709743126287535 tw7561641966001421487 tw18043679048499770607 tw13611929685503709455 tw17690590860609722639 tw12925708796303601071 tw9050556277274874351 tw7414510027544036975 tw4670242912496033423 tw5457629182411340463 tw10704895525682484943 tw3869585855616354031 tw1398430954289772271 tw9828440158104439567 tw5831861994283882255 tw14303128571846528815 tw17540515858251113263 tw5315243301790105423 tw3717469538916492111 tw14565956953252200271 tw15774546563632990063 tw3786327650608924527 tw15482814536543905679 tw9800325297197009807 tw4234633410787760015 tw3007651039720300431 tw7969267760406571983 tw1652031452447135695 tw7527409547511535599 tw13951554621754494992 tw2710272324513335344 tw8208448905387320368 tw653377107198422096 tw12131695055272728656 tw12144428258339960944 tw12622835149959583920 tw5257349447064525008 tw1845774278014920912 tw17457154082561947856 tw3550273791459785936 tw17146986877831743728 tw3009948487271786736 tw14014387020995822864 tw3195587680759356688 tw12210937877233692016 tw14672888378917202320 tw13547159444766579088 tw4882412195617808912 tw16414711956342430288 tw2483793503057289840 tw10553681178821140144 tw2879804083466336944 tw14552007344499690192 tw15882030547953055440 tw15111887309407505136 tw11940835664682016496 tw6731827347135356656 tw590727724095024912 tw15342158656720452400 tw11773898063107023696 tw11056905705240397680 tw13601017831975193456 tw8852648708461435760 tw15508155456544709488 tw3388700176189045616 tw2034560299855917968 tw13847656577457733520 tw9759264115271608240 tw610437334386748336 tw17612013856657326097 tw17928076511632263217 tw18327443483939646513 tw13248528824498993201 tw17463903652613009489 tw9871098156787019857 tw1168322178847272049 tw2921768669839455377 tw10397928447659919633 tw10662636016290482481 tw1103341409688987025 tw9525095130578186673 tw2912754749311342065 tw8741357935937594993 tw15292377954606482097 tw14047948670090066609 tw4699520622309589681 tw9111969156511720113 tw5821197561864302289 tw7958926170423471889 tw1827606744886442833 tw18047789472310591313 tw18156914458150524785 tw12319981735759077233 tw2790710592210026417 tw17698621529853818833 tw1375423498180696049 tw6913725796147439601 tw7753930580132708337 tw6817124265650618386 tw7491400108174555154 tw6991383092728194130 tw6340213173030029458 tw6790669090985038994 tw5786826705915284786 tw6065533989566587186 tw13020762077334967666 tw10831256985385298322 tw5344063197377975730 tw1365919613413008850 tw15152272422775159250 tw13137917224013150706 tw15209040037522729522 tw7424530965802294866 tw9151975659842646642 tw10550581440731550354 tw14764775223627927186 tw8528255233044730546 tw4445665282798269138 tw15684480876808823506 tw16547881631717205746 tw5579652420970771186 tw17774764627677841202 tw13851719905739556690 tw1700799557728436114 tw9856192121852796850 tw13762851168067396530 tw12151091168210973618 tw10929290109650440146 tw7000267146900284370 tw2085660879676073938 tw17510951492726302706 tw14846866835585949682 tw10132732747973247091 tw4028629586598568147 tw14932721221453839571 tw7015869434880385331 tw1721453286706400595 tw9138180909328201075 tw14958073739873916307 tw13525500698919544211 tw10438692669672516019 tw7993567552047052211 tw5614761956134536659 tw13752744429506550227 tw9865583488332073459 tw7083088079754271219 tw10007403704947969587 tw16936527879649081907 tw12836810201875506771 tw7387515708162283123 tw13099797333977072275 tw10647255091854869171 tw89081182266861235 tw8407487901102401267 tw6728087980040947507 tw10728342065187266387 tw4718024296676166515 tw15409404465450766195 tw15834579676467390323 tw350053639014104979 tw7928379405354364819 tw2324469818084430771 tw4494406070888142771 tw6229314752885880755 tw1162589969504146419 tw2632864358211272724 tw13640089455570409492 tw18427231474577437748 tw12333342478934609012 tw5959720263474901140 tw13049886376635678900 tw7537703767961283828 tw8053167624609936660 tw17849049831743765780 tw2816301579592738100 tw7769666186289047892 tw10525196171756621172 tw16802712941331659156 tw17089976455432603060 tw9146443176041409972 tw4411187165061365204 tw3872158526865830356 tw10748571439440287252 tw18366003721336209972 tw8851442674512768628 tw15004293028149099124 tw15447176521729549012 tw6349424168494343924 tw18244576088161693428 tw16826212086447818484 tw15466115619418061588 tw11799685529656540948 tw15783527216422446900 tw3800459717298081652 tw6865139504430716884 tw7800126520401145844 tw17107146785914927092 tw2755864218890741877 tw15803014478247992469 tw1145198637759941781 tw1522183864488733941 tw2308046592538918133 tw10980507252429127989 tw18309493847172466997 tw9106298108373833045 tw16917769660764470613 tw13358173039606689173 tw1500579492240407989 tw14847650923664903669 tw6979450670036655605 tw9584103107643506165 tw7071916196807365141 tw6124124479944184341 tw11858909884399285781 tw11580953537794634293 tw16812953269032960597 tw6024962080589119061 tw13746687733577159381 tw15541143157578605301 tw10955246793280313141 tw6753572721089121173 tw4947533922298071957 tw961226576665382805 tw11170829959051947957 tw3933879822818796469 tw16597083240910852053 tw17488826027269254133 tw14542983637854109718 tw11097221832257298454 tw10833877964595088662 tw4356506091235871062 tw9322512673437322614 tw15687952140099187062 tw12975376801680831894 tw5670585816014011830 tw12852414948397819414 tw859195189253784118 tw13415157592145890902 tw13879371941022558902 tw7218606241448186614 tw2542177375626188534 tw15489233017149045526 tw4309172068023697174 tw12038209275994631990 tw6781667358602598230 tw11418036423697622870 tw16829587401236375510 tw13179104275656614902 tw18106796691018426519 tw10150005916701323415 tw13890234548296519863 tw17045308105969079511 tw17250925137612238071 tw5864050365829199191 tw2602514566316190039 tw13705367363796531543 tw7020543531655809399 tw1280707835145870711 tw18249914273420206455 tw15277224810495010199 tw3889098080963262871 tw1982447219429081591 tw14715365336535104087 tw4208825210099859031 tw11432944251615204983 tw9112205845248638583 tw2511743515339004567 tw10913416228339194551 tw8337181079940123351 tw6651223424953082647 tw13771205602818821943 tw3921629234238965719 tw16767947913726595063 tw4456717605834154999 tw6167516898668119128 tw1166056077584730200 tw12885941234126082168 tw8467570126041867384 tw2940067972856820984 tw5290281911997152504 tw7615785650541452536 tw12746990182879191320 tw16608441295162509624 tw1674392608185473400 tw12920763199525025208 tw9662586373165153752 tw348154653853892184 tw8351677205222531704 tw4278082497695048312 tw15525915898561916536 tw13057420851508939416 tw14843513678218536696 tw6999328838341119736 tw2893465266045444888 tw16762210945332717368 tw3198176277986197336 tw9818129741364555608 tw16356355701275007864 tw8094653704544283544 tw11741647259998953432 tw13722979839880805368 tw15492533977218445304 tw16484832081066320953 tw4715736195685755129 tw1512226592608065817 tw14931702430079973657 tw10518597142458961209 tw2763847905492459833 tw2909743840222123353 tw11643021657605917049 tw4351334168623365529 tw4013708991004010905 tw624993820477713817 tw5235478841265258009 tw1555444685564556921 tw255427351516131993 tw6594314394716611257 tw8122253103293608633 tw7344048660354084569 tw6805091602245562105 tw9351917606300729113 tw14866677794220788505 tw13676407117930288921 tw7547138304758902553 tw5035405345009073945 tw12274451542046021433 tw17789707283608521529 tw8541921459494132569 tw5700334359449872217 tw14667484966987105145 tw9235370946949443449 tw14964766146234786745 tw6651540424520896473 tw2514373403763480537 tw6587249231682308089 tw14459762318560795641 tw7417371368212456441 tw3233398550212427802 tw2755224899141855258 tw2523538678833282106 tw3872689457579545690 tw15429577549563181274 tw3637812294338164954 tw13585020711058017594 tw10845235662578037050 tw8452099462568426810 tw14190651041715470810 tw11785169525802047994 tw6901228543211906554 tw4480307427507535354 tw7045766473631659738 tw7012324089812834042 tw4872506211439016698 tw3127867155158747930 tw10783165457782384474 tw15123251840137050 tw998248292947145722 tw4435447867644985338 tw625106407588768795 tw17255299039383379995 tw1649699118918485051 tw17951370240555281563 tw1069957981317298331 tw4837393183169728795 tw1261804615237425435 tw9300815258756762939 tw9104659993933663579 tw10765851659116214619 tw10143168517036462523 tw10672763193608157659 tw12818483137443119579 tw5600983553231579611 tw686467422096469499 tw4062238344100946459 tw2716085968905478715 tw14591067115017769595 tw260752812132245147 tw9591156581625979547 tw8569660609254995643 tw1413840414356329211 tw14595608655316101947 tw10131398254930631515 tw3579896482678172507 tw7900429699621220283 tw18408329802810554299 tw5572000623311029211 tw7758391216877579227 tw1358985666417858555 tw742473452588120059 tw2556994698245933084 tw8684319574622189596 tw13121693092752152604 tw6077188985848868956 tw5254474442438364284 tw10403642476326638716 tw4658017137565355164 tw16382813774008573116 tw3366172639276024028 tw1958870801094698204 tw5994443461289900252 tw10701578151232143612 tw7778068523686392060 tw6056415973281265916 tw730832890681466204 tw996316861521654268 tw1134303182382174748 tw5685472833339812412 tw3954294350674168444 tw5261859570344302204 tw9547759643743900284 tw7734166569325685372 tw15368331256047731388 tw2526627671994018492 tw11541022881795307260 tw12778843678877485852 tw9695151300258658076 tw6378297374007897916 tw15586691742847888252 tw15297867117461293980 tw2650058010932248669 tw491112408496881757 tw2177921931532929213 tw402469444312176861 tw10317968115107044637 tw3350522568281572637 tw7239654856648302909 tw12159458979663301981 tw5883716975491435869 tw15021958206321626493 tw15688850692508507549 tw765449273313608157 tw11773878983510723069 tw8657268397200617981 tw7262465841247373821 tw3898536988059755037 tw15059602439220486685 tw9306397553399089725 tw2171777951242147421 tw12661560429338258109 tw14749621152471544509 tw17653642443852633821 tw10139329043345104605 tw9434857392383167293 tw4735400500950047613 tw4998895510296324989 tw9403681867304468349 tw15359052961977579485 tw2756836424481597405 tw9612115432722486269 tw3528582161174861854 tw7243569070556807230 tw10878699923693739070 tw9873369269872006238 tw13064796968885133406 tw4916175223551413374 tw1408418449335756958 tw6291584366613202238 tw2733051985134413118 tw12756517877620027742 tw9814169358796832126 tw16388848317881996702 tw10510448864573433310 tw14573383019734532606 tw9488487359236145662 tw16955735545163608638 tw4390331911938901598 tw4751173938998327902 tw13025462613024678558 tw17906839749385141982 tw9407481843899678462 tw10313076528453233470 tw1214093777982470974 tw2720551429885511486 tw14213094470333291358 tw1472920988889869150 tw2898306633382569854 tw1211902148372896702 tw9614747873602579422 tw13118015441034525662 tw17923597340917813246 tw5738458537457863743 tw12977790871426784319 tw15670043227394811999 tw13110451915867412767 tw7133844194519500127 tw9477205639550042495 tw16769920702978633151 tw17341601957614999039 tw12514761011517357695 tw15269323792585736863 tw3298883008113986303 tw6482971542697284383 tw6927111939197346591 tw6278422637931507519 tw11382863802560435007 tw12434599073060347743 tw6101265838327632767 tw6608498196695495551 tw7473444574529403775 tw2958416928595397567 tw3427136551372845023:True)
open PySem PySem.W PyProof.Rows
set_option maxRecDepth 100000 in
set_option maxHeartbeats 0 in
theorem PySem.Challenge.cw_stripmeld_k38_whole_wishes_or_ring_holds : PySem.Challenge.rw_stripmeld_k38_whole_wishes_or_ring.Holds := by
 w_on;o_law;k_head;(case hw=>w_witness2)
 k_fill
 refine L2.Iw (l:=PySem.Challenge.rw_stripmeld_k38_whole_wishes_or_ring) (n:=63) (k:=8) (x:="_law_script") (CX:=L2.CX0) (sp:=Pu.SJ) rfl (by decide) rfl ⟨rfl,by decide,by decide⟩ (fun w h Y=>PySem.W.kIn_of Y) ?F ?S ?C
 case F=>
  intro w mg fa h KX G hmg
  refine' T.Rc KX G hmg ?Vw ?VC ?VD ?VE ?VF ?VG ?VH ?VI ?VJ ?VL ?a1 ?a2 ?a3 ?a4 ?a5 ?a6 ?a7 ?a8 ?a9 ?a10 ?a11 ?a12 ?a13 ?a14 ?a15 ?a16 ?a17 ?a18 ?a19 ?a20 ?a21 ?a22 ?a23 ?a24 ?a25 ?a26 ?a27 ?a28 ?a29 ?a30 ?a31 ?a32 ?a33 ?a34 ?a35 ?a36 ?a37 ?a38 ?a39 ?a40 ?a41 ?a42 ?a43 ?a44 ?a45 ?a46 ?a47 ?a48 ?a49 ?a50 ?a51 ?a52 ?a53 ?a54 ?a55 ?a56 ?a57 ?a58 ?a59 ?a60 ?a61 ?a62 ?a63 ?a64 ?a65 ?a66 ?a67 ?a68 ?l68 ?c68 ?k68 ?VM ?VN ?VO ?VP ?VQ ?VR ?VS ?VT ?VU ?VW ?VX ?VY ?VZ ?Ja ?Jb ?Jc ?Jd ?Je ?Jf ?Vx ?Vy ?Vz ?V0 ?V1 ?V2 ?V3 ?V4 ?V5 ?V6 ?V7 ?V8 ?V9 ?VA ?VB ?Vv ?x_Ringed
  (case Vw|VC|VD|VE|VF|VG|VH|VI|VJ|VL=>k_is)
  (case a1|a2|a3|a4|a5|a6|a7|a8|a9|a10|a11|a12|a13|a14|a15|a16|a17|a18|a19|a20|a21|a22|a23|a24|a25|a26|a27=>apply Pu.di<;>k_is)
  (case a28|a29|a30|a31|a32|a33|a34|a35|a36|a37|a38|a39|a40|a41=>apply Pu.mi<;>k_is)
  (case a42|a43|a44|a45|a46|a47|a48|a49|a50|a51|a52|a53|a54|a55|a56|a57|a58|a59|a60|a61|a62|a63|a64|a65|a66|a67=>apply Pu.di<;>k_is)
  (case a68|l68|c68|k68|VM|VN|VO|VP|VQ|VR|VS|VT|VU|VW|VX|VY|VZ|Ja|Jb|Jc|Jd|Je|Jf=>k_is)
  (case Vx|Vy|Vz|V0|V1|V2|V3|V4|V5|V6|V7|V8|V9|VA|VB=>apply Pu.ei<;>first|(k_is;done)|k_exc)
  (case Vv=>apply Pu.ri<;>first|(k_is;done)|k_exc|rfl)
  (case x_Ringed=>kts_exm)
 case S=>exact fun K H a ns hl hO hS=>⟨a,ns,rfl,hS,fun _=>rfl⟩
 case C=>exact fun _ _ _ _ z=>z
