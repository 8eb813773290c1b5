import PyProof.Rows.All
import Wide.All
import OpenK.AllK
import Wide.FinOn
import Lean
import PyProof.EqAt
import PyProof.EqKinds
import PyProof.TupleCall
import PySem.Challenge.RW_stripmeld_k48_whole_two_villages
set_option Elab.async false
set_option linter.all false
set_option compiler.extract_closed false
set_option genSizeOf false
set_option maxRecDepth 100000
def bu_0(h:True:=by rfl):True:=h
def au_0:Lean.Syntax:=bu_0._auto_1
def bu_1(h:True:=by decide):True:=h
def au_1:Lean.Syntax:=bu_1._auto_1
def bu_2(h:True:=by first | exact .inl rfl | exact .inr rfl | assumption):True:=h
def au_2:Lean.Syntax:=bu_2._auto_1
def bu_3(h:True:=by intro _; rfl):True:=h
def au_3:Lean.Syntax:=bu_3._auto_1
def bu_4(h:True:=by first | exact Or.inl rfl | exact Or.inr (Or.inl rfl) | exact Or.inr (Or.inr rfl)):True:=h
def au_4:Lean.Syntax:=bu_4._auto_1
def bu_5(h:True:=by decide +kernel):True:=h
def au_5:Lean.Syntax:=bu_5._auto_1
def bu_6(h:True:=by first | exact Or.inl rfl | exact Or.inr rfl):True:=h
def au_6:Lean.Syntax:=bu_6._auto_1
def bu_7(h:True:=by intro _ _; rfl):True:=h
def au_7:Lean.Syntax:=bu_7._auto_1
def bu_8(h:True:=by kernel_rfl):True:=h
def au_8:Lean.Syntax:=bu_8._auto_1
def bu_9(h:True:=by intro _; first | exact Or.inl rfl | exact Or.inr (Or.inl rfl) | exact Or.inr (Or.inr rfl)):True:=h
def au_9:Lean.Syntax:=bu_9._auto_1
def bu_10(h:True:=by intro _; exact ⟨rfl, rfl, rfl⟩):True:=h
def au_10:Lean.Syntax:=bu_10._auto_1
def bu_11(h:True:=by with_unfolding_all rfl):True:=h
def au_11:Lean.Syntax:=bu_11._auto_1
def bu_12(h:True:=by intro _; first | exact Or.inl rfl | exact Or.inr rfl):True:=h
def au_12:Lean.Syntax:=bu_12._auto_1
def bu_13(h:True:=by intro _; first | exact .inl rfl | exact .inr rfl | assumption):True:=h
def au_13:Lean.Syntax:=bu_13._auto_1
def bu_14(h:True:=by intro _; kernel_rfl):True:=h
def au_14:Lean.Syntax:=bu_14._auto_1
noncomputable section
def Wt:=@List.length_map
def Wu:=@PySem.wpAny_bind
def Wv:=@List.getElem?_eq_getElem
def Ww:=@decide_eq_true
def Wx:=@List.mem_singleton
def Wy:=@of_decide_eq_true
def Wz:=@PySem.Heap.get?_push_of_some
def W1:=@PySem.wpAny_pure
def W2:=@if_neg
def W3:=@if_pos
def W4:=@List.mem_of_getElem?
def W5:=@Nat.le_refl
def W6:=@List.getElem?_map
def W7:=@List.length_append
def W8:=@List.mem_cons
def W9:=@Nat.le_trans
def WA:=@List.getD_eq_getElem?_getD
def WB:=@Option.some.inj
def WC:=@List.mem_append
def WD:=@PySem.Heap.get?_push_size
def WE:=@PySem.Heap.lt_size
def WG:=@List.take_succ_eq_append_getElem
def WH:=@List.getElem?_eq_some_iff
def WI:=@List.map_append
def WJ:=@PySem.PassesOwn.never
def WK:=@List.mem_cons_of_mem
def WL:=@List.getElem_mem
def WM:=@List.length_cons
def WN:=@Bool.false_ne_true
def WO:=@List.map_cons
def WQ:=@Classical.byContradiction
def WR:=@List.mem_append_right
def WS:=@List.length_take
def WT:=@List.mem_filter
def WU:=@List.pairwise_iff_getElem
def WV:=@Nat.ne_of_lt
def WW:=@List.mem_cons_self
def WX:=@List.size_toArray
def WY:=@List.mem_iff_getElem
def WZ:=@List.mem_map
def Qa:=@decide_eq_false
def Qb:=@List.getElem?_append_left
def Qc:=@Nat.add_le_add
def Qd:=@PySem.F.plainAttrs_list
def Qe:=@List.take_length
def Qf:=@Nat.lt_of_lt_of_le
def Qg:=@List.nodup_cons
def Qh:=@List.getElem?_append_right
def Qi:=@List.map_map
def Qj:=@PySem.W.mg_none_of
def Qk:=@congrArg
def Ql:=@Bool.and_eq_true
def Qm:=@List.nodup_append
def Qn:=@List.append_nil
def Qo:=@PySem.Heap.get?_update_self
def Qp:=@PySem.wpAny_newObj_type
def Qq:=@Int.toNat_natCast
def Qr:=@List.mem_append_left
def Qs:=@PySem.Heap.get?_update_other
def Qt:=@Array.length_toList
def Qu:=@List.getElem?_cons_succ
def Qv:=@PySem.wpAny_mono
def Qw:=@PySem.Obj.data_mapFields
def Qx:=@PySem.Heap.SameBut.update
def Qy:=@PySem.W.mg_of
def Qz:=@PySem.W.kia_one
def Q0:=@List.length_set
def Q1:=@List.length_eq_zero_iff
def Q2:=@List.take_zero
def Q3:=@List.getElem_take
def Q4:=@List.filterMap_cons
def Q5:=@Array.getElem?_eq_getElem
def Q6:=@Array.getElem?_toList
def Q7:=@List.getElem?_eq_none
def Q8:=@List.length_filter_le
def Q9:=@List.eq_nil_or_concat
def QA:=@Nat.lt_irrefl
def QB:=@Nat.zero_le
def QC:=@List.dropLast_concat_getLast
def QD:=@List.lookup_cons
def QE:=@List.pairwise_cons
def QF:=@PySem.wpAny_setField
def QG:=@PySem.Obj.isFreed_of_fields
def QH:=@Nat.le_of_eq
def QI:=@List.getElem?_take_of_lt
def QJ:=@PySem.F.slot_dict_valueiterator_next
def QK:=@List.dropLast_concat
def QL:=@PyProof.Rows.boot_isinstance
def QM:=@PySem.wpAny_holding
def QN:=@PySem.wpAny_typeNameOfWhole_valiter
def QO:=@PySem.mem_of_lookup
def QP:=@List.cons_append
def QR:=@List.all_eq_true
def QS:=@PySem.wpAny_call_entry
def QT:=@PySem.wpAny_passesOwn
def QU:=@List.length_singleton
def QV:=@List.concat_eq_append
def QW:=@PySem.wpAny_truthy_bool
def QX:=@List.take_sublist
def QY:=@PySem.wpAny_setState_of
def QZ:=@List.ext_getElem?
def Va:=@List.pairwise_append
def Vb:=@List.mem_of_mem_take
def Vc:=@PySem.Heap.size_push
def Vd:=@List.nodup_nil
def Ve:=@Nat.lt_succ_self
def Vf:=@PySem.wpAny_typeNameOf_valiter
def Vg:=@PySem.F.slot_list_append
def Vh:=@PySem.F.type_list_append
def Vi:=@beq_eq_false_iff_ne
def Vj:=@List.length_pos_iff
def Vk:=@List.length_reverse
def Vl:=@List.mem_map_of_mem
def Vm:=@List.getElem?_replicate
def Vn:=@PySem.F.slot_list_index
def Vo:=@List.find?_cons
def Vp:=@PySem.codeAny_builtin
def Vq:=@List.map_singleton
def Vr:=@List.filterMap_eq_map'
def Vs:=@Bool.eq_false_iff
def Vt:=@Classical.not_not
def Vu:=@PySem.codeAny_mono
def Vv:=@Nat.lt_trans
def Vw:=@List.filterMap_append
def Vx:=@PySem.F.slot_list_pop
def Vy:=@PySem.F.type_list_pop
def Vz:=@Int.ne_of_lt
def V0:=@PyProof.Rows.callWith_type1
def V1:=@PySem.Around.under_plainId
def V2:=@List.any_cons
def V3:=@Array.getElem?_eq_some_iff
def V4:=@Bool.eq_iff_iff
def V5:=@List.drop_eq_getElem_cons
def V6:=@List.exists_mem_of_ne_nil
def V7:=@Nat.le_of_lt
def V8:=@PySem.wpAny_Call_Name_kw
def V9:=@PySem.F.args_tuple_add_2
def VA:=@PyProof.Rows.F.entry_set_update_loop
def VB:=@PyProof.Rows.F.plain_set_update_loop
def VC:=@Bool.false_eq_true
def VD:=@List.idxOf_lt_length_iff
def VE:=@Nat.add_sub_cancel
def VF:=@Int.add_zero
def VG:=@PySem.F.entry_tuple_add
def VH:=@PySem.wpAny_callSpecial?_slot
def VI:=@List.filter_cons_of_pos
def VJ:=@PySem.F.type_list_index
def VL:=@List.reverse_cons
def VM:=@PySem.fits_of_scanBound
def VN:=@Nat.lt_succ_of_lt
def VO:=@PySem.Obj.cls_mapFields
def VP:=@decide_eq_true_eq
def VQ:=@Nat.le_succ
def VR:=@PySem.F.slot_tuple_add
def VS:=@Array.getElem?_eq_none
def VT:=@List.all_cons
def VU:=@if_false
def VW:=@List.not_mem_nil
def VX:=@PySem.W.methodCall_KW
def VY:=@PySem.wpAny_isOneOf_valiter
def VZ:=@List.getElem?_reverse
def Ja:=@PySem.Heap.get?_none_of_le
def Jb:=@PySem.wpAny_execs_nil
def Jc:=@Option.map_some
def Jd:=@List.mem_of_mem_drop
def Je:=@List.cons.injEq
def Jf:=@Nat.mul_le_mul_right
def Jg:=@PySem.W.plainGet_of
def Jh:=@List.map_congr_left
def Ji:=@List.mem_range
def Jj:=@Bool.false_and
def Jk:=@PySem.wpAny_field
def Jl:=@List.mem_filterMap
def Jm:=@PySem.W.callWith_K
def Jn:=@Nat.lt_of_le_of_lt
def Jo:=@List.getElem_idxOf
def Jp:=@List.filterMap_map
def Jq:=@List.filter_append
def Jr:=@Int.emod_lt_of_pos
def Js:=@Bool.true_and
def Jt:=@List.pairwise_map
def Ju:=@List.append_assoc
def Jv:=@List.getElem?_set
def Jw:=@Nat.not_lt
def Jx:=@Nat.ne_of_gt
def Jy:=@List.map_set
abbrev ZR:=List (Int×Int)
abbrev ZS:=List Int
abbrev ZT:=List (PySem.Addr×PySem.Obj)
abbrev ZU:=PySem.Str->Option PySem.Value
abbrev ZV:=PySem.Value->PySem.Shared->Prop
abbrev ZW:=List (Option Nat)
abbrev ZX:=List Nat
abbrev ZY:=List PySem.Value
abbrev ZZ:=List PySem.Str
abbrev Ya:=List PySem.Expr
abbrev Yb:=List PySem.Stmt
abbrev Yc:=Option PySem.Value
abbrev Yd:=Option PySem.Addr
abbrev Ye:=Array (Int×PySem.Value)
abbrev ZQ:=PySem.W.Frag
namespace L2
open PySem PySem.Spec PyProof.Rows
abbrev Key:=Sum Int Str
noncomputable def TJ:Key->Value->Bool
 | .inl k,v=>Value.isInt k v
 | .inr x,v=>Value.isStrOf x v
noncomputable def Zlr(w:World):Key->Int
 | .inl k=>hashInt k
 | .inr x=>hashStr w x
def Pv:∀{k}{v:Value},TJ k v=true->(∃i t,k=Sum.inl i/\v=Value.int i t)\/(∃x t,k=Sum.inr x/\v=Value.str x t)
 | .inl i,v,h=>by
  obtain⟨t,e⟩:=Value.isInt_shape h
  grind
 | .inr x,v,h=>by
  obtain⟨t,e⟩:=Value.isStrOf_shape h
  grind
def Zfy(i:Int)(t:Tok):TJ (.inl i) (.int i t)=true:=by simp[TJ,Value.isInt]
def Zj6(x:Str)(t:Tok):TJ (.inr x) (.str x t)=true:=by simp[TJ,Value.isStrOf]
def Of(a b:Int):decide ((Sum.inl a:Key)=Sum.inl b)=(a==b):=by grind
def Zbo(a b:Str):decide ((Sum.inr a:Key)=Sum.inr b)=decide (a=b):=by simp
def Ox(a:Int)(b:Str):decide ((Sum.inl a:Key)=Sum.inr b)=false:=Qa (λq=>nomatch q)
def Zgm(a:Str)(b:Int):decide ((Sum.inr a:Key)=Sum.inl b)=false:=Qa (λq=>nomatch q)
noncomputable def K8(prog:Program)(w:World):PySem.KeyKind prog w Key where
 is:=TJ
 hash:=Zlr w
 inj:=λv a b ha hb=>by
  rcases Pv ha with⟨i,t,rfl,rfl⟩|⟨x,t,rfl,rfl⟩
  ·rcases Pv hb with⟨j,u,rfl,e⟩|⟨y,u,rfl,e⟩
   ·injection e with e1 _;rw[e1]
   ·exact nomatch e
  ·rcases Pv hb with⟨j,u,rfl,e⟩|⟨y,u,rfl,e⟩
   ·exact nomatch e
   ·injection e with e1 _;rw[e1]
 byValue:=λk v h=>by
  rcases Pv h with⟨i,t,rfl,rfl⟩|⟨x,t,rfl,rfl⟩<;>rfl
 pyHash:=λhv h=>by
  rcases Pv hv with⟨i,t,rfl,rfl⟩|⟨x,t,rfl,rfl⟩
  ·exact wpAny_pyHash_int h
  ·exact wpAny_pyHash_str h
 eqBool:=λhu hv h=>by
  rcases Pv hu with⟨i,t,rfl,rfl⟩|⟨x,t,rfl,rfl⟩
  ·rcases Pv hv with⟨j,u,rfl,rfl⟩|⟨y,u,rfl,rfl⟩
   ·rw[Of]at h;exact wpAny_eqBool_int h
   ·rw[Ox]at h;exact SeqAt.EqAt.int_str i t y u _ _ _ _ h
  ·rcases Pv hv with⟨j,u,rfl,rfl⟩|⟨y,u,rfl,rfl⟩
   ·rw[Zgm]at h;exact SeqAt.EqAt.str_int x t j u _ _ _ _ h
   ·rw[Zbo]at h;exact wpAny_eqBool_str h
 «strs»:=λk x t v h=>by
  rcases Pv h with⟨i,u,rfl,e⟩|⟨y,u,rfl,e⟩
  ·exact nomatch e
  ·injection e with e1 _;subst e1;cases v<;>rfl
def Zdt(prog:Program)(w:World)(i:Int)(t:Tok):(K8 prog w).is (.inl i) (.int i t)=true:=Zfy i t
def Zb8(prog:Program)(w:World)(x:Str)(t:Tok):(K8 prog w).is (.inr x) (.str x t)=true:=Zj6 x t
inductive V where
 |non|bl (b:Bool)|int (i:Int)|str (x:Str)|byt (b:Array UInt8)|flt (b:UInt64)|ref (a:Addr)|ty (n:String)
 deriving DecidableEq
def RelV:V->Value->Prop
 | .non,u=>u=Value.none
 | .bl b,u=>u=Value.bool b
 | .int i,u=>∃t,u=Value.int i t
 | .str x,u=>∃t,u=Value.str x t
 | .byt b,u=>∃t,u=Value.bytes b t
 | .flt b,u=>∃t,u=Value.float b t
 | .ref a,u=>u=Value.ref a
 | .ty n,u=>u=Value.type n
abbrev Vals:List V->ZY->Prop:=Paired RelV
def Vals.length (r:Vals xs us):xs.length=us.length:=Paired.length r
def Vals.get:∀{xs us}{i:Nat}{x:V},Vals xs us->xs[i]?=some x->∃u,us[i]?=some u/\RelV x u:=by
 intro n
 induction n with
 |nil=>
  intro _ i _ h e;simp at e
 |cons _ _ f=>
  intro _ i d h e;cases h with
  |cons h r=>
   cases i with
   |zero=>
    simp at e;subst e;exact⟨_,rfl,h⟩
   |succ i=>
    obtain⟨v,l,g⟩:=f r (by simpa using e);exact⟨v,by simpa using l,g⟩
theorem Vals.set (r:RelV x u):∀{xs us} i,Vals xs us->Vals (xs.set i x) (us.set i u)
 |_,_,_,.nil=>.nil
 |_,_,0,.cons _ t=>.cons r t
 |_,_,i+1,.cons q t=>.cons q (Vals.set r i t)
def Vals.append:∀{xs ys}{us f:ZY},Vals xs us->Vals ys f->Vals (xs++ys) (us++f):=by
 intro l
 induction l with
 |nil=>
  intro _ _ _ h s;cases h
  exact s
 |cons _ _ g=>
  intro _ _ _ h s;cases h with
  |cons h r=>
   exact .cons h (g r s)
theorem Vals.take:∀{xs us} n,Vals xs us->Vals (xs.take n) (us.take n)
 |_,_,0,_|_,_,_+1,.nil=>.nil
 |_,_,n+1,.cons r t=>.cons r (Vals.take n t)
theorem Vals.drop:∀{xs us} n,Vals xs us->Vals (xs.drop n) (us.drop n)
 |_,_,0,r=>r
 |_,_,_+1,.nil=>.nil
 |_,_,n+1,.cons _ t=>Vals.drop n t
def RelO:Option V->Yc->Prop
 |some v,some u=>RelV v u
 |none,none=>True
 |_,_=>False
def KV{f:Type}:List (f×V)->List (f×Value)->Prop:=Paired λ(p:f×V) (q:f×Value)=>p.1=q.1/\RelV p.2 q.2
noncomputable def kV:Key->V
 | .inl i=>.int i
 | .inr x=>.str x
inductive HO where
 |lst (xs:List V)
 |tup (xs:List V)
 |dK (kvs:List (Key×V))|dT (kvs:List (List Key×V))
 |set (S:Int->Bool) (n:Nat)
 |ins (C dx:Addr) (fs:List (Str×V))
 |own (x:Addr)
 |xd (fs:List (Str×V))
 |met (f x:Addr)
 |rng (lo hi:Int)
 |frz (o:Obj) (u:HO)
 |tbl (ps:Array Value)
 |ext (φ:Heap->Prop)
abbrev Hp:=Addr->Option HO
noncomputable def upd(H:Hp)(a:Addr)(o:HO):Hp:=λb=>if b=a then some o else H b
def UZ:upd H a o a=some o:=by unfold upd;rw[W3 rfl]
def UR{a b o}(h:b≠a):upd H a o b=H b:=by unfold upd;rw[W2 h]
def Zjd:upd (upd H a o) a u=upd H a u:=by
 funext b;unfold upd;split<;>rfl
def Hk{H:Hp}{a b}{o u}(h:H a=some o)(f:H b=some u)(d:o≠u):a≠b:=by grind
def K6{H:Hp}{a b}{o}(h:H a=some o)(f:H b=none):a≠b:=by grind
section
variable (P:Program) (w:World)
def ObjOk(H:Hp)(h:Heap)(a:Addr):HO->Prop
 | .lst xs=>xs.length<=sizeLine/\∃(l:ZY) (n:Nat),Vals xs l/\h.get? a=some {cls:=.type "list",data:=.seq l.toArray n}
 | .tup xs=>xs.length<=sizeLine/\∃l:ZY,Vals xs l/\IsTup h a l.toArray
 | .dK g=>g.length<=sizeLine/\(a==sysModules)=false/\∃z,KV g z/\h.DictOf (K8 P w) a z
 | .dT g=>g.length<=sizeLine/\(a==sysModules)=false/\∃xs:List (List Key×Addr×Value),
   Paired (λ(p:List Key×V) (q:List Key×Addr×Value)=>p.1=q.1/\H q.2.1=some (.tup<|p.1.map kV)/\RelV p.2 q.2.2) g xs/\
   ∃o E L,h.get? a=some o/\o.ExactDict/\o.data=.dict E L/\E.toList=xs.map (entryOfKey<|tupleKind<|K8 P w)/\(xs.map (·.1)).Nodup
 | .set S n=>h.SetOf (intKind P w) a S n
 | .ins C s fs=>H s=some (.own a)/\fs.length<=1000/\s≠a/\h.get? a=some (PySem.W.instObj C s)/\
   ∃r,h.Ns1 s r/\(∀f,RelO (fs.lookup f) (r f))/\PySem.Within r (fs.map (·.1))
 | .own _=>∃o,h.get? a=some o
 | .xd fs=>∃r,h.Ns1 a r/\∀f,RelO (fs.lookup f) (r f)
 | .rng lo J=>∃t u v,h.get? a=some {cls:=.type "range",data:=.fields #[.int lo t,.int J u,.int 1 v]}
 | .frz o u=>h.get? a=some o/\ObjOk H h a u
 | .tbl G=>h.get? a=some {cls:=.none,data:=.fields G}
 | .met f x=>h.get? a=some (PySem.W.methodObj (.ref f)<|.ref x)
 | .ext y=>y h/\(∃o,h.get? a=some o)/\∀B A:Heap,y B->(∀o,B.get? a=some o->A.get? a=some o)->y A
def HOk(H:Hp)(h:Heap):Prop:=∀a o,H a=some o->ObjOk P w H h a o
end
section
variable {P:Program}{w:World}{H H':Hp}{h h':Heap}{a:Addr}{o:HO}
def ObjOk.lt (x:ObjOk P w H h a o):a<h.objs.size:=by
 cases o with
 |lst xs=>obtain⟨_,_,_,_,e⟩:=x;exact WE e
 |tup xs=>obtain⟨_,_,_,p⟩:=x;exact p.lt
 |set S n=>obtain⟨o,_,_,_,e,_⟩:=x;exact WE e
 |ins C v fs=>obtain⟨_,_,_,e,_⟩:=x;exact WE e
 |own y=>obtain⟨_,e⟩:=x;exact WE e
 |xd fs=>obtain⟨_,⟨_,_,_,e,_⟩,_⟩:=x;exact WE e
 |rng lo s=>obtain⟨_,_,_,e⟩:=x;exact WE e
 |frz r u=>obtain⟨e,_⟩:=x;exact WE e
 |tbl l|met f y=>exact WE x
 |ext g=>obtain⟨_,⟨_,e⟩,_⟩:=x;exact WE e
 |_=>obtain⟨_,_,_,_,o,_,_,e,_⟩:=x;exact WE e
def Paired.mapP:∀{l:List u}{g:List s},Paired F l g->(∀a b,F a b->G a b)->Paired G l g:=by
 intro p
 induction p with
 |nil=>
  intro _ h _;cases h
  exact .nil
 |cons _ _ n=>
  intro _ h f;cases h with
  |cons h r=>
   exact .cons (f _ _ h) (n r f)
def ObjOk.stay (x:ObjOk P w H h a o) (k:∀b u,(b=a\/H b=some (.own a))->h.get? b=some u->h'.get? b=some u)
  (Q:∀b,H b=some (.own a)->H' b=some (.own a)) (N:∀b xs,H b=some (.tup xs)->H' b=some (.tup xs)):ObjOk P w H' h' a o:=by
 induction o with
 |lst xs=>obtain⟨z,A,n,r,e⟩:=x;exact⟨z,A,n,r,k _ _ (.inl rfl) e⟩
 |tup xs=>obtain⟨z,A,r,g,e,c⟩:=x;exact⟨z,A,r,g,k _ _ (.inl rfl) e,c⟩
 |dK G=>obtain⟨z,y,J,r,g,l,s,e,c⟩:=x;exact⟨z,y,J,r,g,l,s,k _ _ (.inl rfl) e,c⟩
 |dT G=>
  obtain⟨z,y,xs,r,g,l,s,e,c⟩:=x;exact⟨z,y,xs,Paired.mapP r λp q z=>⟨z.1,N _ _ z.2.1,z.2.2⟩,g,l,s,k _ _ (.inl rfl) e,c⟩
 |set S n=>obtain⟨g,l,s,t,e,c⟩:=x;exact⟨g,l,s,t,k _ _ (.inl rfl) e,c⟩
 |ins C dx fs=>
  obtain⟨d,z,L,e,E,⟨B,l,s,T,c⟩,r⟩:=x;exact⟨Q _ d,z,L,k _ _ (.inl rfl) e,E,⟨B,l,s,k _ _ (.inr d) T,c⟩,r⟩
 |own y=>obtain⟨g,e⟩:=x;exact⟨g,k _ _ (.inl rfl) e⟩
 |xd fs=>obtain⟨E,⟨B,l,s,e,c⟩,r⟩:=x;exact⟨E,⟨B,l,s,k _ _ (.inl rfl) e,c⟩,r⟩
 |rng lo hi=>obtain⟨t,u,v,e⟩:=x;exact⟨t,u,v,k _ _ (.inl rfl) e⟩
 |frz g u M=>obtain⟨e,q⟩:=x;exact⟨k _ _ (.inl rfl) e,M q⟩
 |tbl Y=>
  have e:=x;exact k a _ (.inl rfl) e
 |met f y=>
  have e:=x;exact k a _ (.inl rfl) e
 |ext U=>obtain⟨p,⟨o,e⟩,st⟩:=x;exact⟨st _ _ p λo q=>k _ _ (.inl rfl) q,⟨o,k _ _ (.inl rfl) e⟩,st⟩
def HOk.lt (x:HOk P w H h) (e:H a=some o):a<h.objs.size:=(x a o e).lt
def HOk.fresh (x:HOk P w H h) (e:h.objs.size<=a):H a=none:=by
 cases q:H a with
 |none=>rfl
 |some u=>exact absurd (Qf (x.lt q) e) (QA _)
def HOk.kept (x:HOk P w H h) (k:∀b u,h.get? b=some u->h'.get? b=some u):HOk P w H h':=λa o e=>
 (x a o e).stay (λb u _ q=>k b u q) (λ_ q=>q) λ_ _ q=>q
def HOk.laid (x:HOk P w H h) (k:∀b u,h.get? b=some u->h'.get? b=some u) (l:h.objs.size<=a) (new:ObjOk P w (upd H a o) h' a o):HOk P w (upd H a o) h':=λb u e=>by
 have f:=x.fresh l;by_cases g:b=a
 ·subst g;rw[UZ]at e;cases e;exact new
 ·rw[UR g]at e;exact(x b u e).stay (λc v _ q=>k c v q) (λc q=>by rw[UR (K6 q f)];exact q) λc xs q=>by rw[UR (K6 q f)];exact q
end
def Rd(H:Hp)(a:Addr)(u:HO):Prop:=H a=some u\/∃o,H a=some (.frz o u)
def Rd.ok {H h a u} (r:Rd H a u) (x:HOk P w H h):ObjOk P w H h a u:=by
 rcases r with r|⟨o,r⟩
 ·exact x a u r
 ·obtain⟨_,q⟩:=x a _ r;lia
def Mut:Option HO->Prop
 |some (.lst _)=>True
 |some (.dK _)=>True
 |some (.dT _)=>True
 |some (.set _ _)=>True
 |some (.ins _ _ _)=>True
 |some (.ext _)=>True
 |_=>False
section
variable {P:Program}{w:World}{H:Hp}{h h':Heap}{x e:Addr}{o':HO}
def HOk.write (ok:HOk P w H h) (g:Mut (H x)) (A:e=x\/H e=some (.own x)) (k:∀b u,b≠e->h.get? b=some u->h'.get? b=some u) (l:∃u,h'.get? e=some u)
  (new:ObjOk P w (upd H x o') h' x o'):HOk P w (upd H x o') h':=λb u q=>by
 have nown:∀c y,H c=some (.own y)->c≠x:=λc y r z=>by subst z;rw[r]at g;exact g
 have ntup:∀c xs,H c=some (.tup xs)->c≠x:=λc xs r z=>by subst z;rw[r]at g;exact g
 by_cases p:b=x
 ·subst p;rw[UZ]at q;cases q;exact new
 ·rw[UR p]at q;by_cases f:b=e
  ·have n:H b=some (.own x):=by
    rcases A with z|z
    ·grind
    ·rw[f];exact z
   rw[q]at n;cases n;obtain⟨v,s⟩:=l;exact⟨v,by rw[f];exact s⟩
  ·refine(ok b u q).stay (λc v o r=>k c v ?_ r) (λc r=>by rw[UR (nown c b r)];exact r) λc xs r=>by rw[UR (ntup c xs r)];exact r
   rcases o with rfl|o
   ·exact f
   ·grind
end
structure Un (fs ex:List Addr) (H H':Hp) (h h':Heap):Prop where
 keep:∀b o,h.get? b=some o->H b=none->b∉fs->b∉ex->h'.get? b=some o
 slot:∀b o,h.get? b=some o->H b=none->b∈fs->b∉ex->∃sl,h'.get? b=some {o with slots:=sl}
 free:∀b o,h.get? b=some o->H b=none->b∉ex->H' b=none
 there:∀b o,h.get? b=some o->b∉ex->∃o',h'.get? b=some o'
 tups:∀b xs,H b=some (.tup xs)->H' b=some (.tup xs)
 frzs:∀b o u,H b=some (.frz o u)->H' b=some (.frz o u)
 tbls:∀b ps,H b=some (.tbl ps)->∃more,H' b=some (.tbl (ps++more))
section
variable {fs fs' ex ex':List Addr}{H H1 H2:Hp}{h h1 h2 h':Heap}{a x e:Addr}{o:HO}
def Un.any (u:Un fs ex H H1 h h1) {b ob} (q:h.get? b=some ob) (n:H b=none) (hx:b∉ex):∃sl,h1.get? b=some {ob with slots:=sl}:=by
 by_cases f:b∈fs
 ·exact u.slot b ob q n f hx
 ·exact⟨ob.slots,u.keep b ob q n f hx⟩
def Un.kept (k:∀b u,h.get? b=some u->h'.get? b=some u):Un fs ex H H h h':=
 ⟨λb f q _ _ _=>k b f q,λb f q _ _ _=>⟨f.slots,k b f q⟩,λ_ _ _ n _=>n,λb f q _=>⟨f,k b f q⟩,λ_ _ q=>q,λ_ _ _ q=>q,λ_ g q=>⟨#[],by rw[q];simp⟩⟩
def Un.refl:Un fs ex H H h h:=Un.kept λ_ _ q=>q
def Un.laid (k:∀b u,h.get? b=some u->h'.get? b=some u) (hp:h.objs.size<=a) (hn:H a=none):Un fs ex H (upd H a o) h h' where
 keep:=λb u q _ _ _=>k b u q
 slot:=λb u q _ _ _=>⟨u.slots,k b u q⟩
 free:=λb u q n _=>by rw[UR (WV<|Qf (WE q) hp)];exact n
 there:=λb u q _=>⟨u,k b u q⟩
 tups:=λb xs q=>by rw[UR (K6 q hn)];exact q
 frzs:=λb u xs q=>by rw[UR (K6 q hn)];exact q
 tbls:=λb ps q=>⟨#[],by rw[UR (K6 q hn),q];simp⟩
def Un.write (f:Mut (H x)) (v:e=x\/H e=some (.own x)) (k:∀b u,b≠e->h.get? b=some u->h'.get? b=some u) (s:∃u,h'.get? e=some u):Un fs ex H (upd H x o) h h':=by
 have hx:∀b,H b=none->b≠x:=λb n z=>by subst z;rw[n]at f;exact f
 have l:∀b,H b=none->b≠e:=λb n z=>by
  rcases v with r|r
  ·grind
  ·grind
 have g:∀b u,H b=some u->¬Mut (some u)->b≠x:=λb u q p z=>by subst z;rw[q]at f;exact p f
 refine⟨λb u q n _ _=>k b u (l b n) q,λb u q n _ _=>⟨u.slots,k b u (l b n) q⟩,λb u q n _=>by rw[UR (hx b n)];exact n,λb u q _=>?_,
  λb xs q=>by rw[UR (g b _ q λz=>z)];exact q,λb u xs q=>by rw[UR (g b _ q λz=>z)];exact q,λb y q=>⟨#[],by rw[UR (g b _ q λz=>z),q];simp⟩⟩
 by_cases w:b=e
 ·grind
 ·grind
end
noncomputable def trk(h:Heap)(H:Hp):List Addr:=(List.range h.objs.size).filter λa=>(H a).isSome
noncomputable def PX(h:Heap)(H:Hp):Heap:=PySem.W.hideAll h (trk h H)
def Zdw(h:Heap)(H:Hp):(PX h H).objs.size=h.objs.size:=PySem.W.hideAll_size _ _
def Zay{H b o}(e:h.get? b=some o)(n:H b=none):(PX h H).get? b=some o:=
 PySem.W.hideAll_get _ e λf=>by
  have q:=(WT.mp f).2
  grind
def Zjn(e:(PX h H).get? b=some o):h.get? b=some o/\H b=none:=by
 have f:=PySem.W.of_hideAll (trk h H) e;refine⟨f,?_⟩;cases q:H b with
 |none=>rfl
 |some x=>
  have g:b∈trk h H:=WT.mpr ⟨Ji.mpr (WE f),by simp[q]⟩;have z:(PX h H).get? b=none:=PySem.W.hideAll_none (trk h H) g
  grind
noncomputable def Zaz(g h:Heap)(L:Addr):ZT:=(List.range h.objs.size).filterMap λa=>if a=L\/(g.get? a).isSome=true then none else(h.get? a).map λo=>(a,o)
noncomputable def rest(g h:Heap)(L d:Addr):ZT:=(Zaz g h L).filter λp=>decide (p.1≠d)
structure Mod (K:ZQ) (mg:ZU) (base:Heap):Prop where
 kin:K.In base
 glob:base.Ns mainGlobals mg
 blt:∃mb,base.Ns builtinsNs mb/\∀x:Str,x≠"__name__"->mb x=bootBuiltins x
 nolimit:base.NoLimit
structure Cx where
 prog:Program
 w:World
 K:ZQ
 mg:ZU
 base:Heap
 A:Around
 N:ZZ
 s₀:Shared
 H₀:Hp
 env:Env
 outer:List Env
 stack:List Env
 ex:List Addr
 fn:Str->Bool
 calm:Bool
 pn:ZT
 xe:ZV
noncomputable def frs(l:List Env):List Addr:=l.filterMap (·.frame)
noncomputable abbrev Cx.fs (X:Cx):List Addr:=frs X.outer
def Vis(f:Scope)(x:Str):Prop:=f.names.lookup x=some .local\/f.names.lookup x=some .cell\/f.names.lookup x=some .free
def Loc(f:Scope)(x:Str):Prop:=f.names.lookup x=some .local\/f.names.lookup x=some .cell
def Look(env:Env)(h:Heap)(m:ZU)(x:Str)(u:Value):Prop:=
 (env.kindOf x=some .local/\m x=some u)\/((env.kindOf x=some .cell\/env.kindOf x=some .free)/\∃c,env.cells.lookup x=some c/\h.IsCell c (some u))
structure Cx.Ok (X:Cx):Prop where
 mod:Mod X.K X.mg X.base
 kind:X.env.scope.kind=.function
 glob:X.env.globals=mainGlobals
 blt:X.env.builtins=builtinsNs
 above:X.s₀.heap.objs.size<=X.env.locals
 inj:∀x y c,X.env.cells.lookup x=some c->X.env.cells.lookup y=some c->x=y
 has:∀x,(X.env.kindOf x=some .cell\/X.env.kindOf x=some .free)->∃c,X.env.cells.lookup x=some c
 cab:∀x c,X.fn x=true->X.env.cells.lookup x=some c->X.s₀.heap.objs.size<=c
 hd:X.calm=true->X.A.handled=none
 frames:X.A.frames=some X.stack
 stk:X.stack=X.outer\/(X.stack=X.env::X.outer/\X.env.frame=some X.env.locals)
 exf:∀b∈X.ex,b≠X.env.locals/\∀x c,X.env.cells.lookup x=some c->c≠b
 bs:∀b o,X.base.get? b=some o->X.s₀.heap.get? b=some o/\X.H₀ b=none
 bsz:X.base.objs.size<=X.s₀.heap.objs.size
 noex:∀b o,X.base.get? b=some o->b∉X.ex
 exfs:∀b∈X.ex,b∉X.fs
 funs:X.s₀.heap.FunFrames X.base X.outer
 frf:∀b∈X.fs,X.H₀ b=none
structure Inv (X:Cx) (pins:ZT) (σ:List (Option V)) (H:Hp) (s:Shared):Prop where
 ok:X.Ok
 os:s.os=X.s₀.os
 bare:AllBare s.gens
 base:Un X.fs X.ex X.H₀ H X.s₀.heap s.heap
 loc:∃m,s.heap.Ns X.env.locals m/\∀(i:Nat) (x:Str) (v:V),X.N[i]?=some x->σ[i]?=some (some v)->Vis X.env.scope x->∃u,RelV v u/\Look X.env s.heap m x u
 cell:∀x c,X.env.cells.lookup x=some c->∃v,s.heap.IsCell c v
 free:H X.env.locals=none
 freeC:∀x c,X.env.cells.lookup x=some c->H c=none
 pin:∀p∈X.pn++pins,s.heap.get? p.1=some p.2/\H p.1=none/\p.1≠X.env.locals/\p.1∉X.fs/\∀v,p.2.data≠.cell v
 hok:HOk X.prog X.w H s.heap
 len:σ.length=X.N.length
section
variable {X:Cx}{pins:ZT}{σ:List (Option V)}{H H':Hp}{s:Shared}{h':Heap}
def Cx.Ok.nofr (ok:X.Ok) {b o} (e:X.base.get? b=some o):b∉X.fs:=λf=>by
 have:=(ok.funs.mem f).1
 grind
def Inv.bs (I:Inv X pins σ H s):∀b o,X.base.get? b=some o->s.heap.get? b=some o/\H b=none:=λb o e=>
 ⟨I.base.keep b o (I.ok.bs b o e).1 (I.ok.bs b o e).2 (I.ok.nofr e) (I.ok.noex b o e),I.base.free b o (I.ok.bs b o e).1 (I.ok.bs b o e).2 (I.ok.noex b o e)⟩
def Inv.bk (I:Inv X pins σ H s):∀b o,X.base.get? b=some o->s.heap.get? b=some o:=λb o e=>(I.bs b o e).1
def Inv.mod (I:Inv X pins σ H s):Mod X.K X.mg X.base:=I.ok.mod
def Inv.kIn (I:Inv X pins σ H s):X.K.In s.heap:=I.ok.mod.kin.keeps I.bk
def Inv.lt (I:Inv X pins σ H s):X.env.locals<s.heap.objs.size:=let ⟨_,f,_⟩:=I.loc;f.lt
def Inv.sz (I:Inv X pins σ H s):X.s₀.heap.objs.size<=s.heap.objs.size:=W9 I.ok.above (V7 I.lt)
def Inv.nofs (I:Inv X pins σ H s) {a:Addr} (h:s.heap.objs.size<=a):a∉X.fs:=λg=>by
 obtain⟨_,o,f,_⟩:=I.ok.funs.mem g;exact absurd (Qf (WE f)<|W9 I.sz h) (QA _)
def Inv.cne (I:Inv X pins σ H s):∀x c,X.env.cells.lookup x=some c->c≠X.env.locals:=λx c e z=>by
 obtain⟨v,o,l,n⟩:=I.cell x c e;obtain⟨m,⟨h,p,r,f,g,_⟩,_⟩:=I.loc
 grind
def Inv.funs (I:Inv X pins σ H s):s.heap.FunFrames X.base X.outer:=by
 have all:∀l,(∀b∈frs l,b∈X.fs)->X.s₀.heap.FunFrames X.base l->s.heap.FunFrames X.base l:=by
  intro l
  induction l with
  |nil=>intro _ _;trivial
  |cons B r p=>
   intro n x;obtain⟨y,⟨L,o,f,w,v,A⟩,u⟩:=x;have h:=n L (by unfold frs;rw[Q4,f];exact WW);obtain⟨sl,e⟩:=I.base.slot L o v (I.ok.frf L h) h λz=>I.ok.exfs L z h;exact⟨y,⟨L,_,f,w,e,A⟩,p (λb g=>n b (by unfold frs;rw[Q4,f];exact WK _ g)) u⟩
 exact all X.outer (λ_ g=>g) I.ok.funs
def Inv.stack (I:Inv X pins σ H s):s.heap.FunFrames X.base X.stack:=by
 rcases I.ok.stk with e|⟨e,g⟩
 ·rw[e];exact I.funs
 ·rw[e];obtain⟨m,f,_⟩:=I.loc;refine .cons (by rw[I.ok.kind];decide) g f ?_ I.funs;exact Ja (W9 I.ok.bsz I.ok.above)
def Inv.stkSub (I:Inv X pins σ H s):∀b∈frs X.stack,b∈X.env.locals::X.fs:=λb f=>by
 rcases I.ok.stk with e|⟨e,g⟩
 ·grind
 ·rw[e]at f;unfold frs at f;rw[Q4,g]at f;trivial
def Inv.stkFree (I:Inv X pins σ H s):∀b∈frs X.stack,H b=none:=λb f=>by
 rcases W8.mp (I.stkSub b f)with e|f
 ·rw[e];exact I.free
 ·obtain⟨_,o,g,_⟩:=I.ok.funs.mem f;exact I.base.free b o g (I.ok.frf b f) λz=>I.ok.exfs b z f
def Inv.step {d'}{ch:List Addr} (I:Inv X pins σ H s)
  (g:∀b∈ch,(b∈X.ex\/X.s₀.heap.objs.size<=b)/\b≠X.env.locals/\(∀x c,X.env.cells.lookup x=some c->c≠b)/\∀p∈X.pn++pins,p.1≠b)
  (keep:∀b o,b≠X.env.locals->b∉X.fs->b∉ch->s.heap.get? b=some o->H b=none->h'.get? b=some o)
  (slot:∀b o,b≠X.env.locals->b∈X.fs->b∉ch->s.heap.get? b=some o->H b=none->∃sl,h'.get? b=some {o with slots:=sl}) (free:∀b o,b∉ch->s.heap.get? b=some o->H b=none->H' b=none)
  (there:∀b o,b∉ch->s.heap.get? b=some o->∃o',h'.get? b=some o')
  (tups:∀b xs,H b=some (.tup xs)->H' b=some (.tup xs)) (frzs:∀b o u,H b=some (.frz o u)->H' b=some (.frz o u)) (tbls:∀b ps,H b=some (.tbl ps)->∃more,H' b=some (.tbl (ps++more)))
  (ns:∀m,s.heap.Ns X.env.locals m->h'.Ns X.env.locals m) (J:HOk X.prog X.w H' h') (hg:AllBare g') :
  Inv X pins σ H' {s with heap:=h',gens:=g',drawn:=d',toks:=t'}:=by
 have B:∀b o,X.s₀.heap.get? b=some o->b≠X.env.locals:=λb o e=>WV (Qf (WE e) I.ok.above)
 have f:∀b o,X.s₀.heap.get? b=some o->b∉X.ex->b∉ch:=λb o e hx y=>by
  rcases(g b y).1 with z|z
  ·exact hx z
  ·exact absurd (Qf (WE e) z) (QA _)
 have cellK:∀x c,X.env.cells.lookup x=some c->∀v,s.heap.IsCell c v->h'.IsCell c v:=λx c e v ⟨o,A,L⟩=>by
  have C:=λz=>(g c z).2.2.1 x c e rfl;by_cases M:c∈X.fs
  ·obtain⟨sl,q⟩:=slot c o (I.cne x c e) M C A (I.freeC x c e);exact⟨_,q,L⟩
  ·exact⟨o,keep c o (I.cne x c e) M C A (I.freeC x c e),L⟩
 refine⟨I.ok,I.os,hg,⟨λb o e n y hx=>?_,λb o e n y hx=>?_,λb o e n hx=>?_,λb o e hx=>?_,λb xs e=>tups b xs (I.base.tups b xs e),λb o xs e=>frzs b o xs (I.base.frzs b o xs e),λb ps e=>?_⟩,?_,λx c e=>?_,?_,λx c e=>?_,λp T=>?_,J,I.len⟩
 ·exact keep b o (B b o e) y (f b o e hx) (I.base.keep b o e n y hx) (I.base.free b o e n hx)
 ·obtain⟨sl,h⟩:=I.base.slot b o e n y hx;obtain⟨G,E⟩:=slot b _ (B b o e) y (f b o e hx) h (I.base.free b o e n hx);exact⟨G,E⟩
 ·obtain⟨o',h⟩:=I.base.there b o e hx;exact free b o' (f b o e hx) h (I.base.free b o e n hx)
 ·obtain⟨o',h⟩:=I.base.there b o e hx;exact there b o' (f b o e hx) h
 ·obtain⟨Q,h⟩:=I.base.tbls b ps e;obtain⟨N,E⟩:=tbls b _ h;exact⟨Q++N,by rw[E,Array.append_assoc]⟩
 ·obtain⟨m,U,Y⟩:=I.loc;refine⟨m,ns m U,λi x v h E e3=>?_⟩;obtain⟨u,r,l⟩:=Y i x v h E e3;refine⟨u,r,?_⟩;rcases l with l|⟨k,c,e,z⟩
  ·exact .inl l
  ·exact .inr ⟨k,c,e,cellK x c e _ z⟩
 ·obtain⟨v,z⟩:=I.cell x c e;exact⟨v,cellK x c e v z⟩
 ·obtain⟨m,⟨o,_,_,A,_⟩,_⟩:=I.loc;exact free _ o (λz=>(g _ z).2.1 rfl) A I.free
 ·obtain⟨v,o,A,L⟩:=I.cell x c e;exact free c o (λz=>(g c z).2.2.1 x c e rfl) A (I.freeC x c e)
 ·obtain⟨e,n,ne,nf,d⟩:=I.pin p T
  grind
def Inv.un (I:Inv X pins σ H s) (u:Un X.fs [] H H' s.heap h') (g:HOk X.prog X.w H' h'):Inv X pins σ H' {s with heap:=h',toks:=t'}:=by
 obtain⟨m,⟨o,E,G,v,r⟩,_⟩:=id I.loc;obtain⟨sl,A⟩:=u.any v I.free (by simp)
 exact I.step (ch:=[]) (λ_ z=>nomatch z) (λb o _ h _ e n=>u.keep b o e n h (by simp)) (λb o _ h _ e n=>u.slot b o e n h (by simp)) (λb o _ e n=>u.free b o e n (by simp)) (λb o _ e=>u.there b o e (by simp)) u.tups u.frzs u.tbls (λC y=>by
  obtain⟨B,l,p,f,x⟩:=y;rw[v]at f;cases f;exact⟨_,l,p,A,x⟩) g I.bare
def Inv.call {d'}{ch} (I:Inv X pins σ H s) (u:Un (frs X.stack) ch H H' s.heap h') (l:HOk X.prog X.w H' h') (G:AllBare L)
  (h:∀b∈ch,(b∈X.ex\/X.s₀.heap.objs.size<=b)/\b≠X.env.locals/\(∀x c,X.env.cells.lookup x=some c->c≠b)/\∀p∈X.pn++pins,p.1≠b) :
  Inv X pins σ H' {s with heap:=h',gens:=L,drawn:=d',toks:=t'}:=by
 obtain⟨m,⟨o,Q,T,B,r⟩,_⟩:=id I.loc;obtain⟨sl,v⟩:=u.any B I.free λz=>(h _ z).2.1 rfl
 exact I.step h (λb o v J f e n=>u.keep b o e n (λz=>(W8.mp<|I.stkSub b z).elim v J) f) (λb o _ _ f e n=>u.any e n f) (λb o f e n=>u.free b o e n f) (λb o f e=>u.there b o e f) u.tups u.frzs u.tbls (λN E=>by
  obtain⟨M,y,A,g,C⟩:=E;rw[B]at g;cases g;exact⟨_,y,A,v,C⟩) l G
def Inv.turned {it} (I:Inv X pins σ H s) (k:∀b o,b≠it->s.heap.get? b=some o->h'.get? b=some o) (B:H it=none) (l:it≠X.env.locals)
  (J:it∈X.ex\/X.s₀.heap.objs.size<=it) (G:∀x c,X.env.cells.lookup x=some c->c≠it) (E:∀p∈X.pn++pins,p.1≠it):Inv X pins σ H {s with heap:=h',toks:=t'}:=by
 refine I.step (ch:=[it]) (λb C=>?_) (λb o _ _ f e _=>k b o (λz=>f (by simp[z])) e) (λb o _ _ f e _=>⟨o.slots,k b o (λz=>f (by simp[z])) e⟩) (λ_ _ _ _ n=>n)
  (λb o f e=>⟨o,k b o (λz=>f (by simp[z])) e⟩) (λ_ _ e=>e) (λ_ _ _ e=>e) (λb A e=>⟨#[],by rw[e];simp⟩) (λm h=>?_) (λb u e=>?_) I.bare
 ·grind
 ·obtain⟨o,w,y,g,r⟩:=h;exact⟨o,w,y,k _ o (Ne.symm l) g,r⟩
 ·refine(I.hok b u e).stay (λc v f q=>k c v ?_ q) (λ_ q=>q) λ_ _ q=>q;rcases f with z|z
  ·grind
  ·grind
def Inv.tok (I:Inv X pins σ H s) (t:Nat):Inv X pins σ H {s with toks:=t}:=I.un Un.refl I.hok
def Inv.kept (I:Inv X pins σ H s) (k:∀b u,s.heap.get? b=some u->h'.get? b=some u):Inv X pins σ H {s with heap:=h',toks:=t'}:=I.un (Un.kept k) (I.hok.kept k)
def Inv.laid {a:Addr}{o}{t'} (I:Inv X pins σ H s) (k:∀b u,s.heap.get? b=some u->h'.get? b=some u) (f:s.heap.objs.size<=a) (new:ObjOk X.prog X.w (upd H a o) h' a o) :
  Inv X pins σ (upd H a o) {s with heap:=h',toks:=t'}:=I.un (Un.laid k f<|I.hok.fresh f) (I.hok.laid k f new)
def Inv.write (I:Inv X pins σ H s) (g:Mut (H x)) (h:e=x\/H e=some (.own x)) (k:∀b u,b≠e->s.heap.get? b=some u->h'.get? b=some u) (f:∃u,h'.get? e=some u)
  (new:ObjOk X.prog X.w (upd H x o) h' x o):Inv X pins σ (upd H x o) {s with heap:=h',toks:=t'}:=I.un (Un.write g h k f) (I.hok.write g h k f new)
def Inv.weak (I:Inv X pins σ H s) (l:f.length=σ.length) (w:∀(i:Nat) v,f[i]?=some (some v)->σ[i]?=some (some v)):Inv X pins f H s:=
 ⟨I.ok,I.os,I.bare,I.base,let ⟨m,h,g⟩:=I.loc;⟨m,h,λi x v p o n=>g i x v p (w i v o) n⟩,I.cell,I.free,I.freeC,I.pin,I.hok,l.trans I.len⟩
def Inv.pins_of (I:Inv X pins σ H s) (h:∀p∈pins',s.heap.get? p.1=some p.2/\H p.1=none/\p.1≠X.env.locals/\p.1∉X.fs/\∀v,p.2.data≠.cell v):Inv X pins' σ H s:=
 ⟨I.ok,I.os,I.bare,I.base,I.loc,I.cell,I.free,I.freeC,λp f=>(WC.mp f).elim (λz=>I.pin p (Qr _ z)) (h p),I.hok,I.len⟩
def IZ{N:ZZ}(f:N.Nodup){i j:Nat}{x}(a:N[i]?=some x)(b:N[j]?=some x):i=j:=by
 obtain⟨n,h⟩:=WH.mp a;obtain⟨l,g⟩:=WH.mp b;exact(List.getElem_inj f).mp (h.trans g.symm)
def Ra{i x v u Q}(I:Inv X pins σ H s)(hN:X.N.Nodup)(hi:X.N[i]?=some x)(hx:Loc X.env.scope x)(r:RelV v u)(h:∀s',Inv X pins (σ.set i<|some v) H s'->(∃a,Heap.SameBut a s.heap s'.heap/\(a=X.env.locals\/X.env.cells.lookup x=some a))->Q () s')(hf:autoParam (X.fn x=true\/X.env.scope.names.lookup x=some .local) au_2):wpAny M A (storeName X.env x u) Q E s:=by
 obtain⟨m,hn,hl⟩:=id I.loc;have hcls:(X.env.scope.kind == .class || (X.env.scope.kind == .module&&X.env.locals != X.env.globals))=false:=by rw[I.ok.kind];rfl
 have J:i<σ.length:=by rw[I.len];exact(WH.mp hi).1
 have cne:=I.cne
 have tracked:∀{a:Addr} {h':Heap},(∃o,s.heap.get? a=some o/\H a=none)->Heap.SameBut a s.heap h'->HOk X.prog X.w H h':=λ{a h'} ha f b ob e=>by
  obtain⟨_,_,B⟩:=ha;refine(I.hok b ob e).stay (λc w' l q=>(f.2 c ?_).trans q) (λ_ q=>q) λ_ _ q=>q;rintro rfl;rcases l with rfl|l
  ·rw[B]at e;cases e
  ·rw[B]at l;cases l
 rcases hx with G|G
 ·refine wpAny_storeName_local G hn (λh' hn' f=>?_) hcls;obtain⟨oL,_,_,hoL,_⟩:=id hn;refine h _ ⟨I.ok,I.os,I.bare,⟨λb o e n U hx=>?_,λb o e n U hx=>?_,I.base.free,λb o e hx=>?_,I.base.tups,I.base.frzs,I.base.tbls⟩,⟨_,hn',λj y v' g C e3=>?_⟩,λy c e=>?_,I.free,I.freeC,λp hp=>?_,tracked ⟨oL,hoL,I.free⟩ f,by simpa using I.len⟩ ⟨_,f,.inl rfl⟩
  ·exact(f.2 b<|WV<|Qf (WE e) I.ok.above).trans (I.base.keep b o e n U hx)
  ·obtain⟨sl,g⟩:=I.base.slot b o e n U hx;exact⟨sl,(f.2 b<|WV<|Qf (WE e) I.ok.above).trans g⟩
  ·obtain⟨o',g⟩:=I.base.there b o e hx;exact⟨o',(f.2 b<|WV<|Qf (WE e) I.ok.above).trans g⟩
  ·by_cases L:j=i
   ·subst L;rw[hi]at g;cases g;rw[List.getElem?_set_self J]at C;cases C
    exact⟨u,r,.inl ⟨G,by simp⟩⟩
   ·rw[List.getElem?_set_ne (Ne.symm L)]at C;obtain⟨u',r',q⟩:=hl j y v' g C e3;refine⟨u',r',?_⟩;rcases q with⟨k,e⟩|⟨k,c,e,z⟩
    ·refine .inl ⟨k,?_⟩
     have:y≠x:=λe=>L (IZ hN g (e▸hi))
     simp[this,e]
    ·exact .inr ⟨k,c,e,z.sameBut f (cne y c e)⟩
  ·obtain⟨w',z⟩:=I.cell y c e;exact⟨w',z.sameBut f (cne y c e)⟩
  ·obtain⟨e,n,ne,nf,d⟩:=I.pin p hp;exact⟨(f.2 p.1 ne).trans e,n,ne,nf,d⟩
 ·have T:X.fn x=true:=by
   rcases hf with z|z
   ·exact z
   ·rw[z]at G;cases G
  obtain⟨c,l⟩:=I.ok.has x (.inl G);obtain⟨w',z⟩:=I.cell x c l;refine wpAny_storeName_cell I.ok.kind G l z (λh' hc' f=>?_);obtain⟨oc,hoc,Y⟩:=id z;refine h {s with heap:=h'} ⟨I.ok,I.os,I.bare,⟨λb o e n U hx=>?_,λb o e n U hx=>?_,I.base.free,λb o e hx=>?_,I.base.tups,I.base.frzs,I.base.tbls⟩,⟨m,hn.sameBut f (Ne.symm<|cne x c l),λj y v' g C e3=>?_⟩,λy c' e=>?_,I.free,I.freeC,λp hp=>?_,tracked ⟨oc,hoc,I.freeC x c l⟩ f,by simpa using I.len⟩ ⟨c,f,.inr l⟩
  ·exact(f.2 b<|WV<|Qf (WE e)<|I.ok.cab x c T l).trans (I.base.keep b o e n U hx)
  ·obtain⟨sl,g⟩:=I.base.slot b o e n U hx;exact⟨sl,(f.2 b<|WV<|Qf (WE e)<|I.ok.cab x c T l).trans g⟩
  ·obtain⟨o',g⟩:=I.base.there b o e hx;exact⟨o',(f.2 b<|WV<|Qf (WE e)<|I.ok.cab x c T l).trans g⟩
  ·by_cases L:j=i
   ·subst L;rw[hi]at g;cases g;rw[List.getElem?_set_self J]at C;cases C
    exact⟨u,r,.inr ⟨.inl G,c,l,hc'⟩⟩
   ·rw[List.getElem?_set_ne (Ne.symm L)]at C;obtain⟨u',r',q⟩:=hl j y v' g C e3;refine⟨u',r',?_⟩;rcases q with q|⟨k,c',e,z'⟩
    ·exact .inl q
    ·refine .inr ⟨k,c',e,z'.sameBut f ?_⟩;rintro rfl;exact L (IZ hN g (I.ok.inj _ _ _ e l▸hi))
  ·by_cases hcc:c'=c
   ·subst hcc;exact⟨_,hc'⟩
   ·obtain⟨w2,z2⟩:=I.cell y c' e;exact⟨w2,z2.sameBut f hcc⟩
  ·obtain⟨e,n,ne,nf,d⟩:=I.pin p hp;refine⟨(f.2 p.1 ?_).trans e,n,ne,nf,d⟩;intro q;rw[q,hoc]at e;exact d w' (by rw[←(WB e)];exact Y)
def B8{i x v u Q}(I:Inv X pins σ H s)(n:X.N.Nodup)(g:X.N[i]?=some x)(hx:Loc X.env.scope x)(r:RelV v u)(h:∀f,Inv X pins (σ.set i<|some v) H f->Q () f)(l:autoParam (X.fn x=true\/X.env.scope.names.lookup x=some .local) au_2):wpAny M A (storeName X.env x u) Q E s:=
 Ra I n g hx r (λf o _=>h f o) l
def Inv.call' {ch} (I:Inv X pins σ H s) (l:f.os=s.os) (u:Un (frs X.stack) ch H H' s.heap f.heap) (g:HOk X.prog X.w H' f.heap) (n:AllBare f.gens)
  (h:∀b∈ch,(b∈X.ex\/X.s₀.heap.objs.size<=b)/\b≠X.env.locals/\(∀x c,X.env.cells.lookup x=some c->c≠b)/\∀p∈X.pn++pins,p.1≠b):Inv X pins σ H' f:=by
 obtain⟨h',v,y,o,r⟩:=f;subst l;exact I.call u g n h
end
abbrev XK:=Value->Yd->Hp->Prop
abbrev St:=List (Option V)
abbrev VK:=V->Hp->Prop
abbrev TE:=St->Hp->VK->Prop
abbrev TT:=St->Hp->(Bool->Hp->Prop)->Prop
abbrev TA:=St->Hp->(List V->Hp->Prop)->Prop
structure Ends where
 nx:St->Hp->Prop
 rt:VK
 bk:St->Hp->Prop:=λ_ _=>False
 ct:St->Hp->Prop:=λ_ _=>False
abbrev TS:=Ends->St->Hp->Prop
def EP(X:Cx)(pins:ZT)(g:St)(Q:VK)(u:Value)(h:Shared):Prop:=∃v f,Inv X pins g f h/\RelV v u/\Q v f
def TP(X:Cx)(pins:ZT)(g:St)(Q:Bool->Hp->Prop)(b:Bool)(h:Shared):Prop:=∃f,Inv X pins g f h/\Q b f
def AP(X:Cx)(pins:ZT)(h:St)(Q:List V->Hp->Prop)(us:ZY)(l:Shared):Prop:=∃f g,Inv X pins h g l/\Vals f us/\Q f g
def SP(X:Cx)(pins:ZT)(D:Ends)(f:Flow)(l:Shared):Prop:=
 match f with
 | .next=>∃g h,Inv X pins g h l/\D.nx g h
 | .brk=>∃g h,Inv X pins g h l/\D.bk g h
 | .cont=>∃g h,Inv X pins g h l/\D.ct g h
 | .ret u=>∃v g h,Inv X pins g h l/\RelV v u/\D.rt v h
def PE(X:Cx)(e:Expr)(t:TE):Prop:=
 ∀(pins:ZT) (s:Shared) (f:St) (H:Hp) (Q:VK),Inv X pins f H s->t f H Q->wpAny (model X.prog X.w) X.A (eval e X.env) (EP X pins f Q) X.xe s
def PT(X:Cx)(e:Expr)(t:TT):Prop:=
 ∀(pins:ZT) (s:Shared) (f:St) (H:Hp) (Q:Bool->Hp->Prop),Inv X pins f H s->t f H Q->wpAny (model X.prog X.w) X.A (isTrue e X.env<|eval e X.env) (TP X pins f Q) X.xe s
def PW(X:Cx)(e:Expr)(t:TT):Prop:=
 ∀(whole:Sem Value) (pins:ZT) (s:Shared) (f:St) (H:Hp) (Q:Bool->Hp->Prop),Inv X pins f H s->t f H Q->wpAny (model X.prog X.w) X.A (isTrue e X.env whole) (TP X pins f Q) X.xe s
def PW.pt (h:PW X e t):PT X e t:=h _
def PA(X:Cx)(es:Ya)(t:TA):Prop:=
 ∀(pos:Pos) (pins:ZT) (s:Shared) (f:St) (H:Hp) (Q:List V->Hp->Prop),Inv X pins f H s->t f H Q->wpAny (model X.prog X.w) X.A (spliced<|backTo pos<|starEach es X.env) (AP X pins f Q) X.xe s
def PS(X:Cx)(st:Stmt)(t:TS):Prop:=
 ∀(pins:ZT) (s:Shared) (f:St) (H:Hp) (D:Ends),Inv X pins f H s->t D f H->wpAny (model X.prog X.w) X.A (exec st X.env) (SP X pins D) X.xe s
def PSs(X:Cx)(st:Yb)(t:TS):Prop:=
 ∀(pins:ZT) (s:Shared) (f:St) (H:Hp) (D:Ends),Inv X pins f H s->t D f H->wpAny (model X.prog X.w) X.A (execs st X.env) (SP X pins D) X.xe s
def thn{M A E s}(h:wpAny M A t Q E s)(f:∀a s,Q a s->g a s):wpAny M A t g E s:=Qv h f λ_ _ x=>x
section
variable {X:Cx}
def bin{B z}(J:PE X a B)(G:PE X b z){pins}{s}{g:St}{H}{R:V->V->Hp->Prop}(I:Inv X pins g H s)(h:B g H λx r=>z g r λy o=>R x y o){α}{Q}{f:Value->Value->Sem α}(U:∀v u p x y o,Inv X pins g o p->RelV x v->RelV y u->R x y o->wpAny (model X.prog X.w) X.A (f v u) Q X.xe p) :
  wpAny (model X.prog X.w) X.A (eval a X.env) (λv n=>wpAny (model X.prog X.w) X.A (eval b X.env) (λu l=>wpAny (model X.prog X.w) X.A (f v u) Q X.xe l) X.xe n) X.xe s:=by
 refine thn (J pins s g H _ I h) λv C ⟨x,r,L,N,E⟩=>?_;refine thn (G pins C g r _ L E) λu p ⟨y,o,Y,M,T⟩=>?_
 grind
noncomputable def X6(i:Nat):TE:=λf H Q=>∃v,f[i]?=some (some v)/\Q v H
noncomputable def tC(v:V):TE:=λ_ H Q=>Q v H
def Zi5{pos}(E:X.N[i]?=some x)(z:Vis X.env.scope x)(o:autoParam ((x==("__debug__" : Str))=false) au_1)(p:autoParam ((x==("__classdict__" : Str))=false) au_1):PE X (.Name x pos) (X6 i):=by
 intro pins s y H Q I h;obtain⟨v,e,h⟩:=h;obtain⟨m,A,C⟩:=I.loc;obtain⟨u,r,l⟩:=C i x v E e z;have n:EP X pins y Q u s:=⟨v,H,I,r,h⟩;rcases l with⟨g,B⟩|⟨g,c,w,f⟩
 ·exact wpAny_Name (wpAny_loadName_local I.ok.kind g A B n) o
 ·rcases g with g|g
  ·exact wpAny_Name (wpAny_loadName_cell I.ok.kind g w f n) o
  ·exact wpAny_Name (wpAny_loadName_free I.ok.kind g w f n p) o
def UI:PE X (.Constant (.int i) j pos) (tC<|.int i):=λ_ _ _ H _ I h=>wpAny_Constant_int ⟨.int i,H,I.tok _,⟨_,rfl⟩,h⟩
def TX:PE X (.Constant (.bool b) j pos) (tC<|.bl b):=λ_ _ _ H _ I h=>Constant_bool ⟨.bl b,H,I,rfl,h⟩
def Tu:PE X (.Constant (.str x) j pos) (tC<|.str x):=λ_ _ _ H _ I h=>Calls.Constant_str ⟨.str x,H,I.tok _,⟨_,rfl⟩,h⟩
def Gl(X:Cx)(x:Str):Prop:=X.env.kindOf x=some .globalImplicit
def BF{pins}{s}{f:St}{H}{x}{u}{pos}{Q}(I:Inv X pins f H s)(l:Gl X x)(g:X.mg x=some u)(h:Q u s)(n:autoParam ((x==("__debug__" : Str))=false) au_1):wpAny (model X.prog X.w) X.A (eval (.Name x pos) X.env) Q E s:=
 Calls.Name_function_global I.ok.kind l (Calls.loadGlobal_global (by rw[I.ok.glob];exact I.mod.glob.keeps I.bk) g h) n
def N6{E}{pins}{s}{f:St}{H}{x}{u}{pos}{Q}(I:Inv X pins f H s)(o:Gl X x)(n:X.mg x=none)(g:bootBuiltins x=some u)(h:Q u s)(l:autoParam (x≠"__name__") au_1)(p:autoParam ((x==("__debug__" : Str))=false) au_1):wpAny (model X.prog X.w) X.A (eval (.Name x pos) X.env) Q E s:=by
 obtain⟨y,v,r⟩:=I.mod.blt;exact Calls.Name_function_global I.ok.kind o (Calls.loadGlobal_builtin (by rw[I.ok.glob];exact I.mod.glob.keeps I.bk) n (by rw[I.ok.blt];exact v.keeps I.bk) ((r x l).trans g) h) p
def Zg5{u pos}(g:Gl X x)(f:X.mg x=some u)(r:RelV v u)(l:autoParam ((x==("__debug__" : Str))=false) au_1):PE X (.Name x pos) (tC v):=
 λ_ _ _ H _ I h=>BF I g f ⟨v,H,I,r,h⟩ l
def PQ{u pos}(n:Gl X x)(l:X.mg x=none)(f:bootBuiltins x=some u)(r:RelV v u)(g:autoParam (x≠"__name__") au_1)(o:autoParam ((x==("__debug__" : Str))=false) au_1):PE X (.Name x pos) (tC v):=
 λ_ _ _ H _ I h=>N6 I n l f ⟨v,H,I,r,h⟩ g o
variable {a b:Expr}{ta tb:TE}{pos:Pos}
def PC(X:Cx)(l:CmpOp)(a b:Expr)(t:TE):Prop:=
 ∀(pins:ZT) (s:Shared) (h:St) (H:Hp) (Q:VK),Inv X pins h H s->t h H Q->
  wpAny (model X.prog X.w) X.A (eval a X.env) (λv g=>wpAny (model X.prog X.w) X.A (eval b X.env) (λu f=>wpAny (model X.prog X.w) X.A (compareOp l v u) (EP X pins h Q) X.xe f) X.xe g) X.xe s
def Zic(b:Expr){op}(h:op≠.In)(l:op≠.NotIn):behindInMarks op b=false:=by
 have g:(op==CmpOp.In)=false:=by grind
 have f:(op==CmpOp.NotIn)=false:=by grind
 cases b<;>simp[behindInMarks,g,f]
noncomputable def tB(t:TE):TT:=λf H Q=>t f H λx g=>∃c,x=.bl c/\Q c g
def Zfo(h:PC X g a b t)(f:behindInMarks g b=false:=by first|exact Zic _ (by decide) (by decide)|rfl):PT X (.Compare a [g] [b] pos) (tB t):=by
 intro pins s l H Q I hw;refine wpAny_isTrue_Compare1 (thn (h pins s l H _ I hw) λv A f=>thn f λu z p=>thn p ?_) f;rintro c y ⟨x,w,r,n,o⟩;obtain⟨d,rfl,q⟩:=o;cases n
 exact QW ⟨w,r,q⟩
variable {tA tB':TT}{rest:Ya}
noncomputable def EX(t u:TT):TT:=λf H Q=>t f H λc g=>if c=true then u f g Q else Q false g
noncomputable def tOr(t u:TT):TT:=λf H Q=>t f H λc g=>if c=true then Q true g else u f g Q
noncomputable def BZ(t:TT):TT:=λf H Q=>t f H λc g=>Q (!c) g
def Ze4(g:PT X a tA):PW X (.BoolOp .And [a] pos) tA:=by
 intro l pins s f H Q I h;refine isTrue_and (thn (g pins s f H Q I h) λc n e=>?_);cases c with
 |true=>exact isTrue_and_nil e
 |false=>exact e
def Zjp(g:PT X a tA):PW X (.BoolOp .Or [a] pos) tA:=by
 intro l pins s f H Q I h;refine isTrue_or (thn (g pins s f H Q I h) λc n e=>?_);cases c with
 |false=>exact isTrue_or_nil e
 |true=>exact e
def RM(p:PT X a tA)(o:PW X (.BoolOp .And (b::rest) pos) tB'):PW X (.BoolOp .And (a::b::rest) pos) (EX tA tB'):=by
 intro g pins s f H Q I h;refine isTrue_and (thn (p pins s f H _ I h) λc l ⟨u,r,n⟩=>?_);cases c with
 |true=>exact o g pins l f u Q r n
 |false=>trivial
def Zmo(p:PT X a tA)(o:PW X (.BoolOp .Or (b::rest) pos) tB'):PW X (.BoolOp .Or (a::b::rest) pos) (tOr tA tB'):=by
 intro g pins s f H Q I h;refine isTrue_or (thn (p pins s f H _ I h) λc l ⟨u,r,n⟩=>?_);cases c with
 |true=>trivial
 |false=>exact o g pins l f u Q r n
def A4(g:PT X a tA):PT X (.UnaryOp .Not a pos) (BZ tA):=by
 intro pins s f H Q I h;exact isTrue_not (g pins s f H (λc l=>Q (!c) l) I h)
noncomputable def Gy(ta tb:TE):TE:=λf H Q=>ta f H λx g=>∃c,x=.bl c/\if c=true then tb f g Q else Q (.bl false) g
noncomputable def DR(ta:TE):TE:=λf H Q=>ta f H λx g=>∃c,x=.bl c/\Q (.bl (!c)) g
def Si{t}(h:PE X a t):PE X (.BoolOp f [a] pos) t:=by trivial
def Ss(u:PE X a ta)(r:PE X (.BoolOp .And (b::rest) pos) tb):PE X (.BoolOp .And (a::b::rest) pos) (Gy ta tb):=by
 intro pins s g H Q I h;refine BoolOp_and (thn (u pins s g H _ I h) ?_);rintro v o ⟨x,n,l,p,f⟩;obtain⟨c,rfl,f⟩:=f;cases p
 refine QW ?_;cases c with
 |true=>exact r pins o g n Q l f
 |false=>exact⟨.bl false,n,l,rfl,f⟩
def GR(n:PE X a ta):PE X (.UnaryOp .Not a pos) (DR ta):=by
 intro pins s g H Q I h;refine UnaryOp_ (thn (n pins s g H _ I h) ?_);rintro v r ⟨x,p,o,l,f⟩;obtain⟨c,rfl,f⟩:=f;cases l
 exact not_of (QW ⟨.bl (!c),p,o,rfl,f⟩)
end
def SqL(K:ZQ)(H:Hp)(a:Addr)(xs:List V):Prop:=
 Rd H a (.lst xs)\/
  ∃(o:Obj) (f:Array Value) (n:Nat),K.lookup a=some o/\o.cls=.type "list"/\o.dict=none/\o.data=.seq f n/\f.size<=sizeLine/\Vals xs f.toList
def SqT(K:ZQ)(H:Hp)(a:Addr)(xs:List V):Prop:=
 Rd H a (.tup xs)\/
  ∃(o:Obj) (f:Array Value) (n:Nat),K.lookup a=some o/\o.cls=.type "tuple"/\o.data=.seq f n/\f.size<=sizeLine/\Vals xs f.toList
noncomputable def Zmb:Value->Option V
 | .none=>some .non
 | .bool b=>some (.bl b)
 | .int i _=>some (.int i)
 | .str x _=>some (.str x)
 | .bytes b _=>some (.byt b)
 | .float b _=>some (.flt b)
 | .ref a=>some (.ref a)
 | .type n=>some (.ty n)
 |_=>none
def RelV.abs (r:RelV x u):Zmb u=some x:=by
 cases x with
 |non|bl _|ref _|ty _=>cases r;rfl
 |_=>obtain⟨t,rfl⟩:=r;rfl
def RelV.inj {u} (r:RelV x u) (q:RelV y u):x=y:=WB (r.abs.symm.trans q.abs)
def Vals.inj:∀{xs ys}{us:ZY},Vals xs us->Vals ys us->xs=ys:=by
 intro o
 induction o with
 |nil=>
  intro _ _ h g;cases h
  cases g
  rfl
 |cons _ _ n=>
  intro _ _ h g;cases h with
  |cons h r=>
   cases g with
   |cons l f=>rw[h.inj l,n r f]
section
variable {X:Cx}{pins:ZT}{σ:St}{H:Hp}{s:Shared}{a:Addr}{xs ys:List V}
def SqL.of {K} (h:H a=some (.lst xs)):SqL K H a xs:=.inl (.inl h)
def SqT.of {K} (h:H a=some (.tup xs)):SqT K H a xs:=.inl (.inl h)
def Inv.list (I:Inv X pins σ H s) (h:SqL X.K H a xs):∃f,Vals xs f/\PlainL s.heap a f.toArray/\xs.length<=sizeLine:=by
 rcases h with h|⟨o,f,n,l,u,p,g,v,r⟩
 ·obtain⟨z,f,n,r,e⟩:=h.ok I.hok;exact⟨f,r,⟨_,n,e,rfl,rfl,rfl⟩,z⟩
 ·refine⟨f.toList,r,⟨o,n,I.kIn a o l,u,p,by simpa using g⟩,?_⟩;have e:=r.length
  grind
def Inv.tuple (I:Inv X pins σ H s) (h:SqT X.K H a xs):∃f,Vals xs f/\IsTup s.heap a f.toArray/\xs.length<=sizeLine:=by
 rcases h with h|⟨o,f,n,l,u,g,v,r⟩
 ·obtain⟨z,f,r,p⟩:=h.ok I.hok
  grind
 ·refine⟨f.toList,r,⟨o,I.kIn a o l,u,n,by simpa using g⟩,?_⟩;have e:=r.length
  grind
def Inv.list_inj (I:Inv X pins σ H s) (h:SqL X.K H a xs) (p:SqL X.K H a ys):xs=ys:=by
 obtain⟨g,r,⟨o,n,e,_,_,d⟩,_⟩:=I.list h;obtain⟨f,l,⟨u,v,w,_,_,x⟩,_⟩:=I.list p
 have:g=f:=by grind
 subst this;exact r.inj l
def Inv.tuple_inj (I:Inv X pins σ H s) (h:SqT X.K H a xs) (p:SqT X.K H a ys):xs=ys:=by
 obtain⟨g,r,⟨o,e,_,n,d⟩,_⟩:=I.tuple h;obtain⟨f,l,⟨u,w,_,v,x⟩,_⟩:=I.tuple p
 have:g=f:=by grind
 subst this;exact r.inj l
end
noncomputable abbrev Cx.wish (X:Cx) (E:ZV):Cx:={X with xe:=E}
noncomputable abbrev Cx.nox (X:Cx):Cx:=X.wish λ_ _=>False
def Cx.Ok.wish {X:Cx} (ok:X.Ok) (E:ZV):(X.wish E).Ok:=
 ⟨ok.mod,ok.kind,ok.glob,ok.blt,ok.above,ok.inj,ok.has,ok.cab,ok.hd,ok.frames,ok.stk,ok.exf,ok.bs,ok.bsz,ok.noex,ok.exfs,ok.funs,ok.frf⟩
def Cx.Ok.unwish {X:Cx}{E} (ok:(X.wish E).Ok):X.Ok:=
 ⟨ok.mod,ok.kind,ok.glob,ok.blt,ok.above,ok.inj,ok.has,ok.cab,ok.hd,ok.frames,ok.stk,ok.exf,ok.bs,ok.bsz,ok.noex,ok.exfs,ok.funs,ok.frf⟩
section
variable {X:Cx}{pins:ZT}{σ:St}{H:Hp}{s:Shared}{E:ZV}
def Inv.wish (I:Inv X pins σ H s) (E:ZV):Inv (X.wish E) pins σ H s:=⟨I.ok.wish E,I.os,I.bare,I.base,I.loc,I.cell,I.free,I.freeC,I.pin,I.hok,I.len⟩
def Inv.unwish (I:Inv (X.wish E) pins σ H s):Inv X pins σ H s:=⟨I.ok.unwish,I.os,I.bare,I.base,I.loc,I.cell,I.free,I.freeC,I.pin,I.hok,I.len⟩
def SP.unwish (h:SP (X.wish E) pins D f n):SP X pins D f n:=by
 cases f with
 |ret u=>obtain⟨v,g,l,I,r,q⟩:=h;exact⟨v,g,l,I.unwish,r,q⟩
 |_=>obtain⟨g,l,I,q⟩:=h;exact⟨g,l,I.unwish,q⟩
def PSs.nox {st t} (h:PSs X.nox st t):PSs X st t:=λpins s σ H D I hw=>
 Qv (h pins s σ H D (I.wish _) hw) (λ_ _ q=>q.unwish) λ_ _ z=>False.elim z
end
section
variable {X:Cx}{st:Stmt}{rest:Yb}{t u:TS}{e:Expr}{te:TE}{pos:Pos}
noncomputable def DZ:TS:=λD f H=>D.nx f H
noncomputable def LA(t u:TS):TS:=λD f H=>t {D with nx:=u D} f H
def D2:PSs X [] DZ:=λ_ _ f H _ I h=>Jb ⟨f,H,I,h⟩
def Zeq(p:PS X st t)(o:PSs X rest u):PSs X (st::rest) (LA t u):=by
 intro pins s l H D I h;refine wpAny_execs_cons (thn (p pins s l H {D with nx:=u D} I h) λf n q=>?_)
 cases f with
 |next=>
  obtain⟨g,v,r,q⟩:=q;exact o pins n g v D r q
 |_=>exact q
def SY(l:PS X st t):PSs X [st] t:=by
 intro pins s g H D I h;refine wpAny_execs_cons (thn (l pins s g H D I h) λf n q=>?_);cases f with
 |next=>exact Jb q
 |_=>lia
def Inv.quiet {f:St}{H}{s} (I:Inv X pins f H s):interactive X.env=false:=by simp[interactive,I.ok.kind]
noncomputable def Sd(te:TE):TS:=λD f H=>te f H λ_ g=>D.nx f g
def Kv(l:PE X e te)(hs:autoParam (swapsWith e none pos.line X.env=pure false) au_0):PS X (.Expr e pos) (Sd te):=by
 intro pins s f H D I h;exact wpAny_Expr_any (thn (l pins s f H _ I h) λv p ⟨x,o,n,r,g⟩=>⟨f,o,n,g⟩) I.quiet hs
noncomputable def Ng(te:TE):TS:=λD f H=>te f H D.rt
def X4(n:PE X e te):PS X (.Return (some e) pos) (Ng te):=by
 intro pins s f H D I h;exact wpAny_Return_some (thn (n pins s f H _ I h) λv r ⟨x,p,o,g,l⟩=>⟨x,f,p,o,g,l⟩)
noncomputable def Ay(c:TT)(t u:TS):TS:=λD f H=>c f H λb g=>if b=true then t D f g else u D f g
def Az{tc}(p:PT X c tc)(v:PSs X a t)(r:PSs X b u):PS X (.If c a b pos) (Ay tc t u):=by
 intro pins s f H D I h;refine wpAny_If (thn (p pins s f H _ I h) ?_);rintro d g ⟨o,n,l⟩;cases d with
 |true=>exact v pins g f o D n l
 |false=>exact r pins g f o D n l
noncomputable def Iy:TS:=λ_ _ _=>False
def Zio:PS X st Iy:=λ_ _ _ _ _ _ h=>h.elim
end
abbrev TG:=V->St->Hp->(St->Hp->Prop)->Prop
abbrev TGs:=List V->St->Hp->(St->Hp->Prop)->Prop
def PG(X:Cx)(target:Expr)(t:TG):Prop:=
 ∀(pins:ZT) (s:Shared) (g:St) (H:Hp) (v:V) (u:Value) (Q:St->Hp->Prop),Inv X pins g H s->RelV v u->t v g H Q->
  wpAny (model X.prog X.w) X.A (assign target X.env u) (λ_ l=>∃f h,Inv X pins f h l/\Q f h) X.xe s
def PGs(X:Cx)(o:Ya)(t:TGs):Prop:=
 ∀(pins:ZT) (s:Shared) (g:St) (H:Hp) (h:List V) (l:ZY) (Q:St->Hp->Prop),Inv X pins g H s->Vals h l->t h g H Q->
  wpAny (model X.prog X.w) X.A (assignInOrder ((assignEach o X.env).map (·.2)) l) (λ_ p=>∃f n,Inv X pins f n p/\Q f n) X.xe s
abbrev Eu:=V->V->V->Hp->(Hp->Prop)->Prop
def E2(X:Cx)(t:Eu):Prop:=
 ∀(pins:ZT) (s:Shared) (f:St) (H:Hp) (o i v:V) (g h u:Value) (Q:Hp->Prop),Inv X pins f H s->RelV o g->RelV i h->RelV v u->t o i v H Q->
  wpAny (model X.prog X.w) X.A (setItem g h u) (λ_ n=>∃l,Inv X pins f l n/\Q l) X.xe s
abbrev TIp:=V->V->Hp->VK->Prop
def PIp(X:Cx)(g:Operator)(t:TIp):Prop:=
 ∀(pins:ZT) (s:Shared) (f:St) (H:Hp) (x y:V) (v u:Value) (Q:VK),Inv X pins f H s->RelV x v->RelV y u->t x y H Q->
  wpAny (model X.prog X.w) X.A (inplaceOp g v u) (EP X pins f Q) X.xe s
section
variable {X:Cx}{pos:Pos}
noncomputable def Nn(i:Nat):TG:=λv f H Q=>Q (f.set i<|some v) H
def CY(l:X.N.Nodup)(f:X.N[i]?=some x)(hx:Loc X.env.scope x)(g:autoParam (X.fn x=true\/X.env.scope.names.lookup x=some .local) au_2):PG X (.Name x pos) (Nn i):=by
 intro pins s o H v u Q I r h;exact wpAny_assign_Name (B8 I l f hx r (λp n=>⟨_,H,n,h⟩) g)
noncomputable def DC:TGs:=λg f H Q=>g=[]/\Q f H
noncomputable def Hd(t:TG)(u:TGs):TGs:=λh g H Q=>∃v r,h=v::r/\t v g H λf l=>u r f l Q
def SL:PGs X [] DC:=by
 intro pins s f H g l Q I r h;obtain⟨e,h⟩:=h;exact assignInOrder_nil ⟨f,H,I,h⟩
def TC{t u}(w:PG X e t)(p:PGs X es u)(hs:autoParam ((assignEach (e::es) X.env).map (·.2)=assign e X.env::(assignEach es X.env).map (·.2)) au_0):PGs X (e::es) (Hd t u):=by
 intro pins s g H A C Q I r h;obtain⟨v,B,x,h⟩:=h;subst x;cases r with
 |cons r n=>
  rw[hs];refine assignInOrder_cons (thn (w pins s g H _ _ _ I r h) ?_);rintro _ l ⟨f,z,y,o⟩;exact p pins l f z _ _ Q y n o
noncomputable def Cy(K:ZQ)(n:Nat)(t:TGs):TG:=λv f H Q=>∃a xs,v=.ref a/\SqT K H a xs/\xs.length=n/\t xs f H Q
def Zdd{k t n}(z:X.calm=true)(h:PGs X es t)(x:autoParam ((assignEach es X.env).length=n) au_0)(f:autoParam ((assignEach es X.env).findIdx? (·.1)=none) au_0):PG X (.Tuple es k pos) (Cy X.K n t):=by
 intro pins s g H v u Q I r hw;obtain⟨a,xs,B,hq,y,hw⟩:=hw;subst B;cases r
 obtain⟨p,l,w,E⟩:=I.tuple hq;refine assign_Tuple_tuple (I.ok.hd z) w (by simp[x,←y,l.length]) f λA hx=>?_;have C:Inv X pins g H {s with heap:=A}:=I.kept λb o e=>hx b o (WV<|WE e) e
 exact h pins _ g H xs _ Q C (by lia) hw
noncomputable def Ci(g ti:TE)(t:Eu):TG:=λv f H Q=>g f H λo n=>ti f n λi l=>t o i v l λh=>Q f h
def Ep{n ti t}(G:PE X o n)(J:PE X i ti)(hs:E2 X t)
  (L:autoParam (∀v,assign (.Subscript o i pos) X.env v=(do
   let f ←holding [v] (eval o X.env)
   let g ←holding [v,f] (eval i X.env)
   standAt pos
   holding [v,f,g] (setItem f g v)
   release [v,f,g] [])) au_3):PG X (.Subscript o i pos) (Ci n ti t):=by
 intro pins s l H v u Q I r h;rw[L];refine Wu (QM<|thn (G pins s l H _ I h) ?_);rintro f w ⟨x,H1,T,A,E⟩;refine Wu (QM<|thn (J pins w l H1 _ T E) ?_);rintro g p ⟨y,Y,N,z,C⟩;refine Wu (wpAny_standAt<|Wu<|QM<|thn (hs pins p l Y x y v f g u _ N A z r C) ?_);rintro _ s3 ⟨U,M,B⟩;exact wpAny_release ⟨l,U,M,B⟩
noncomputable def PV(te:TE)(g:TG):TS:=λD f H=>te f H λx h=>g x f h D.nx
def Ld{f e te g}(u:PE X e te)(r:PG X f g)(hs:autoParam (swapsWithSole [f] e pos.line X.env=pure false) au_0)(hw:autoParam (swappedStores [f] e X.env=pure none) au_0)(w:autoParam ((assignEach [f] X.env).map (·.2)=[assign f X.env]) au_0):PS X (.Assign [f] e pos) (PV te g):=by
 intro pins s l H D I h;refine wpAny_Assign_stores (thn (u pins s l H _ I h) ?_) hs hw;rintro v n ⟨x,z,y,o,p⟩;rw[w];exact thn (r pins n l z x v _ y o p) λ_ A q=>q
def Zaf(u:X.N.Nodup)(o:X.N[i]?=some x)(hx:Loc X.env.scope x)(r:PE X e te)(hs:autoParam (swapsWith e (some<|.Name x f) pos.line X.env=pure false) au_0)(p:autoParam (X.fn x=true\/X.env.scope.names.lookup x=some .local) au_2) :
  PS X (.Assign [.Name x f] e pos) (PV te<|Nn i):=by
 intro pins s g H D I h;refine wpAny_Assign_Name (thn (r pins s g H _ I h) λv C ⟨y,A,z,l,n⟩=>?_) hs;exact B8 z u o hx l (λB w=>⟨_,A,w,n⟩) p
noncomputable def IU(i:Nat)(te:TE)(ti:TIp):TS:=λD f H=>∃x,f[i]?=some (some x)/\te f H λy h=>ti x y h λz g=>D.nx (f.set i<|some z) g
def Zc5(hN:X.N.Nodup)(G:X.N[i]?=some x)(hx:Loc X.env.scope x)(he:PE X e te)(Y:PIp X E ti)(hf:autoParam (X.fn x=true\/X.env.scope.names.lookup x=some .local) au_2) :
  PS X (.AugAssign (.Name x C) E e pos) (IU i te ti):=by
 intro pins s B H D I h;obtain⟨v,e1,h⟩:=h;obtain⟨m,hn,hl⟩:=I.loc;have p:Vis X.env.scope x:=by rcases hx with k|k;exact .inl k;exact .inr (.inl k)
 obtain⟨u,r,l⟩:=hl i x v G e1 p;refine wpAny_AugAssign_Name ?_
 have J:wpAny (model X.prog X.w) X.A (eval e X.env) (λw o=>wpAny (model X.prog X.w) X.A (inplaceOp E u w) (λr n=>wpAny (model X.prog X.w) X.A (storeName X.env x r) (λ_=>SP X pins D .next) X.xe n) X.xe o) X.xe s:=by
  refine thn (he pins s B H _ I h) λw L ⟨y,H1,I1,Q,U⟩=>?_;refine thn (Y pins L B H1 v y u w _ I1 r Q U) λz s2 ⟨zv,H2,I2,M,T⟩=>?_;exact B8 I2 hN G hx M (λs3 I3=>⟨_,H2,I3,T⟩) hf
 rcases l with⟨f,hm⟩|⟨f,c,hc,g⟩
 ·exact wpAny_loadName_local I.ok.kind f hn hm J
 ·rcases f with f|f
  ·exact wpAny_loadName_cell I.ok.kind f hc g J
  ·rcases hx with k|k
   ·have:X.env.scope.names.lookup x=some .free:=f
    grind
   ·have:X.env.scope.names.lookup x=some .free:=f
    rw[k]at this;cases this
noncomputable def ipI(f:Int->Int->Int):TIp:=λx y H Q=>∃i j,x=.int i/\y=.int j/\Q (.int<|f i j) H
def Mb:PIp X .Add (ipI λi j=>i+j):=by
 intro pins s o H x y v u Q I g f h;obtain⟨i,j,n,l,q⟩:=h;subst n;subst l;obtain⟨t,rfl⟩:=g;obtain⟨p,rfl⟩:=f;exact iadd_int ⟨.int _,H,I.tok _,⟨_,rfl⟩,q⟩
noncomputable def Gj(c:TT)(o:TS):TS:=λD f H=>∃W:Nat->St->Hp->Prop,(∃m,W m f H)/\∀m f H,W m f H->
 c f H λb l=>if b=true then ∃N:St->Hp->Prop,(∀g n,N g n->∃h,h<m/\W h g n)/\o {D with nx:=N,ct:=N,bk:=D.nx} f l else D.nx f l
def Zg2{tc p}(u:PassesOwn (model X.prog X.w) X.A X.env X.xe)(U:PT X c tc)(Y:PSs X body p):PS X (.While c body [] pos) (Gj tc p):=by
 intro pins s E H D I h;obtain⟨W,⟨T,J⟩,turn⟩:=h;refine wpAny_While (codeAny_whileLoop (λn Q=>∃l B,Inv X pins l B Q/\W n l B) ?_ T ⟨E,H,I,J⟩);rintro n M ⟨g,z,I1,G⟩;refine QT u (thn (U pins M g z _ I1<|turn n g z G) λb L ⟨y,x,o⟩=>?_);cases b with
 |true=>
  obtain⟨N,hN,o⟩:=o;refine QT u (thn (Y pins L g y _ x o) λf s3 r=>?_);cases f with
  |brk|ret v=>exact r
  |_=>
   obtain⟨C,H3,I3,n3⟩:=r
   grind
 |false=>
  exact Jb ⟨g,y,x,o⟩
end
structure It where
 go:Nat->Hp->Prop
 yld:Nat->Hp->V->Hp->Prop
 stop:Nat->Hp->Prop
def PD(X:Cx)(pins:ZT)(H:Hp)(b:Addr):Prop:=
 H b=none/\b≠X.env.locals/\b∉X.fs/\(b∈X.ex\/X.s₀.heap.objs.size<=b)/\(∀x c,X.env.cells.lookup x=some c->c≠b)/\∀p∈X.pn++pins,p.1≠b
def Inv.fpOk {g:St}{H H'}{s}{b:Addr} (I:Inv X pins g H s) (f:s.heap.objs.size<=b) (l:H' b=none):PD X pins H' b:=by
 refine⟨l,Jx (Qf I.lt f),I.nofs f,.inr (W9 I.sz f),λx c e z=>?_,λp h z=>?_⟩
 ·obtain⟨v,q⟩:=I.cell x c e;exact absurd (Qf q.lt<|by grind) (QA _)
 ·exact absurd (Qf (WE (I.pin p h).1)<|by grind) (QA _)
structure Turn (P:Program) (w:World) (K:ZQ) (tg:Expr) (J:It) (fp:List Addr) (it:Addr) (tn:Nat->Heap->Prop):Prop where
 mem:it∈fp
 obj:∀i h,tn i h->∀b∈fp,∃o,h.get? b=some o/\∀v,o.data≠.cell v
 keep:∀i h h',tn i h->(∀b∈fp,∀o,h.get? b=some o->h'.get? b=some o)->tn i h'
 item:∀(X:Cx),X.prog=P->X.w=w->X.K=K->X.calm=true->∀(i:Nat) (pins:ZT) (s:Shared) (σ:St) (H:Hp) (E:ZV),Inv X pins σ H s->(∀b∈fp,PD X pins H b)->tn i s.heap->J.go i H->
  wpAny (model P w) X.A (pyNext<|.ref it) (λr s1=>∃u,r=some u/\
   wpAny (model P w) X.A (letOwnedTupleGo tg (.ref it) u) (λ_ s2=>∃x H',Inv X pins σ H' s2/\RelV x u/\J.yld i H x H'/\tn (i+1) s2.heap/\∀b∈fp,H' b=none) E s1) E s
 done:∀(X:Cx),X.prog=P->X.w=w->X.K=K->X.calm=true->∀(i:Nat) (pins:ZT) (s:Shared) (σ:St) (H:Hp) (E:ZV),Inv X pins σ H s->(∀b∈fp,PD X pins H b)->tn i s.heap->J.stop i H->
  wpAny (model P w) X.A (pyNext<|.ref it) (λr s1=>r=none/\Inv X pins σ H s1) E s
 self:∀(A:Around) (i:Nat) (s:Shared) (Q:ZV) (E:ZV),tn i s.heap->Q (.ref it) s->wpAny (model P w) A (pyIter<|.ref it) Q E s
abbrev TI:=St->Hp->(It->Hp->Prop)->Prop
def PIE(X:Cx)(pins:ZT)(o:St)(p:Expr)(R:It->Hp->Prop)(f:Value)(h:Shared):Prop:=
 ∃(l:Addr) (n:List Addr) (tn:Nat->Heap->Prop) (J:It) (g:Hp),f=.ref l/\Inv X pins o g h/\Turn X.prog X.w X.K p J n l tn/\tn 0 h.heap/\(∀b∈n,PD X pins g b)/\R J g
def PI(X:Cx)(h iter:Expr)(g:TI):Prop:=
 ∀(pins:ZT) (s:Shared) (f:St) (H:Hp) (R:It->Hp->Prop),Inv X pins f H s->g f H R->
  wpAny (model X.prog X.w) X.A (eval iter X.env) (λv l=>wpAny (model X.prog X.w) X.A (pyIter v) (PIE X pins f h R) X.xe l) X.xe s
def Dq {s g h u o n vs Q} (l : s.heap.get? h = some o) (r : o.cls = .type n) (p : o.data = .fields vs)
    (v : ["enumerate", "zip", "dict_itemiterator", "dict_reverseitemiterator", "odict_iterator", "itertools.zip_longest", "itertools.pairwise"].contains n = false) (f : Q () s) : wpAny M A (letOwnedTupleGo g (.ref h) u) Q E s := by
  cases g <;> first
    | exact W1 f
    | (cases u <;> first
        | exact W1 f
        | (refine Wu (wpAny_load l ?_)
           rw [r, p]
           show wpAny M A (if (["enumerate", "zip", "dict_itemiterator", "dict_reverseitemiterator", "odict_iterator", "itertools.zip_longest", "itertools.pairwise"].contains n && vs[0]? == some (rawInt _)) = true then _ else _) Q E s
           rw [W2 (by grind)]
           exact W1 f))
noncomputable def Itl(K:ZQ)(a:Addr):It:=
 ⟨λi H=>∃xs x,SqL K H a xs/\xs[i]?=some x,λi H x f=>f=H/\∀xs,SqL K H a xs->xs[i]?=some x,λi H=>∃xs,SqL K H a xs/\xs.length<=i⟩
noncomputable def Itt(K:ZQ)(a:Addr):It:=
 ⟨λi H=>∃xs x,SqT K H a xs/\xs[i]?=some x,λi H x f=>f=H/\∀xs,SqT K H a xs->xs[i]?=some x,λi H=>∃xs,SqT K H a xs/\xs.length<=i⟩
noncomputable def Itr(lo:Int)(n:Nat):It:=⟨λi _=>i<n,λi H x f=>f=H/\x=.int (lo+i),λi _=>n<=i⟩
def Zif{K tg}(a it:Addr):Turn P w K tg (Itl K a) [it] it (λi h=>h.IsListIter it a i) where
 mem:=by simp
 obj:=λi h st b hb=>by
  have e:b=it:=by simpa using hb
  subst e;obtain⟨o,e,c,d⟩:=st;exact⟨o,e,λv z=>by rw[d]at z;cases z⟩
 keep:=λi h h' st k=>st.at λo e=>k it (by simp) o e
 item:=by
  intro X hP hw hK hc i pins s σ H E I hf st hg;subst hP hw hK;obtain⟨xs,x,hq,hx⟩:=hg;obtain⟨its,rv,p,hz⟩:=I.list hq;obtain⟨u,hu,ru⟩:=rv.get hx;obtain⟨f0,f1,f2,f3,f4,f5⟩:=hf it (by simp);refine wpAny_pyNext_list_item st p.isList (by simpa using hu) λh' st' sb=>?_;have I1:Inv X pins σ H {s with heap:=h'}:=I.turned (λb o hb e=>(sb.2 b hb).trans e) f0 f1 f3 f4 f5
  obtain⟨o,e,c,d⟩:=id st';exact⟨u,rfl,Dq e c d (by decide) ⟨x,H,I1,ru,⟨rfl,λys hy=>by rw[I.list_inj hy hq];exact hx⟩,st',λb hb=>(hf b hb).1⟩⟩
 done:=by
  intro X hP hw hK hc i pins s σ H E I hf st hg;subst hP hw hK;obtain⟨xs,hq,hx⟩:=hg;obtain⟨its,rv,p,hz⟩:=I.list hq;obtain⟨f0,f1,f2,f3,f4,f5⟩:=hf it (by simp);have hl:=rv.length;exact wpAny_pyNext_list_end (I.ok.hd hc) st p.isList (by simp;lia) λh' eb=>⟨rfl,I.turned (λb o hb e=>eb b o hb e) f0 f1 f3 f4 f5⟩
 self:=λ_ _ _ _ _ st h=>wpAny_pyIter_listiter st h
def Zgd{K tg}(a it:Addr):Turn P w K tg (Itt K a) [it] it (λi h=>h.IsTupleIter it a i) where
 mem:=by simp
 obj:=λi h st b hb=>by
  have e:b=it:=by simpa using hb
  subst e;obtain⟨o,e,c,d⟩:=st;exact⟨o,e,λv z=>by rw[d]at z;cases z⟩
 keep:=λi h h' st k=>st.at λo e=>k it (by simp) o e
 item:=by
  intro X hP hw hK hc i pins s σ H E I hf st hg;subst hP hw hK;obtain⟨xs,x,hq,hx⟩:=hg;obtain⟨its,rv,p,hz⟩:=I.tuple hq;obtain⟨u,hu,ru⟩:=rv.get hx;obtain⟨f0,f1,f2,f3,f4,f5⟩:=hf it (by simp);refine wpAny_pyNext_tuple_item st p (by simpa using hu) λh' st' sb=>?_;have I1:Inv X pins σ H {s with heap:=h'}:=I.turned (λb o hb e=>(sb.2 b hb).trans e) f0 f1 f3 f4 f5
  obtain⟨o,e,c,d⟩:=id st';exact⟨u,rfl,Dq e c d (by decide) ⟨x,H,I1,ru,⟨rfl,λys hy=>by rw[I.tuple_inj hy hq];exact hx⟩,st',λb hb=>(hf b hb).1⟩⟩
 done:=by
  intro X hP hw hK hc i pins s σ H E I hf st hg;subst hP hw hK;obtain⟨xs,hq,hx⟩:=hg;obtain⟨its,rv,p,hz⟩:=I.tuple hq;obtain⟨f0,f1,f2,f3,f4,f5⟩:=hf it (by simp);have hl:=rv.length;exact wpAny_pyNext_tuple_end (I.ok.hd hc) st p (by simp;lia) λh' eb=>⟨rfl,I.turned (λb o hb e=>eb b o hb e) f0 f1 f3 f4 f5⟩
 self:=λ_ _ _ _ _ st h=>wpAny_pyIter_tupleiter st h
def Zju{K tg}(it:Addr)(lo:Int)(n:Nat):Turn P w K tg (Itr lo n) [it] it (λi h=>IsRangeIter h it (lo+(i:Nat)*1) ((n:Int)-(i:Nat)) 1) where
 mem:=by simp
 obj:=λi h st b hb=>by
  have e:b=it:=by simpa using hb
  subst e
  exact⟨_,st,λv z=>by
   cases z⟩
 keep:=λi h h' st k=>k it (by simp) _ st
 item:=by
  intro X hP hw hK hc i pins s σ H E I hf st hg;subst hP hw hK;obtain⟨f0,f1,f2,f3,f4,f5⟩:=hf it (by simp);refine(Walks.range (prog:=X.prog) (w:=X.w) (I.ok.hd hc) it lo 1 n).item i s _ _ hg st λv h' tk hv st' kk=>?_;obtain⟨t,rfl⟩:=hv;have I1:Inv X pins σ H {s with heap:=h',toks:=tk}:=I.turned (λb o hb e=>kk b o (by simpa using hb) e) f0 f1 f3 f4 f5
  refine⟨_,rfl,Dq st' rfl rfl (by decide) ⟨.int (lo+i),H,I1,⟨t,?_⟩,⟨rfl,rfl⟩,st',λb hb=>(hf b hb).1⟩⟩;rw[Int.mul_one]
 done:=by
  intro X hP hw hK hc i pins s σ H E I hf st hg;obtain⟨f0,f1,f2,f3,f4,f5⟩:=hf it (by simp);exact wpAny_pyNext_range_end (I.ok.hd hc) st (by have:n<=i:=hg;lia) λh' eb=>⟨rfl,I.turned (λb o hb e=>eb b o hb e) f0 f1 f3 f4 f5⟩
 self:=λ_ _ _ _ _ st h=>wpAny_pyIter_rangeiter st h
section
variable {X:Cx}{tg:Expr}
noncomputable def Ny(K:ZQ)(h:TE):TI:=λg H R=>h g H λx f=>∃a,x=.ref a/\(∃xs,SqL K f a xs)/\R (Itl K a) f
noncomputable def CQ(K:ZQ)(h:TE):TI:=λg H R=>h g H λx f=>∃a,x=.ref a/\(∃xs,SqT K f a xs)/\R (Itt K a) f
def LU(z:PE X l r):PI X tg l (Ny X.K r):=by
 intro pins s n H R I h;refine thn (z pins s n H _ I h) λv g ⟨x,A,f,u,w⟩=>?_;obtain⟨a,e,⟨xs,hq⟩,q⟩:=w;subst e;cases u
 obtain⟨y,B,p,C⟩:=f.list hq;refine wpAny_pyIter_list p.isList ?_;refine⟨g.heap.objs.size,[g.heap.objs.size],_,_,A,rfl,f.kept λb o e=>Wz _ e,Zif a _,⟨_,WD _ rfl,rfl,rfl⟩,λb E=>?_,q⟩;have e:b=g.heap.objs.size:=by grind
 subst e;exact f.fpOk (W5 _) (f.hok.fresh<|W5 _)
def MU(z:PE X l r):PI X tg l (CQ X.K r):=by
 intro pins s n H R I h;refine thn (z pins s n H _ I h) λv g ⟨x,A,f,u,w⟩=>?_;obtain⟨a,e,⟨xs,hq⟩,q⟩:=w;subst e;cases u
 obtain⟨y,B,p,C⟩:=f.tuple hq;refine wpAny_pyIter_tuple p ?_;refine⟨g.heap.objs.size,[g.heap.objs.size],_,_,A,rfl,f.kept λb o e=>Wz _ e,Zgd a _,⟨_,WD _ rfl,rfl,rfl⟩,λb E=>?_,q⟩;have e:b=g.heap.objs.size:=by grind
 subst e;exact f.fpOk (W5 _) (f.hok.fresh<|W5 _)
def Mi{g:St}{H}{s}{R}{E}{lo f}{t u v}{tk}(I:Inv X pins g H s)(x:-(2 ^ 62)<=lo)(r:lo<2 ^ 62)(p:-(2 ^ 62)<=f)(n:f<2 ^ 62)(q:R (Itr lo (f-lo).toNat) H):wpAny (model X.prog X.w) X.A (pyIter<|.ref s.heap.objs.size) (PIE X pins g tg R) E {s with heap:=s.heap.push {cls:=.type "range",data:=.fields #[.int lo t,.int f u,.int 1 v]},toks:=tk}:=by
 refine wpAny_pyIter_range (IsRange.new ..) (small_one x r p n) ?_;have h:Inv X pins g H {s with heap:=s.heap.push {cls:=.type "range",data:=.fields #[.int lo t,.int f u,.int 1 v]},toks:=tk}:=I.kept λb o e=>Wz _ e
 refine⟨(s.heap.push {cls:=.type "range",data:=.fields #[.int lo t,.int f u,.int 1 v]}).objs.size,[(s.heap.push {cls:=.type "range",data:=.fields #[.int lo t,.int f u,.int 1 v]}).objs.size],_,_,H,rfl,
  h.kept λb o e=>Wz _ e,Zju _ lo (f-lo).toNat,?_,λb l=>?_,q⟩
 ·have z:lo+((0:Nat):Int)*1=lo:=by simp
  have y:(((f-lo).toNat:Nat):Int)-((0:Nat):Int)=Builtin.Range.rangeSize lo f 1:=by rw[rangeSize_one];split<;>lia
  rw[z,y];exact WD _ rfl
 ·have e:b=(s.heap.push {cls:=.type "range",data:=.fields #[.int lo t,.int f u,.int 1 v]}).objs.size:=by simpa using l
  subst e;exact h.fpOk (W5 _) (h.hok.fresh<|W5 _)
noncomputable def M9(h:TA):TI:=λf H R=>h f H λg l=>∃j:Int,g=[.int j]/\-(2 ^ 62)<=j/\j<2 ^ 62/\R (Itr 0 j.toNat) l
noncomputable def Lv(h:TA):TI:=λf H R=>h f H λg l=>∃i j:Int,g=[.int i,.int j]/\(-(2 ^ 62)<=i/\i<2 ^ 62/\-(2 ^ 62)<=j/\j<2 ^ 62)/\R (Itr i (j-i).toNat) l
def Zm0(w:Gl X "range")(v:X.mg "range"=none)(x:PA X [a] l)(hs:autoParam (starEach [a] X.env=[(false,eval a X.env)]) au_0):PI X tg (.Call (.Name "range" p) [a] [] pos) (M9 l):=by
 intro pins s g H R I h;refine Call_ (N6 I w v boot_range<|V0 (thn (x pos pins s g H _ I h) λA B ⟨z,C,y,o,f⟩=>?_) hs rfl);obtain⟨j,e,f,u,q⟩:=f;subst e;cases o with
 |cons r n=>
  cases n
  obtain⟨t,rfl⟩:=r;exact call_range_1 (Mi y (by lia) (by lia) f u<|by grind)
def Zke{p pos}(A:Gl X "range")(z:X.mg "range"=none)(B:PA X [a,b] o)(hs:autoParam (starEach [a,b] X.env=[(false,eval a X.env),(false,eval b X.env)]) au_0)(l:autoParam (starEach [b] X.env=[(false,eval b X.env)]) au_0) :
  PI X tg (.Call (.Name "range" p) [a,b] [] pos) (Lv o):=by
 intro pins s n H R I h;refine Call_ (N6 I A z boot_range<|V0 (thn (B pos pins s n H _ I h) λG L ⟨E,M,C,u,g⟩=>?_) (by grind)<|by rw[l];rfl);obtain⟨i,j,e,⟨g,y,x,w⟩,q⟩:=g;subst e;cases u with
 |cons r f=>
  cases f with
  |cons v f=>
   cases f
   obtain⟨t,rfl⟩:=r;obtain⟨J,rfl⟩:=v;exact call_range_2 (Mi C g y x w q)
noncomputable def ML(p:TI)(g:TG)(r:TS):TS:=λD f H=>p f H λJ u=>∃W:Nat->Nat->St->Hp->Prop,(∃m,W 0 m f u)/\∀i m f H,W i m f H->
 (J.stop i H/\D.nx f H)\/(J.go i H/\∃N:St->Hp->Prop,(∀h l,N h l->∃o,o<m/\W (i+1) o h l)/\∀x l,J.yld i H x l->g x f l λn s=>r {D with nx:=N,ct:=N,bk:=D.nx} n s)
noncomputable def NH(f:List Addr)(h:Heap):ZT:=f.filterMap λb=>(h.get? b).map λo=>(b,o)
def SB{b o}(f:b∈g)(e:h.get? b=some o):(b,o)∈NH g h:=Jl.mpr ⟨b,f,by rw[e];rfl⟩
def Zjb(f:p∈NH g h):p.1∈g/\h.get? p.1=some p.2:=by
 obtain⟨b,l,e⟩:=Jl.mp f;cases q:h.get? b with
 |_=>grind
def Inv.pinned {f:St}{H}{s}{fp} (I:Inv X pins f H s) (h:∀b∈fp,PD X pins H b) (n:∀b∈fp,∃o,s.heap.get? b=some o/\∀v,o.data≠.cell v):Inv X (pins++NH fp s.heap) f H s:=
 I.pins_of λp g=>(WC.mp g).elim (λz=>I.pin p (WR _ z)) λz=>by
  obtain⟨l,e⟩:=Zjb z;obtain⟨f0,f1,r,_⟩:=h p.1 l
  grind
def Inv.unpinned {f:St}{H}{s} (I:Inv X (pins++h) f H s):Inv X pins f H s:=I.pins_of λp g=>I.pin p (WR _<|Qr _ g)
def MX{wi g tb pos}(Q:PassesOwn (model X.prog X.w) X.A X.env X.xe)(hc:X.calm=true)(hi:PI X tg iter wi)(hg:PG X tg g)(z:PSs X body tb)(hs:autoParam (∀x,foldedSetIterable iter X.env x=pure x) au_3):PS X (.For tg iter body [] pos) (ML wi g tb):=by
 intro pins s σ H D I h;refine wpAny_For (thn (hi pins s σ H _ I h) λv s1 h1=>thn h1 λitv s2 h2=>?_) hs;obtain⟨it,Y,tn,J,H2,e,I2,T,st2,f2,W,⟨m0,w0⟩,turn⟩:=h2;subst e;have stat:∀{C:Hp},(∀b∈Y,C b=none)->∀b∈Y,PD X pins C b:=λhn b z=>⟨hn b z,(f2 b z).2⟩;refine codeAny_forLoop_any (λn s'=>∃i y C,Inv X pins y C s'/\tn i s'.heap/\(∀b∈Y,C b=none)/\W i n y C) ?_ m0 ⟨0,σ,H2,I2,st2,λb z=>(f2 b z).1,w0⟩;rintro n s3 ⟨i,p,H3,I3,M,U,w3⟩;rcases turn i n p H3 w3 with⟨stop,qn⟩|⟨go,N,hN,step⟩
 ·refine QT Q (thn (T.done X rfl rfl rfl hc i pins s3 p H3 X.xe I3 (stat U) M stop) ?_);rintro r s4 ⟨hr,I4⟩;subst hr;exact Jb ⟨p,H3,I4,qn⟩
 ·refine QT Q (thn (T.item X rfl rfl rfl hc i pins s3 p H3 X.xe I3 (stat U) M go) ?_);rintro r s4 ⟨u,hr,h4⟩;subst hr;refine QT Q (thn h4 ?_);rintro _ s5 ⟨x,H5,I5,r5,y5,G,fr5⟩;refine QT Q (thn (hg _ s5 p H5 x u _ (I5.pinned (stat fr5)<|T.obj _ _ G) r5<|step x H5 y5) ?_);rintro _ s6 ⟨σ6,H6,I6,q6⟩;refine QT Q (thn (z _ s6 σ6 H6 _ I6 q6) λf s7 L=>?_)
  have again:∀{l:St} {B:Hp},Inv X (pins++NH Y s5.heap) l B s7->N l B->∃m,m<n/\∃i y C,Inv X pins y C s7/\tn i s7.heap/\(∀b∈Y,C b=none)/\W i m y C:=λ{l B} E n7=>by
   obtain⟨m',hm,w7⟩:=hN l B n7;refine⟨m',hm,i+1,l,B,E.unpinned,T.keep _ _ _ G λb z o e=>(E.pin (b,o)<|WR _<|WR _<|SB z e).1,λb z=>?_,w7⟩;obtain⟨o,e,d⟩:=T.obj _ _ G b z;exact(E.pin (b,o)<|WR _<|WR _<|SB z e).2.1
  cases f with
  |brk=>obtain⟨l,B,E,L⟩:=L;exact⟨l,B,E.unpinned,L⟩
  |ret v=>obtain⟨x7,l,B,E,r7,L⟩:=L;exact⟨x7,l,B,E.unpinned,r7,L⟩
  |_=>obtain⟨l,B,E,n7⟩:=L;exact again E n7
end
abbrev R2:=V->V->Hp->VK->Prop
def OpR(X:Cx)(f:Value->Value->Sem Value)(r:R2):Prop:=
 ∀(pins:ZT) (s:Shared) (g:St) (H:Hp) (x y:V) (v u:Value) (Q:VK),Inv X pins g H s->RelV x v->RelV y u->r x y H Q->
  wpAny (model X.prog X.w) X.A (f v u) (EP X pins g Q) X.xe s
def UnR(X:Cx)(f:Value->Sem Value)(r:V->Hp->VK->Prop):Prop:=
 ∀(pins:ZT) (s:Shared) (g:St) (H:Hp) (x:V) (v:Value) (Q:VK),Inv X pins g H s->RelV x v->r x H Q->
  wpAny (model X.prog X.w) X.A (f v) (EP X pins g Q) X.xe s
def X5(X:Cx)(f:Value)(r:List V->Hp->VK->Prop):Prop:=
 ∀(pins:ZT) (s:Shared) (g:St) (H:Hp) (xs:List V) (h:ZY) (Q:VK),Inv X pins g H s->Vals xs h->r xs H Q->
  wpAny (model X.prog X.w) X.A (call f h) (EP X pins g Q) X.xe s
def MZ(X:Cx)(r:V->Hp->(Bool->Hp->Prop)->Prop):Prop:=
 ∀(pins:ZT) (s:Shared) (f:St) (H:Hp) (x:V) (v:Value) (Q:Bool->Hp->Prop),Inv X pins f H s->RelV x v->r x H Q->
  wpAny (model X.prog X.w) X.A (truthy v) (TP X pins f Q) X.xe s
noncomputable def tOp(r:R2)(h g:TE):TE:=λf H Q=>h f H λx n=>g f n λy l=>r x y l Q
noncomputable def tUn(r:V->Hp->VK->Prop)(g:TE):TE:=λf H Q=>g f H λx h=>r x h Q
noncomputable def rI(C:Int->Int->Prop)(g:Int->Int->V):R2:=λx y H Q=>∃i j,x=.int i/\y=.int j/\C i j/\Q (g i j) H
noncomputable def rI0(g:Int->Int->V):R2:=λx y H Q=>∃i j,x=.int i/\y=.int j/\Q (g i j) H
def rU(g:Int->V):V->Hp->VK->Prop:=λx H Q=>∃i,x=.int i/\Q (g i) H
section
variable {X:Cx}{a b c:Expr}{ta tb tc:TE}{pos:Pos}
def AI(E:PE X a ta)(C:PE X b tb){pins}{s}{g:St}{H}{R:V->V->Hp->Prop}(I:Inv X pins g H s)(h:ta g H λx r=>tb g r λy o=>R x y o){Q}{f:Value->Value->Sem Value}(N:∀v u p x y o,Inv X pins g o p->RelV x v->RelV y u->R x y o->wpAny (model X.prog X.w) X.A (f v u) Q X.xe p) :
  wpAny (model X.prog X.w) X.A (eval a X.env) (λv n=>wpAny (model X.prog X.w) X.A (eval b X.env) (λu l=>wpAny (model X.prog X.w) X.A (f v u) Q X.xe l) X.xe n) X.xe s:=by
 refine thn (E pins s g H _ I h) λv z ⟨x,r,G,L,B⟩=>?_;refine thn (C pins z g r _ G B) λu p ⟨y,o,T,J,M⟩=>?_
 grind
def PK(p:OpR X (binaryOp o) r)(z:PE X a ta)(w:PE X b tb):PE X (.BinOp a o b pos) (tOp r ta tb):=by
 intro pins s f H Q I h;exact wpAny_BinOp (AI z w I h λv u g x y B A n l q=>p pins g f B x y v u Q A n l q)
def XZ(p:UnR X (unaryOp o) r)(u:PE X a ta):PE X (.UnaryOp o a pos) (tUn r ta):=by
 intro pins s f H Q I h;exact UnaryOp_ (thn (u pins s f H _ I h) λv g ⟨x,y,w,l,n⟩=>p pins g f y x v Q w l n)
def opI{C}{g:Int->Int->Int}(rule:∀i j t u s Q E,C i j->Q (.int (g i j) s.toks) {s with toks:=s.toks+1}->wpAny (model X.prog X.w) X.A (f (.int i t)<|.int j u) Q E s) :
  OpR X f (rI C λi j=>.int (g i j)):=by
 intro pins s r H x y v u Q I o n h;obtain⟨i,j,rfl,rfl,p,q⟩:=h;obtain⟨t,rfl⟩:=o;obtain⟨l,rfl⟩:=n;exact rule i j t l s _ _ p ⟨.int (g i j),H,I.tok _,⟨_,rfl⟩,q⟩
def Et{g:Int->Int->Int}(rule:∀i j t u s Q E,Q (.int (g i j) s.toks) {s with toks:=s.toks+1}->wpAny (model X.prog X.w) X.A (f (.int i t)<|.int j u) Q E s) :
  OpR X f (rI0 λi j=>.int (g i j)):=by
 intro pins s p H x y v u Q I o n h;obtain⟨i,j,rfl,rfl,q⟩:=h;obtain⟨t,rfl⟩:=o;obtain⟨l,rfl⟩:=n;exact rule i j t l s _ _ ⟨.int (g i j),H,I.tok _,⟨_,rfl⟩,q⟩
def Cs{g:Int->Int->Bool}(rule:∀i j t u s Q E,Q (.bool<|g i j) s->wpAny (model X.prog X.w) X.A (f (.int i t)<|.int j u) Q E s) :
  OpR X f (rI0 λi j=>.bl (g i j)):=by
 intro pins s p H x y v u Q I o n h;obtain⟨i,j,rfl,rfl,q⟩:=h;obtain⟨t,rfl⟩:=o;obtain⟨l,rfl⟩:=n;exact rule i j t l s _ _ ⟨.bl (g i j),H,I,rfl,q⟩
def Ap(i j:Int):Prop:=0<j/\j<1073741824
def F1(i j:Int):Prop:=0<=j/\j<=1000000/\i.natAbs<2 ^ 64
def CMul(i j:Int):Prop:=(-(2 ^ 64)<i/\i<2 ^ 64)\/(-(2 ^ 64)<j/\j<2 ^ 64)
def CMul.ok (h:CMul i j):IntMulOk i j:=by
 rcases h with⟨g,f⟩|⟨g,f⟩
 ·exact .of_left (intBits_le_64 g f)
 ·exact .of_right (intBits_le_64 g f)
def UT:OpR X (binaryOp .Add) (rI0 λi j=>.int (i+j)):=Et λ_ _ _ _ _ _ _ q=>add_int q
def XH:OpR X (binaryOp .Sub) (rI0 λi j=>.int (i-j)):=Et λ_ _ _ _ _ _ _ q=>sub_int q
def Tw:OpR X (binaryOp .Mult) (rI CMul λi j=>.int (i*j)):=opI λ_ _ _ _ _ _ _ f q=>mul_int q f.ok
def Xn:OpR X (binaryOp .FloorDiv) (rI Ap λi j=>.int (i / j)):=opI λi j _ _ _ _ _ f q=>by
 have h:=f.1;have g:=f.2;exact floordiv_int (by lia) (by rw[Int.fdiv_eq_ediv_of_nonneg i (by lia)];exact q) (.inl<|PyProof.noPylong_small<|by lia)
def UP:OpR X (binaryOp .Mod) (rI (λ_ j=>0<j) λi j=>.int (i % j)):=opI λi j _ _ _ _ _ f q=>by
 exact mod_int' (by lia) (by grind)
def Cv:OpR X (binaryOp .Pow) (rI F1 λi j=>.int (i ^ j.toNat)):=opI λ_ _ _ _ _ _ _ f q=>pow_int_small f.1 f.2.1 f.2.2 q
def unI{g:Int->Int}(rule:∀i t s Q E,Q (.int (g i) s.toks) {s with toks:=s.toks+1}->wpAny (model X.prog X.w) X.A (f<|.int i t) Q E s) :
  UnR X f (rU λi=>.int (g i)):=by
 intro pins s n H x v Q I l h;obtain⟨i,rfl,q⟩:=h;obtain⟨t,rfl⟩:=l;exact rule i t s _ _ ⟨.int (g i),H,I.tok _,⟨_,rfl⟩,q⟩
def XX:UnR X (unaryOp .USub) (rU λi=>.int (-i)):=unI λ_ _ _ _ _ q=>neg_int q
end
noncomputable def DT:V->V->Bool
 | .non,.non=>true | .non,.int _=>true | .int _,.non=>true | .non,.bl _=>true | .bl _,.non=>true | .non,.str _=>true | .str _,.non=>true
 | .int _,.int _=>true | .bl _,.bl _=>true | .str _,.str _=>true | .byt _,.byt _=>true
 | .int _,.str _=>true | .str _,.int _=>true | .bl _,.str _=>true | .str _,.bl _=>true
 |_,_=>false
noncomputable def rEq:R2:=λx y H Q=>DT x y=true/\Q (.bl<|decide (x=y)) H
noncomputable def rNe:R2:=λx y H Q=>DT x y=true/\Q (.bl (!decide (x=y))) H
def HL{i j:Int}:decide (V.int i=V.int j)=(i==j):=by
 rw[V4];simp
def Ha{i j:Bool}:decide (V.bl i=V.bl j)=(i==j):=by
 rw[V4];simp
def L3{i j:Str}:decide (V.str i=V.str j)=(i==j):=by
 rw[V4];simp
def LP{i j:Array UInt8}:decide (V.byt i=V.byt j)=(i.toList==j.toList):=by
 rw[V4];cases i
 cases j
 simp
section
variable {X:Cx}{a b c:Expr}{ta tb tc:TE}{pos:Pos}
def Xc{f:St}{H}{s}{Q}{k g}(I:Inv X pins f H s)(q:Q (.bl k) H)(e:k=g):EP X pins f Q (.bool g) s:=by
 subst e;exact⟨.bl k,H,I,rfl,q⟩
def op_eq:OpR X (compareOp .Eq) rEq:=by
 intro pins s o H x y v u Q I n f h;obtain⟨l,q⟩:=h;cases x with
 |non=>
  cases n
  cases y with
  |non=>cases f;exact PySem.EqNone.eq_none_none (Xc I q<|by simp)
  |bl j=>cases f;exact PySem.EqNone.eq_none_bool (Xc I q<|by simp)
  |int j=>obtain⟨g,rfl⟩:=f;exact PySem.EqNone.eq_none_int (Xc I q<|by simp)
  |str j=>obtain⟨g,rfl⟩:=f;exact PySem.EqNone.eq_none_str (Xc I q<|by simp)
  |_=>exact absurd l WN
 |bl i=>
  cases n
  cases y with
  |non=>cases f;exact PySem.EqNone.eq_bool_none (Xc I q<|by simp)
  |bl j=>cases f;exact eq_bool (Xc I q Ha)
  |str j=>obtain⟨g,rfl⟩:=f;exact PySem.EqMixed.eq_bool_str (Xc I q<|by simp)
  |_=>exact absurd l WN
 |int i=>
  obtain⟨t,rfl⟩:=n;cases y with
  |non=>cases f;exact PySem.EqNone.eq_int_none (Xc I q<|by simp)
  |int j=>obtain⟨g,rfl⟩:=f;exact eq_int (Xc I q HL)
  |str j=>obtain⟨g,rfl⟩:=f;exact PySem.EqMixed.eq_int_str (Xc I q<|by simp)
  |_=>exact absurd l WN
 |str i=>
  obtain⟨t,rfl⟩:=n;cases y with
  |non=>cases f;exact PySem.EqNone.eq_str_none (Xc I q<|by simp)
  |bl j=>cases f;exact PySem.EqMixed.eq_str_bool (Xc I q<|by simp)
  |int j=>obtain⟨g,rfl⟩:=f;exact PySem.EqMixed.eq_str_int (Xc I q<|by simp)
  |str j=>obtain⟨g,rfl⟩:=f;exact eq_str (Xc I q L3)
  |_=>exact absurd l WN
 |byt i=>
  obtain⟨t,rfl⟩:=n;cases y with
  |byt j=>obtain⟨g,rfl⟩:=f;exact PySem.W.eq_bytes (Xc I q LP)
  |_=>exact absurd l WN
 |_=>cases y<;>exact absurd (show false=true from l) WN
def op_ne:OpR X (compareOp .NotEq) rNe:=by
 intro pins s o H x y v u Q I n f h;obtain⟨l,q⟩:=h;cases x with
 |non=>
  cases n
  cases y with
  |non=>cases f;exact PySem.EqNone.ne_none_none (Xc I q<|by simp)
  |bl j=>cases f;exact PySem.EqNone.ne_none_bool (Xc I q<|by simp)
  |int j=>obtain⟨g,rfl⟩:=f;exact PySem.EqNone.ne_none_int (Xc I q<|by simp)
  |str j=>obtain⟨g,rfl⟩:=f;exact PySem.EqNone.ne_none_str (Xc I q<|by simp)
  |_=>exact absurd l WN
 |bl i=>
  cases n
  cases y with
  |non=>cases f;exact PySem.EqNone.ne_bool_none (Xc I q<|by simp)
  |bl j=>cases f;exact ne_bool (Xc I q<|Qk not Ha)
  |str j=>obtain⟨g,rfl⟩:=f;exact PySem.EqMixed.ne_bool_str (Xc I q<|by simp)
  |_=>exact absurd l WN
 |int i=>
  obtain⟨t,rfl⟩:=n;cases y with
  |non=>cases f;exact PySem.EqNone.ne_int_none (Xc I q<|by simp)
  |int j=>obtain⟨g,rfl⟩:=f;exact ne_int (Xc I q<|Qk not HL)
  |str j=>obtain⟨g,rfl⟩:=f;exact PySem.EqMixed.ne_int_str (Xc I q<|by simp)
  |_=>exact absurd l WN
 |str i=>
  obtain⟨t,rfl⟩:=n;cases y with
  |non=>cases f;exact PySem.EqNone.ne_str_none (Xc I q<|by simp)
  |bl j=>cases f;exact PySem.EqMixed.ne_str_bool (Xc I q<|by simp)
  |int j=>obtain⟨g,rfl⟩:=f;exact PySem.EqMixed.ne_str_int (Xc I q<|by simp)
  |str j=>obtain⟨g,rfl⟩:=f;exact ne_str (Xc I q<|Qk not L3)
  |_=>exact absurd l WN
 |byt i=>
  obtain⟨t,rfl⟩:=n;cases y with
  |byt j=>obtain⟨g,rfl⟩:=f;exact PySem.W.ne_bytes (Xc I q<|Qk not LP)
  |_=>exact absurd l WN
 |_=>cases y<;>exact absurd (show false=true from l) WN
def Kk:OpR X (compareOp .Lt) (rI0 λi j=>.bl (decide (i<j))):=Cs λ_ _ _ _ _ _ _ q=>lt_int q
def Ka:OpR X (compareOp .Gt) (rI0 λi j=>.bl (decide (j<i))):=Cs λ_ _ _ _ _ _ _ q=>gt_int q
def TR:OpR X (compareOp .GtE) (rI0 λi j=>.bl (decide (j<=i))):=Cs λ_ _ _ _ _ _ _ q=>ge_int q
def OpR.or (h:OpR X f r) (p:OpR X f o):OpR X f (λx y H Q=>r x y H Q\/o x y H Q):=by
 intro pins s g H x y v u Q I n l q;rcases q with q|q
 ·exact h pins s g H x y v u Q I n l q
 ·exact p pins s g H x y v u Q I n l q
def Kl(b:Expr){op}(h:autoParam (op≠.In) au_1)(l:autoParam (op≠.NotIn) au_1):behindInMarks op b=false:=by
 have g:(op==CmpOp.In)=false:=by grind
 have f:(op==CmpOp.NotIn)=false:=by grind
 cases b<;>simp[behindInMarks,g,f]
def TH(p:OpR X (compareOp f) r)(A:PE X a ta)(z:PE X b tb)(w:behindInMarks f b=false):PE X (.Compare a [f] [b] pos) (tOp r ta tb):=by
 intro pins s g H Q I h;exact wpAny_Compare1 (AI A z I h λv u l x y C B o n q=>p pins l g C x y v u Q B o n q) w
noncomputable def Bu(t:TE):TT:=λf H Q=>t f H λx g=>∃k,x=.bl k/\Q k g
def Kq(E:OpR X (compareOp g) r)(L:PE X a ta)(J:PE X b tb)(G:behindInMarks g b=false):PT X (.Compare a [g] [b] pos) (Bu<|tOp r ta tb):=by
 intro pins s f H Q I h
 refine wpAny_isTrue_Compare1 (thn (L pins s f H _ I h) λv n ⟨x,H1,T,w,C⟩=>thn (J pins n f H1 _ T C) λu l ⟨y,Y,N,p,B⟩=>
  thn (E pins l f Y x y v u _ N w p B) λc s3 ⟨z,U,M,o,k,e,A⟩=>?_) G
 subst e;cases o
 exact QW ⟨U,M,A⟩
def AY(K:ZQ)(x:V)(H:Hp)(k:Bool):Prop:=
 match x with
 | .non=>k=false
 | .bl b=>k=b
 | .int i=>k=(i != 0)
 | .str y=>y.length<=sizeLine/\k=((y.length:Int) != 0)
 | .byt y=>y.size<=sizeLine/\k=((y.size:Int) != 0)
 | .ref p=>(∃xs,SqL K H p xs/\k=!xs.isEmpty)\/(∃xs,SqT K H p xs/\k=!xs.isEmpty)\/∃f,H p=some (.dK f)/\k=!f.isEmpty
 |_=>False
def Zec(r:KV f vs):(!vs.isEmpty)=!f.isEmpty:=by
 cases r<;>rfl
def GM(r:Vals xs f):(!f.toArray.isEmpty)=!xs.isEmpty:=by
 cases r<;>simp
def SR:(sizeLine:Nat)<2 ^ 63:=by trivial
def Za3:MZ X (λx H Q=>∃k,AY X.K x H k/\Q k H):=by
 intro pins s B H x v Q I l h;obtain⟨k,e,q⟩:=h;have G:=SR;have E:=sizeLine_eq;cases x with
 |non=>
  cases l
  have f:=e;subst f;exact truthy_none ⟨H,I,q⟩
 |bl b=>
  cases l
  have f:=e;subst f;exact QW ⟨H,I,q⟩
 |int i=>
  obtain⟨t,rfl⟩:=l;have f:=e;subst f;exact PySem.P.truthy_int ⟨H,I,q⟩
 |str y=>
  obtain⟨t,rfl⟩:=l;obtain⟨z,f⟩:=e;subst f;exact PySem.P.truthy_str (by lia) ⟨H,I.tok _,q⟩
 |byt y=>
  obtain⟨t,rfl⟩:=l;obtain⟨z,f⟩:=e;subst f;exact PySem.W.truthy_bytes (by lia) ⟨H,I.tok _,q⟩
 |ref p=>
  cases l
  have f:=e;rcases f with⟨xs,hx,f⟩|⟨xs,hx,f⟩|⟨w,hx,f⟩
  ·subst f;obtain⟨o,r,n,u⟩:=I.list hx;have g:=r.length;exact wpAny_truthy_list n.isList (by simp only[WX];lia) ⟨H,I.tok _,by rw[GM r];exact q⟩
  ·subst f;obtain⟨o,r,n,u⟩:=I.tuple hx;have g:=r.length;exact truthy_tuple n (by simp only[WX];lia) ⟨H,I.tok _,by rw[GM r];exact q⟩
  ·subst f;obtain⟨u,A,C,r,m⟩:=I.hok p _ hx;have g:=Paired.length r;exact wpAny_truthy_dict A m (by lia) ⟨H,I.tok _,by rw[Zec r];exact q⟩
 |_=>exact e.elim
def Zaw(p:PE X a ta)(o:∀whole,isTrue a X.env whole=(do let v ←whole;standAt a.pos;holding [v] (truthy v))) :
  PT X a (λf H Q=>ta f H λx H'=>∃k,AY X.K x H' k/\Q k H'):=by
 intro pins s f H Q I h;exact isTrue_plain (thn (p pins s f H _ I h) λv g ⟨x,u,r,l,n⟩=>Za3 pins g f u x v Q r l n) (o _)
def vals1(r:Vals [x] us):∃u,us=[u]/\RelV x u:=by
 cases r with
 |cons g f=>cases f;exact⟨_,rfl,g⟩
def vals2(r:Vals [x,y] us):∃u f,us=[u,f]/\RelV x u/\RelV y f:=by
 cases r with
 |cons n l=>
  cases l with
  |cons h g=>cases g;exact⟨_,_,rfl,n,h⟩
def LQ(g:X.calm=true):X5 X (.builtin "max") (λxs H Q=>∃i j,xs=[.int i,.int j]/\Q (.int (if j>i then j else i)) H):=by
 intro pins s l H xs o Q I r h;obtain⟨i,j,rfl,q⟩:=h;obtain⟨u,n,rfl,⟨t,rfl⟩,⟨v,rfl⟩⟩:=vals2 r;refine max_two_ints (I.ok.hd g) λw p k=>⟨_,H,I.kept k,?_,q⟩;by_cases f:j>i
 ·rw[W3 f,W3 f];exact⟨_,rfl⟩
 ·rw[W2 f,W2 f];exact⟨_,rfl⟩
def Zh2:X5 X (.type "int") (λxs H Q=>(∃i,xs=[.int i]/\Q (.int i) H)\/∃k,xs=[.bl k]/\Q (.int (if k then 1 else 0)) H):=by
 intro pins s g H xs l Q I r h;rcases h with⟨i,rfl,q⟩|⟨k,rfl,q⟩
 ·obtain⟨u,rfl,t,rfl⟩:=vals1 r;exact call_int_int ⟨.int i,H,I,⟨_,rfl⟩,q⟩
 ·obtain⟨u,rfl,f⟩:=vals1 r;cases f
  exact call_int_bool ⟨.int (if k then 1 else 0),H,I.tok _,⟨_,rfl⟩,q⟩
def BR(K:ZQ)(x:V)(H:Hp)(n:Nat):Prop:=
 match x with
 | .str y=>y.length<=sizeLine/\n=y.length
 | .byt y=>y.size<=sizeLine/\n=y.size
 | .ref p=>(∃xs,SqL K H p xs/\n=xs.length)\/∃xs,SqT K H p xs/\n=xs.length
 |_=>False
def Zda:X5 X (.builtin "len") (λxs H Q=>∃x n,xs=[x]/\BR X.K x H n/\Q (.int n) H):=by
 intro pins s B H xs C Q I r h;obtain⟨x,n,rfl,e,q⟩:=h;obtain⟨u,rfl,l⟩:=vals1 r;have E:=sizeLine_eq;cases x with
 |str y=>
  obtain⟨t,rfl⟩:=l;obtain⟨A,g⟩:=e;subst g;exact len_str (by lia) ⟨.int _,H,I.tok _,⟨_,rfl⟩,q⟩
 |byt y=>
  obtain⟨t,rfl⟩:=l;obtain⟨A,g⟩:=e;subst g;exact PySem.W.len_bytes (by lia) ⟨.int _,H,I.tok _,⟨_,rfl⟩,q⟩
 |ref p=>
  cases l
  have g:=e;rcases g with⟨xs,hx,g⟩|⟨xs,hx,g⟩
  ·subst g;obtain⟨w,o,v,z⟩:=I.list hx;have f:=o.length;exact Calls.call_len_list v.isList (by simp only[WX];lia) ⟨.int xs.length,H,I.tok _,⟨_,by simp only[WX];rw[f]⟩,q⟩
  ·subst g;obtain⟨w,o,v,z⟩:=I.tuple hx;have f:=o.length;exact len_tuple v (by simp only[WX];lia) ⟨.int xs.length,H,I.tok _,⟨_,by simp only[WX];rw[f]⟩,q⟩
 |_=>exact e.elim
end
structure Tt (h:Heap) (x dx C:Addr) (mA:ZU):Prop where
 obj:h.get? x=some (PySem.W.instObj C dx)
 ns:h.Ns1 dx mA
 ne:dx≠x
def Zfq{h:Heap}{dx}{mA}(n:h.Ns1 dx mA):∃g,h.get? dx=some g/\∀name,PySem.W.lookIn name g=some (mA name):=by
 obtain⟨o,v,w,p,u,s,_,r⟩:=n;refine⟨o,p,λname=>?_⟩;have e:=r name;unfold nsFind findBy at e;unfold PySem.W.lookIn;rw[u]
 dsimp only
 split
 ·grind
 ·rename_i q
  have a:v.toList.any (·.refKey)=false:=by
   rw[List.any_eq_false];intro y l;obtain⟨z,t,f⟩:=s y (Array.mem_toList_iff.mp l);simp[DictEntry.refKey,f]
  grind
def Tt.look (I:Tt h x o C g):∃f,PySem.W.InstAt h x (PySem.W.instObj C o) C (some f)/\∀name,PySem.W.lookIn name f=some (g name):=
 let ⟨f,l,n⟩:=Zfq I.ns
 ⟨f,⟨I.obj,rfl,rfl,l⟩,n⟩
section
variable {prog:Program}{w:World}{A:Around}{E:ZV}{s:Shared}{K:ZQ}{x dx C f:Addr}{mA:ZU}{name:Str}{v:Value}
def Zfl{Q}(X:K.In s.heap)(I:Tt s.heap x dx C mA)(n:PySem.W.plainGet K C name=true)(l:PySem.W.hasDictIn K C=true)(o:PySem.W.findIn K (.ref C) name=some none)(r:mA name=some v)(g:PySem.W.handedIn v=true)(h:Q v {s with toks:=s.toks+1}) :
  wpAny (model prog w) A (getAttr (.ref x) name expr) Q E s:=by
 obtain⟨p,J,u⟩:=I.look;exact PySem.W.get_value X J (Jg n).1 (PySem.W.findObj_own l o rfl<|by grind) g h
def Zmc{Q}(X:K.In s.heap)(I:Tt s.heap x dx C mA)(g:PySem.W.plainGet K C name=true)(r:PySem.W.findIn K (.ref C) name=some (some<|.ref f))(o:PySem.W.isFn K (.ref f)=true)(n:mA name=none)(h:Q (.ref f,[.ref x]) s) :
  wpAny (model prog w) A (getMethod (.ref x) name u) Q E s:=by
 obtain⟨l,J,p⟩:=I.look;exact PySem.W.method_fn X J (Jg g).1 (Jg g).2 r (beq_iff_eq.mp o) (by show(PySem.W.lookIn name l).map (·.isSome)=some false;rw[p,n];rfl) h
def Zk2(X:K.In s.heap)(I:Tt s.heap x dx C mA)(hs:PySem.W.findIn K (.ref C) "__setattr__"=some (some<|.builtin "object.__setattr__"))(B:PySem.W.plainOver K C=true)(z:PySem.W.takerIn K C name=some none)(G:PySem.W.hasDictIn K C=true)(hw:PySem.Within mA ns)(hsz:ns.length<=sizeLine)(h:∀n,Tt n x dx C (λy=>if y=name then some v else mA y)->Heap.SameBut dx s.heap n->Q () {s with heap:=n,toks:=s.toks+2}) :
  wpAny (model prog w) A (setAttr (.ref x) name v) Q E s:=by
 obtain⟨N,J,U⟩:=I.look;refine PySem.W.set_plain X J hs (PySem.W.osa_open X J B z λb=>?_);obtain⟨Y,H,r⟩:=PySem.W.any_some G;refine Wu (W1<|Wu<|Wu<|wpAny_loadPart I.obj<|Wu<|PySem.W.Looks.here (PySem.W.looks_clsIn X H) ?_);rw[r];refine W1 (Wu<|W1<|Wu ?_);refine wpAny_nsSet1 I.ns λn l g=>?_;obtain⟨T,L,M,o,p,u⟩:=l.count (PySem.Within.cons name v hw);refine Wu (wpAny_lookBehind o (by rw[p];exact pastItsLine_dict (W9 u<|by grind)) ?_);exact W1 (h _ ⟨(g.2 _<|Ne.symm I.ne).trans I.obj,l,I.ne⟩ g)
def Zbe{vs g}(X:K.In s.heap)(l:PySem.W.makesIn K C=true)(n:PySem.W.findIn K (.ref C) "__init__"=some (some<|.ref f))(o:PySem.W.typeIn K (.ref f)=some (.type "function"))
  (h:codeAny (model prog w) (A.under<|.builtin "type.__call__" ⟨.ref C::vs,g⟩) (.call (.ref f) ⟨.ref (s.heap.objs.size+1)::vs,g⟩) (PySem.W.InitBack (s.heap.objs.size+1) R)
   {s with heap:=(s.heap.push PySem.W.emptyDict).push (PySem.W.instObj C s.heap.objs.size)}) :
  codeAny (model prog w) A (.call (.ref C) ⟨vs,g⟩) R s:=PySem.W.make_core (PySem.W.makes_of X l) (PySem.W.looks_findIn X n) (λself=>PySem.W.bind_fn X self o) (.inl rfl) h
end
noncomputable def XI(f:Str)(v:V):List (Str×V)->List (Str×V)
 |[]=>[(f,v)]
 |(g,x)::r=>if g=f then(g,v)::r else(g,x)::XI f v r
theorem Hg(f g:Str)(v:V):∀fs,(XI f v fs).lookup g=if g=f then some v else fs.lookup g
 |[]=>by
  show List.lookup g [(f,v)]=_;by_cases h:g=f
  ·have l:=beq_iff_eq.mpr h;simp only[List.lookup,l,W3 h]
  ·have l:=Vi.mpr h;simp only[List.lookup,l,W2 h]
 |(k,x)::r=>by
  rw[show XI f v ((k,x)::r)=(if k=f then(k,v)::r else(k,x)::XI f v r)from rfl]
  by_cases n:k=f
  ·rw[W3 n];by_cases h:g=k
   ·simp_all
   ·have l:=Vi.mpr h;simp only[List.lookup,l,W2 (λe:g=f=>h (e.trans n.symm))]
  ·rw[W2 n];by_cases h:g=k
   ·simp_all
   ·have l:=Vi.mpr h;simp only[List.lookup,l];exact(Hg f g v r)
theorem FG(f:Str)(v:V):∀fs,f∈(XI f v fs).map (·.1)/\∀g,g∈fs.map (·.1)->g∈(XI f v fs).map (·.1)
 |[]=>⟨by simp[XI],λg h=>by simp at h⟩
 |(k,x)::r=>by
  obtain⟨n,l⟩:=FG f v r;rw[show XI f v ((k,x)::r)=(if k=f then(k,v)::r else(k,x)::XI f v r)from rfl]
  by_cases o:k=f
  ·grind
  ·grind
theorem Lx(f:Str)(v:V):∀fs,(XI f v fs).length<=fs.length+1
 |[]=>by simp[XI]
 |(k,x)::r=>by
  have g:=Lx f v r;rw[show XI f v ((k,x)::r)=(if k=f then(k,v)::r else(k,x)::XI f v r)from rfl]
  by_cases h:k=f
  ·grind
  ·grind
def RelO.some_of (r:RelO (some v) o):∃u,o=some u/\RelV v u:=by
 cases o with
 |none=>trivial
 |some u=>exact⟨u,rfl,r⟩
def RelO.none_of (r:RelO none o):o=none:=by
 cases o with
 |none=>rfl
 |some u=>trivial
def Zlu(r:RelV v u):PySem.W.handedIn u=true:=by
 cases v with
 |non|bl b|ref a|ty n=>cases r;rfl
 |_=>obtain⟨t,e⟩:=r;cases e;rfl
section
variable {P:Program}{w:World}{H H':Hp}{h h':Heap}{a C dx:Addr}{fs fs':List (Str×V)}
def B4(l:HOk P w H h)(e:H a=some (.ins C dx fs)):∃g,Tt h a dx C g/\(∀f,RelO (fs.lookup f) (g f))/\PySem.Within g (fs.map (·.1))/\fs.length<=1000/\H dx=some (.own a):=by
 obtain⟨d,z,p,o,g,n,r,q⟩:=(l a _ e);exact⟨g,⟨o,n,p⟩,r,q,z,d⟩
end
structure Cls (K:ZQ) (C:Addr):Prop where
 pg:PySem.W.plainGet K C Str.empty=true
 hd:PySem.W.hasDictIn K C=true
 po:PySem.W.plainOver K C=true
 sa:PySem.W.findIn K (.ref C) "__setattr__"=some (some<|.builtin "object.__setattr__")
def Cls.get {K C} (c:Cls K C) (f:Str):PySem.W.plainGet K C f=true:=c.pg
def NoAttr(K:ZQ)(C:Addr)(f:Str):Prop:=PySem.W.findIn K (.ref C) f=some none
def NoAttr.taker {K C f} (n:NoAttr K C f):PySem.W.takerIn K C f=some none:=by
 unfold PySem.W.takerIn;rw[show PySem.W.findIn K (.ref C) f=some none from n]
 rfl
structure UU (K:ZQ) (C:Addr) (m:Str) (f:Addr):Prop where
 at_:PySem.W.findIn K (.ref C) m=some (some<|.ref f)
 fn:PySem.W.isFn K (.ref f)=true
 kp:PySem.W.keepIn K (.ref f)=true
section
variable {X:Cx}{pins:ZT}{σ:St}{H:Hp}{s:Shared}{a C dx:Addr}{fs:List (Str×V)}{f:Str}{v:V}{A:Around}{E:ZV}
def Zce{Q}(I:Inv X pins σ H s)(e:H a=some (.ins C dx fs))(c:Cls X.K C)(n:NoAttr X.K C f)(l:fs.lookup f=some v)(h:∀u g,Inv X pins σ H g->RelV v u->Q u g):wpAny (model X.prog X.w) A (getAttr (.ref a) f b) Q E s:=by
 obtain⟨x,O,r,_,_,_⟩:=B4 I.hok e;obtain⟨u,p,o⟩:=RelO.some_of (by rw[←l];exact r f);exact Zfl I.kIn O (c.get f) c.hd n p (Zlu o) (h u _ (I.tok _) o)
def AQ{Q}(I:Inv X pins σ H s)(e:H a=some (.ins C dx fs))(c:Cls X.K C)(k:UU X.K C m g)(l:fs.lookup m=none)(h:Q (.ref g,[.ref a]) s):wpAny (model X.prog X.w) A (getMethod (.ref a) m n) Q E s:=by
 obtain⟨o,O,r,_,_,_⟩:=B4 I.hok e;exact Zmc I.kIn O (c.get m) k.at_ k.fn (RelO.none_of<|by rw[←l];exact r m) h
def Zgk(I:Inv X pins σ H s)(e:H a=some (.ins C dx fs))(c:Cls X.K C)(n:NoAttr X.K C f)(hl:fs.length<1000)(J:RelV y u)(h:∀x,Inv X pins σ (upd H a<|.ins C dx<|XI f y fs) x->Q () x):wpAny (model X.prog X.w) A (setAttr (.ref a) f u) Q E s:=by
 obtain⟨L,O,r,p,_,B⟩:=B4 I.hok e;have M:(fs.map (·.1)).length<=sizeLine:=by rw[Wt,sizeLine_eq];lia
 refine Zk2 I.kIn O c.sa c.po n.taker c.hd p M λY l G=>h _ ?_;have T:∃o,Y.get? dx=some o:=let ⟨o,_,_,e',_⟩:=l.ns;⟨o,e'⟩;refine I.write (by rw[e];exact True.intro) (.inr B) (λb q U z=>(G.2 b U).trans z) T ?_;refine⟨by rw[UR O.ne];exact B,?_,O.ne,l.obj,_,l.ns,λg=>?_,λg N=>?_⟩
 ·have:=Lx f y fs;lia
 ·show RelO ((XI f y fs).lookup g) (if g=f then some u else L g);rw[Hg];by_cases q:g=f
  ·rw[W3 q,W3 q];exact J
  ·grind
 ·by_cases q:g=f
  ·rw[q];exact(FG f y fs).1
  ·refine(FG f y fs).2 g (p g λz=>N ?_)
   grind
def Inv.made (I:Inv X pins σ H s):Inv X pins σ (upd (upd H s.heap.objs.size<|.own (s.heap.objs.size+1)) (s.heap.objs.size+1)<|.ins C s.heap.objs.size [])
  {s with heap:=(s.heap.push PySem.W.emptyDict).push (PySem.W.instObj C s.heap.objs.size)}:=by
 have h:(s.heap.push PySem.W.emptyDict).get? s.heap.objs.size=some PySem.W.emptyDict:=WD s.heap rfl
 have r:((s.heap.push PySem.W.emptyDict).push (PySem.W.instObj C s.heap.objs.size)).get? (s.heap.objs.size+1)=some (PySem.W.instObj C s.heap.objs.size):=by
  have:=WD (s.heap.push PySem.W.emptyDict) (o:=PySem.W.instObj C s.heap.objs.size) rfl
  rwa[Vc]at this
 have p:(s.heap.push PySem.W.emptyDict).Ns s.heap.objs.size (λ_=>none):=⟨PySem.W.emptyDict,#[],_,h,rfl,(λe n=>absurd n (by simp)),λ_=>rfl⟩;refine(I.laid (o:=.own (s.heap.objs.size+1)) (t':=s.toks) (λb u q=>Wz _ q) (W5 _) ⟨_,h⟩).laid (λb u q=>Wz _ q) (QH<|Vc _ _) ?_;have g:s.heap.objs.size≠s.heap.objs.size+1:=WV (Ve _);refine⟨by rw[UR g,UZ],QB _,g,r,λ_=>none,(Heap.Ns1.of_empty p).at λo q=>Wz _ q,λ_=>True.intro,λy l=>absurd rfl l⟩
def Zcg{env e f pos s Q}(l:attributeBase e f env (eval e env)=eval e env)(h:wpAny (model prog w) A (eval e env) (λo g=>wpAny (model prog w) A (getAttr o f true) Q E g) E s):wpAny (model prog w) A (eval (.Attribute e f pos) env) Q E s:=
 Attribute_any_ h (by rw[arm_eval_Attribute,l])
end
noncomputable def Bx(K:ZQ)(l:TE)(f:Str):TE:=λh H Q=>l h H λx g=>∃a C n fs v,x=.ref a/\g a=some (.ins C n fs)/\Cls K C/\NoAttr K C f/\fs.lookup f=some v/\Q v g
noncomputable def M8(K:ZQ)(o n:TE)(f:Str):TS:=λD g H=>n g H λy p=>o g p λx l=>∃a C h fs,x=.ref a/\l a=some (.ins C h fs)/\Cls K C/\NoAttr K C f/\fs.length<1000/\
 D.nx g (upd l a<|.ins C h<|XI f y fs)
section
variable {X:Cx}{o e value:Expr}{f:Str}{pos pos' tpos:Pos}{ta tv:TE}
def KC(w:PE X e ta)(y:attributeBase e f X.env (eval e X.env)=eval e X.env):PE X (.Attribute e f pos) (Bx X.K ta f):=by
 intro pins s g H Q I h;refine Zcg y (thn (w pins s g H _ I h) ?_);rintro u L ⟨x,E,B,p,a,C,M,fs,v,ex,z,c,n,l,q⟩;subst ex;obtain rfl:=p;exact Zce B z c n l λG J A r=>⟨v,E,A,r,q⟩
def AE(A:PE X o ta)(z:PE X value tv)(hs:swapsWith value (some<|.Attribute o f pos') pos.line X.env=pure false):PS X (.Assign [.Attribute o f pos'] value pos) (M8 X.K ta tv f):=by
 intro pins s g H D I h;refine plainObj_wpAny_Assign_Attribute (thn (z pins s g H _ I h) ?_) hs;rintro u p ⟨y,L,J,r,q⟩;refine thn (A pins p g L _ J q) ?_;rintro Q N ⟨x,U,G,v,a,C,T,fs,ex,B,c,n,l,w⟩;subst ex;obtain rfl:=v;exact Zgk G B c n l r λM E=>⟨g,_,E,w⟩
def Zm7{m}{apos}{args}{pins}{s}{n:St}{H}{Q}{te}(G:PE X e te)(I:Inv X pins n H s)
  (h:te n H λx r=>∃a C y fs g,x=.ref a/\r a=some (.ins C y fs)/\Cls X.K C/\UU X.K C m g/\fs.lookup m=none/\
   ∀p,Inv X pins n r p->wpAny (model X.prog X.w) X.A (callWith pos (.ref g) [.ref a] (backTo pos<|starEach args X.env)<|backToKw pos<|keywordEach [] X.env) Q X.xe p)
  (E:eval (.Call (.Attribute e m apos) args [] pos) X.env=(do
   let v ←eval e X.env
   standAt apos.atName
   let (f,first) ←holding [v] (getMethod v m L)
   callWith pos f first (backTo pos<|starEach args X.env) (backToKw pos<|keywordEach [] X.env))) :
  wpAny (model X.prog X.w) X.A (eval (.Call (.Attribute e m apos) args [] pos) X.env) Q X.xe s:=by
 refine VX (thn (G pins s n H _ I h) ?_) E;rintro u p ⟨x,r,z,B,a,C,y,fs,g,ex,J,c,k,l,q⟩;subst ex;obtain rfl:=B;exact AQ z J c k l (q p z)
end
section
variable {X:Cx}{pins:ZT}{σ:St}{H:Hp}{s:Shared}{A:Around}{E:ZV}{Q:ZV}{c:Value}{b:Bool}
inductive Ki (K:ZQ) (H:Hp):V->Value->Prop where
 |non:Ki K H .non (.type "NoneType")
 |bl (x:Bool):Ki K H (.bl x) (.type "bool")
 |int (i:Int):Ki K H (.int i) (.type "int")
 |str (x:Str):Ki K H (.str x) (.type "str")
 |flt (x:UInt64):Ki K H (.flt x) (.type "float")
 |lst {a:Addr} {xs:List V} (e:H a=some (.lst xs)):Ki K H (.ref a) (.type "list")
 |frz {a:Addr} {o:Obj} {xs:List V} (e:H a=some (.frz o<|.lst xs)):Ki K H (.ref a) (.type "list")
 |tup {a:Addr} {xs:List V} (e:H a=some (.tup xs)):Ki K H (.ref a) (.type "tuple")
 |dK {a:Addr} {kvs:List (Key×V)} (e:H a=some (.dK kvs)):Ki K H (.ref a) (.type "dict")
 |dT {a:Addr} {kvs:List (List Key×V)} (e:H a=some (.dT kvs)):Ki K H (.ref a) (.type "dict")
 |ins {a C dx:Addr} {fs:List (Str×V)} (e:H a=some (.ins C dx fs)) (cl:Cls K C) (ha:PySem.W.findIn K (.ref C) "__class__"=some (some<|.builtin "object.__class__"))
   (hn:PySem.W.specialIn K (.builtin "object.__class__") "__get__"=some (some<|.builtin "getset_descriptor.__get__")) (htk:PySem.W.takesIn K (.builtin "object.__class__")=some true)
   (hm:PySem.W.mroIn K C (.type "object")=some true):Ki K H (.ref a) (.ref C)
def Zkt(I:Inv X pins σ H s)(f:RelV x u)(L:Ki X.K H x t)(e:PySem.W.kitOne X.K t c=some b)(h:∀M,Q (.bool b) {s with toks:=M}) :
  wpAny (model X.prog X.w) A (call (.builtin "isinstance") [u,c]) Q E s:=by
 cases L with
 |non=>cases f;exact Qz PySem.W.kitx_none I.kIn True.intro e (λz=>nomatch z) h
 |bl y=>cases f;exact Qz PySem.W.kitx_bool I.kIn True.intro e (λz=>nomatch z) h
 |int i=>obtain⟨t,q⟩:=f;cases q;exact Qz PySem.W.kitx_int I.kIn True.intro e (λz=>nomatch z) h
 |str y=>obtain⟨t,q⟩:=f;cases q;exact Qz PySem.W.kitx_str I.kIn True.intro e (λz=>nomatch z) h
 |flt y=>obtain⟨t,q⟩:=f;cases q;exact Qz PySem.W.kitx_float I.kIn True.intro e (λz=>nomatch z) h
 | @lst a xs g=>
  cases f
  obtain⟨_,_,n,_,l⟩:=(I.hok a _ g);exact Qz PySem.W.kitx_list I.kIn ⟨_,l,rfl⟩ e (λz=>nomatch z) h
 | @frz a ob xs g=>
  cases f
  obtain⟨_,_,_,n,_,l⟩:=(I.hok a _ g);exact Qz PySem.W.kitx_list I.kIn ⟨_,l,rfl⟩ e (λz=>nomatch z) h
 | @tup a xs g=>
  cases f
  obtain⟨_,_,_,p⟩:=(I.hok a _ g);obtain⟨o,l,r,_⟩:=p;exact Qz PySem.W.kitx_tuple I.kIn ⟨o,l,r⟩ e (λz=>nomatch z) h
 | @dK a v g=>
  cases f
  obtain⟨_,_,vs,_,p⟩:=(I.hok a _ g);obtain⟨o,Y,ep,l,r,_⟩:=p;exact Qz PySem.W.kitx_dict I.kIn ⟨o,l,r.1⟩ e (λz=>nomatch z) h
 | @dT a v g=>
  cases f
  obtain⟨_,_,xs,_,o,Y,ep,l,r,_⟩:=(I.hok a _ g);exact Qz PySem.W.kitx_dict I.kIn ⟨o,l,r.1⟩ e (λz=>nomatch z) h
 | @ins a C dx fs g G U N B T=>
  cases f
  obtain⟨mA,O,_⟩:=B4 I.hok g;obtain⟨od,J,_⟩:=O.look;exact Qz (PySem.W.kitx_own (G.get _) G.hd U N B T) I.kIn J e (λz=>nomatch z) h
end
structure UH (k:Nat) (A:Around):Prop where
 hd:A.handled=none
 dp:A.depth+3*k+5<recursionLimit
 un:A.units+16*k+200<cLine
 gd:A.guards=some []
def UH.mono {j k A} (r:UH k A) (h:j<=k):UH j A:=⟨r.hd,by have:=r.dp;lia,by have:=r.un;lia,r.gd⟩
def UH.deeper (r:UH (k+1) A) (env:Env):UH k (A.deeper env):=
 ⟨r.hd,by have:=r.dp;show A.depth+1+3*k+5<_;lia,by have:=r.un;show A.units+3+16*k+200<_;lia,r.gd⟩
def Zjx{A:Around}{C}{us}{kw}:(A.under<|.builtin "type.__call__" ⟨.ref C::us,kw⟩).depth=A.depth+1:=by
 rfl
def Zdx{A:Around}{C}{us}{kw}:(A.under<|.builtin "type.__call__" ⟨.ref C::us,kw⟩).units=A.units+1:=rfl
def RH{A:Around}{C:Addr}{us:ZY}{f:List (Str×Value)}(h:A.guards=some []):(A.under<|.builtin "type.__call__" ⟨.ref C::us,f⟩).guards=some []:=by
 simpa [Around.under,Code.guards,Code.isGuard,guardIds,pushGuards]using h
def UH.make (r:UH (k+1) A) (C:Addr) (us:ZY) (f:List (Str×Value)):UH k (A.under<|.builtin "type.__call__" ⟨.ref C::us,f⟩):=
 ⟨r.hd,by have:=r.dp;rw[Zjx];lia,by have:=r.un;rw[Zdx];lia,RH r.gd⟩
def UH.depth (r:UH k A):A.depth<recursionLimit:=by have:=r.dp;lia
def UH.units (r:UH k A):A.units+64<cLine:=by have:=r.un;lia
def UH.units0 (r:UH k A):A.units<cLine:=by have:=r.un;lia
noncomputable def XT:TA:=λ_ H Q=>Q [] H
noncomputable def Xk(h:TE)(g:TA):TA:=λf H Q=>h f H λx n=>g f n λxs l=>Q (x::xs) l
section
variable {X:Cx}{e:Expr}{es:Ya}{te:TE}{t:TA}{pos:Pos}
def Xv:PA X [] XT:=λ_ _ _ _ H Q I h=>Calls.spliced_nil ⟨[],H,I,.nil,h⟩
def Xr(v:PE X e te)(r:PA X es t)(hs:autoParam (starEach (e::es) X.env=(false,eval e X.env)::starEach es X.env) au_0):PA X (e::es) (Xk te t):=by
 intro pos pins s f H Q I h;rw[hs];refine Calls.spliced_cons (thn (v pins s f H _ I h) ?_);rintro u g ⟨x,A,y,n,p⟩;exact thn (r pos pins g f A _ y p) λB C ⟨xs,z,w,l,o⟩=>⟨x::xs,z,w,.cons n l,o⟩
noncomputable def Mf(t:TA):TE:=λg H Q=>t g H λxs f=>xs.length<=sizeLine/\∀p,f p=none->Q (.ref p) (upd f p<|.tup xs)
noncomputable def SU(t:TA):TE:=λg H Q=>t g H λxs f=>xs.length<=sizeLine/\∀p,f p=none->Q (.ref p) (upd f p<|.lst xs)
def Kf(h:PA X es t):PE X (.Tuple es p pos) (Mf t):=by
 intro pins s l H Q I hq;refine wpAny_Tuple_spliced (thn (h pos pins s l H _ I hq) ?_);rintro n f ⟨xs,o,g,r,z,q⟩;refine⟨by rw[←r.length];exact z,?_⟩;refine⟨.ref f.heap.objs.size,upd o f.heap.objs.size (.tup xs),g.laid (λb u e=>Wz _ e) (W5 _) ?_,rfl,q _ (g.hok.fresh<|W5 _)⟩;exact⟨z,n,r,⟨_,WD _ rfl,rfl,_,rfl⟩⟩
def XB(h:PA X es t):PE X (.List es pos) (SU t):=by
 intro pins s l H Q I hq;refine wpAny_List_spliced (thn (h pos pins s l H _ I hq) ?_);rintro n f ⟨xs,o,g,r,z,q⟩;refine⟨by rw[←r.length];exact z,?_⟩;refine⟨.ref f.heap.objs.size,upd o f.heap.objs.size (.lst xs),g.laid (λb u e=>Wz _ e) (W5 _) ?_,rfl,q _ (g.hok.fresh<|W5 _)⟩;exact⟨z,n,0,r,WD _ rfl⟩
end
abbrev Sp:=List V->Hp->VK->XK->Prop
abbrev CXT:=List Env->Hp->Shared->XK->ZV
structure Tj (P:Program) (w:World) (K:ZQ) (mg:ZU) (base:Heap) (A:Around) (outer:List Env) (s:Shared) (H:Hp):Prop where
 frames:A.frames=some outer
 mod:Mod K mg base
 bs:∀b o,base.get? b=some o->s.heap.get? b=some o/\H b=none
 bsz:base.objs.size<=s.heap.objs.size
 funs:s.heap.FunFrames base outer
 frf:∀b∈frs outer,H b=none
 hok:HOk P w H s.heap
 bare:AllBare s.gens
def CE(outer:List Env)(P:Program)(w:World)(H:Hp)(s:Shared)(Q:VK)(u:Value)(f:Shared):Prop:=
 ∃v g,f.os=s.os/\AllBare f.gens/\Un (frs outer) [] H g s.heap f.heap/\HOk P w g f.heap/\RelV v u/\Q v g
def CR(CX:CXT)(outer:List Env)(P:Program)(w:World)(H:Hp)(s:Shared)(Q:VK)(E:XK)(r:Result)(f:Shared):Prop:=
 match r with
 | .ok (.ret u)=>CE outer P w H s Q u f
 | .ok _=>False
 | .error e=>CX outer H s E e f
structure XO (P:Program) (w:World) (K:ZQ) (mg:ZU) (base:Heap) (CX:CXT) (k:Nat) (f:Addr) (fd:FuncData) (ps:ZZ) (sp:Sp):Prop where
 len:∀vs H Q E,sp vs H Q E->vs.length=ps.length
 run:∀(A:Around) (outer:List Env) (s:Shared) (H:Hp) (args:Args) (us:ZY) (vs:List V) (Q:VK) (E:XK),UH k A->Tj P w K mg base A outer s H->BindsTo s fd args (ps.zip us)->Vals vs us->sp vs H Q E->
  codeAny (model P w) A (.call (.ref f) args) (CR CX outer P w H s Q E) s
def XO.imp {K l base CX k f n ps sp g} (F:XO P w K l base CX k f n ps sp)
  (h:∀vs H Q E,g vs H Q E->sp vs H Q E):XO P w K l base CX k f n ps g:=
 ⟨λvs H Q E q=>F.len vs H Q E (h _ _ _ _ q),λA outer s H args o vs Q E u v x p r=>F.run A outer s H args o vs Q E u v x p (h _ _ _ _ r)⟩
def Tj.make {K f base A outer s H} (e:Tj P w K f base A outer s H) (C:Addr) (us:ZY) (g:List (Str×Value)) :
  Tj P w K f base (A.under<|.builtin "type.__call__" ⟨.ref C::us,g⟩) outer s H:=⟨by first|exact e.frames|(simpa [Around.under,Code.envs,Code.isFrame,pushEnvs]using e.frames),e.mod,e.bs,e.bsz,e.funs,e.frf,e.hok,e.bare⟩
section
variable {X:Cx}{pins:ZT}{σ:St}{H:Hp}{s s':Shared}
def Inv.env0 (I:Inv X pins σ H s):Tj X.prog X.w X.K X.mg X.base X.A X.stack s H:=
 ⟨I.ok.frames,I.ok.mod,I.bs,W9 I.ok.bsz I.sz,I.stack,I.stkFree,I.hok,I.bare⟩
def Inv.after (I:Inv X pins σ H s) (h:CE X.stack X.prog X.w H s Q u s'):EP X pins σ Q u s':=by
 obtain⟨v,n,os,bare,un,f,r,q⟩:=h;obtain⟨o,g,d,t,l⟩:=s';obtain rfl:=os;exact⟨v,n,I.call un f bare (λb z=>absurd z (by simp)),r,q⟩
end
noncomputable def P3(sp:Sp)(f:List V)(E:XK)(t:TA):TE:=λg H Q=>t g H λh l=>sp (h++f) l Q E
noncomputable def PL(C:Addr)(m:Str)(sp:Sp)(f:List V)(E:XK)(n:TE)(t:TA):TE:=λg H Q=>n g H λx h=>∃a o fs,x=.ref a/\h a=some (.ins C o fs)/\fs.lookup m=none/\
 t g h λl p=>sp (x::(l++f)) p Q E
noncomputable def FQ(C:Addr)(sp:Sp)(g:List V)(E:XK)(t:TA):TE:=λl H Q=>t l H λn h=>∀x f,h x=none->h f=none->f≠x->
 sp (.ref x::(n++g)) (upd (upd h f<|.own x) x<|.ins C f []) (λv o=>v=.non/\Q (.ref x) o) E
def Binds(K:ZQ)(g:FuncData)(ps:ZZ)(ds:ZY):Prop:=
 ∀(s:Shared) (f:ZY),K.In s.heap->(f++ds).length=ps.length->BindsTo s g ⟨f,[]⟩ (ps.zip (f++ds))
def Binds.all {K g ps} (h:∀us,us.length=ps.length->bindArgs g ⟨us,[]⟩=pure (ps.zip us)):Binds K g ps []:=λs us _ f=>by
 rw[Qn]at f ⊢;exact .of_eq (h us f)
def K0(CX:CXT)(X:Cx)(E:XK):Prop:=∀(pins:ZT) (g:St) (H:Hp) (s:Shared) (e:Value) (f:Shared),Inv X pins g H s->CX X.stack H s E e f->X.xe e f
section
variable {X:Cx}{CX:CXT}{k:Nat}{f C:Addr}{fd:FuncData}{ps:ZZ}{sp:Sp}{dvs:List V}{ds:ZY}{E:XK}{x m:Str}{p pos apos:Pos}{e o:Expr}{es:Ya}{ta:TE}{t:TA}
def FO{g:St}{H}{s}{Q}{us}{vs}(F:XO X.prog X.w X.K X.mg X.base CX k f fd ps sp)(v:UH k X.A)(B:Binds X.K fd ps ds)(z:Vals dvs ds)(hx:K0 CX X E)(I:Inv X pins g H s)(r:Vals vs us)(h:sp (vs++dvs) H Q E):wpAny (model X.prog X.w) X.A (call (.ref f) us) (EP X pins g Q) X.xe s:=by
 have l:=r.append z;have y:(us++ds).length=ps.length:=by rw[←l.length];exact F.len _ _ _ _ h
 refine wpAny_call (Vu (F.run X.A X.stack s H ⟨us,[]⟩ (us++ds) (vs++dvs) Q E v I.env0 (B s us I.kIn y) l h) λr n hq=>?_);cases r with
 |error e=>exact hx pins g H s e n I hq
 |ok G=>
  cases G with
  |ret u=>exact I.after hq
  |cont=>exact False.elim hq
  |_=>trivial
def Zf8(F:XO X.prog X.w X.K X.mg X.base CX k f fd ps sp)(v:UH k X.A)(B:Gl X x)(y:X.mg x=some (.ref f))(z:PySem.W.keepIn X.K (.ref f)=true)(L:Binds X.K fd ps ds)(J:Vals dvs ds)(hx:K0 CX X E)(M:PA X (e::es) t)(l:autoParam ((x==("__debug__" : Str))=false) au_1)(G:autoParam (starEach (e::es) X.env=(false,eval e X.env)::starEach es X.env) au_0)(g:autoParam ((backTo pos<|starEach es X.env).any (·.1)=false) au_0) :
  PE X (.Call (.Name x p) (e::es) [] pos) (P3 sp dvs E t):=by
 intro pins s u H Q I h;refine V8 (BF I B y ?_ l);refine Jm I.ok.mod.kin z (thn (M pos pins s u H _ I h) ?_) G g;rintro T U ⟨N,Y,n,r,q⟩;refine⟨n.kIn,?_⟩;exact FO F v L J hx n r q
def RO{pl}(U:PE X o ta)(c:Cls X.K C)(z:UU X.K C m f)(F:XO X.prog X.w X.K X.mg X.base CX k f fd ps sp)(T:UH k X.A)(hb:Binds X.K fd ps ds)(Y:Vals dvs ds)(hx:K0 CX X E)(ha:PA X (e::es) t)(g:autoParam (starEach (e::es) X.env=(false,eval e X.env)::starEach es X.env) au_0)(n:autoParam ((backTo pos<|starEach es X.env).any (·.1)=false) au_0)
  (N:autoParam (eval (.Call (.Attribute o m apos) (e::es) [] pos) X.env=(do
   let y ←eval o X.env
   standAt apos.atName
   let (f,first) ←holding [y] (getMethod y m pl)
   callWith pos f first (backTo pos<|starEach (e::es) X.env) (backToKw pos<|keywordEach [] X.env))) au_0) :
  PE X (.Call (.Attribute o m apos) (e::es) [] pos) (PL C m sp dvs E ta t):=by
 intro pins s v H Q I h;refine VX (thn (U pins s v H _ I h) ?_) N;rintro u J ⟨x,H1,G,L,a,dx,fs,ex,ea,l,q⟩;subst ex;obtain rfl:=L;refine AQ G ea c z l ?_;refine Jm I.ok.mod.kin z.kp (thn (ha pos pins J v H1 _ G q) ?_) g n;rintro us s2 ⟨vs,H2,B,r,M⟩;refine⟨B.kIn,?_⟩;exact FO (vs:=.ref a::vs) F T hb Y hx B (.cons rfl r) M
def Zla(G:PE X o ta)(c:Cls X.K C)(r:UU X.K C m f)(F:XO X.prog X.w X.K X.mg X.base CX k f fd ps sp)(B:UH k X.A)(L:Binds X.K fd ps ds)(J:Vals dvs ds)(hx:K0 CX X E)
  (z:autoParam (eval (.Call (.Attribute o m apos) [] [] pos) X.env=(do
   let n ←eval o X.env
   standAt apos.atName
   let (f,first) ←holding [n] (getMethod n m T)
   callWith pos f first (backTo pos<|starEach [] X.env) (backToKw pos<|keywordEach [] X.env))) au_0) :
  PE X (.Call (.Attribute o m apos) [] [] pos) (PL C m sp dvs E ta XT):=by
 intro pins s v H Q I h;refine VX (thn (G pins s v H _ I h) ?_) z;rintro u N ⟨x,Y,g,y,a,U,fs,ex,M,l,q⟩;subst ex;obtain rfl:=y;refine AQ g M c r l ?_;exact PySem.W.callWith_K0 g.kIn r.kp (FO (vs:=[.ref a]) F B L J hx g (.cons rfl .nil) q)
structure Mk (K:ZQ) (C f:Addr):Prop where
 makes:PySem.W.makesIn K C=true
 init:PySem.W.findIn K (.ref C) "__init__"=some (some<|.ref f)
 fn:PySem.W.isFn K (.ref f)=true
 kp:PySem.W.keepIn K (.ref C)=true
def OV{y:St}{H}{s}{Q}{us}{vs}(M:Mk X.K C f)(F:XO X.prog X.w X.K X.mg X.base CX k f fd ps sp)(L:UH (k+1) X.A)(U:Binds X.K fd ps ds)(T:Vals dvs ds)(hx:K0 CX X E)(I:Inv X pins y H s)(r:Vals vs us)(h:∀x l,H x=none->H l=none->l≠x->sp (.ref x::(vs++dvs)) (upd (upd H l<|.own x) x<|.ins C l []) (λv H2=>v=.non/\Q (.ref x) H2) E) :
  wpAny (model X.prog X.w) X.A (call (.ref C) us) (EP X pins y Q) X.xe s:=by
 have hq:=h (s.heap.objs.size+1) s.heap.objs.size (I.hok.fresh<|VQ _) (I.hok.fresh<|W5 _) (WV<|Ve _);have n:=Inv.made (C:=C) I;have z:Vals (V.ref (s.heap.objs.size+1)::(vs++dvs)) (Value.ref (s.heap.objs.size+1)::(us++ds)):=.cons rfl (r.append T)
 have N:(Value.ref (s.heap.objs.size+1)::us++ds).length=ps.length:=by
  have e:=z.length;rw[F.len _ _ _ _ hq]at e
  grind
 refine wpAny_call (Zbe I.kIn M.makes M.init (beq_iff_eq.mp M.fn) (Vu (F.run _ X.stack _ _ ⟨Value.ref (s.heap.objs.size+1)::us,[]⟩ (Value.ref (s.heap.objs.size+1)::(us++ds)) _ _ E (L.make C us [])
  (n.env0.make C us []) (U _ (Value.ref (s.heap.objs.size+1)::us) n.kIn N) z hq) λr B g=>?_))
 cases r with
 |error e=>exact hx pins y _ _ e B n g
 |ok Y=>
  cases Y with
  |ret u=>
   obtain⟨v,H',I3,G,ev,J⟩:=n.after g;subst ev;exact⟨G,⟨V.ref (s.heap.objs.size+1),H',I3,rfl,J⟩⟩
  |_=>exact False.elim g
def Zi2(M:Mk X.K C f)(F:XO X.prog X.w X.K X.mg X.base CX k f fd ps sp)(v:UH (k+1) X.A)(z:Gl X x)(y:X.mg x=some (.ref C))(J:Binds X.K fd ps ds)(G:Vals dvs ds)(hx:K0 CX X E)(L:PA X (e::es) t)(l:autoParam ((x==("__debug__" : Str))=false) au_1)(B:autoParam (starEach (e::es) X.env=(false,eval e X.env)::starEach es X.env) au_0)(g:autoParam ((backTo pos<|starEach es X.env).any (·.1)=false) au_0) :
  PE X (.Call (.Name x p) (e::es) [] pos) (FQ C sp dvs E t):=by
 intro pins s u H Q I h;refine V8 (BF I z y ?_ l);refine Jm I.ok.mod.kin M.kp (thn (L pos pins s u H _ I h) ?_) B g;rintro T U ⟨N,Y,n,r,q⟩;refine⟨n.kIn,?_⟩;exact OV M F v J G hx n r q
end
structure U7 (N P:ZZ) (sc:Scope):Prop where
 kind:sc.kind=.function
 co:sc.isCoroutine=false
 gen:sc.isGenerator=false
 nd:N.Nodup
 pre:N.take P.length=P
 par:∀x∈P,sc.names.lookup x=some .local\/sc.names.lookup x=some .cell
 nofree:∀y∈sc.names,y.2≠.free
theorem Ht{kindOf x}:∀{binds}{m:ZU},(∀v,(x,v)∉binds)->bindL kindOf binds m x=m x
 |[],_,_=>rfl
 |(n,v)::r,m,h=>by
  unfold bindL;rw[Ht λw hw=>h w (WK _ hw)];split
  ·grind
  ·rfl
theorem ED{kindOf x}:∀{binds}{m:ZU},(∀v,(x,v)∉binds)->bindC kindOf binds m x=m x
 |[],_,_=>rfl
 |(n,v)::r,m,h=>by
  unfold bindC;rw[ED λw hw=>h w (WK _ hw)];split
  ·rfl
  ·grind
theorem DJ{kindOf}{x}{v}:∀{P:ZZ}{vs}{i:Nat}{m:ZU},P.Nodup->P[i]?=some x->vs[i]?=some v->kindOf x=some .local->
  bindL kindOf (P.zip vs) m x=some v
 |[],_,_,_,_,h,_,_|_::_,[],_,_,_,_,h,_=>by simp at h
 |p::P,w::vs,0,m,f,n,l,g=>by
  simp at n l;subst n;subst l;show bindL kindOf ((p,w)::P.zip vs) m p=_;unfold bindL;rw[Ht λv o=>(Qg.mp f).1 (List.of_mem_zip o).1,W3 g];simp
 |p::P,w::vs,i+1,m,f,n,l,g=>by
  unfold bindL;exact DJ (Qg.mp f).2 (by trivial) (by grind) g
theorem Hc{kindOf}{x}{v}:∀{P:ZZ}{vs}{i:Nat}{m:ZU},P.Nodup->P[i]?=some x->vs[i]?=some v->kindOf x≠some .local->
  bindC kindOf (P.zip vs) m x=some v
 |[],_,_,_,_,h,_,_|_::_,[],_,_,_,_,h,_=>by simp at h
 |p::P,w::vs,0,m,f,n,l,g=>by
  simp at n l;subst n;subst l;show bindC kindOf ((p,w)::P.zip vs) m p=_;unfold bindC;rw[ED λv o=>(Qg.mp f).1 (List.of_mem_zip o).1,W2 g];simp
 |p::P,w::vs,i+1,m,f,n,l,g=>by
  unfold bindC;exact Hc (Qg.mp f).2 (by trivial) (by grind) g
noncomputable def start(N:ZZ)(vs:List V):St:=vs.map some++List.replicate (N.length-vs.length) none
noncomputable def Xj(CX:CXT)(P:Program)(w:World)(K:ZQ)(mg:ZU)(base:Heap)(N:ZZ)(qual:Str)(scope:Scope)(f:Addr)(cd:Value)(A:Around)(outer:List Env)(s:Shared)(H:Hp)(E:XK):Cx where
 prog:=P
 w:=w
 K:=K
 mg:=mg
 base:=base
 A:=A.deeper (envOfC qual scope s.heap.objs.size f cd)
 N:=N
 s₀:=s
 H₀:=H
 env:=envOfC qual scope s.heap.objs.size f cd
 outer:=outer
 stack:=envOfC qual scope s.heap.objs.size f cd::outer
 ex:=[]
 calm:=true
 fn:=λ_=>true
 pn:=[]
 xe:=λe s'=>wpAny (model P w) (A.deeper<|envOfC qual scope s.heap.objs.size f cd) (leaving (envOfC qual scope s.heap.objs.size f cd) e) (λ_ s''=>CX outer H s E e s'') (λe' s''=>CX outer H s E e' s'') s'
def HM{f:Scope}{n}{x}(h:f.names.lookup x=some .cell):∃c,(cellsFrom n f.names []).lookup x=some c:=by
 exact Option.isSome_iff_exists.mp (PySem.W.cellsFrom_some f.names n []<|.inl h)
def Zlv{P}{w}{K}{mg}{base}{N ps}{qual}{scope}{f}{cd}{A}{outer}{s L}{H}{E}{us}{vs}(S:U7 N ps scope)(Y:A.handled=none)(l:Tj P w K mg base A outer s H)(hl:vs.length=ps.length)(r:Vals vs us)(x:InCallC s s.heap.objs.size (bindL (envOfC qual scope s.heap.objs.size f cd).kindOf (ps.zip us) λ_=>none) (cellsFrom (s.heap.objs.size+1) scope.names []) (bindC (envOfC qual scope s.heap.objs.size f cd).kindOf (ps.zip us) λ_=>none) L) :
  Inv (Xj CX P w K mg base N qual scope f cd A outer s H E) [] (start N vs) H L:=by
 have U:ps.length<=N.length:=by have:=Qk List.length S.pre;rw[WS]at this;lia
 obtain⟨J,tk,rfl,Q⟩:=x.done;have n:∀b,b∉(Xj CX P w K mg base N qual scope f cd A outer s H E).ex:=λb z=>absurd (show b∈([]:List Addr)from z) (by simp)
 refine⟨⟨l.mod,S.kind,rfl,rfl,W5 _,λy z c J g=>?_,λy o=>?_,λy c _ h=>?_,λ_=>Y,Around.frames_deeper l.frames,.inr ⟨rfl,rfl⟩,λb z=>absurd z (n b),l.bs,l.bsz,λb _ _=>n b,λb z=>absurd z (n b),l.funs,l.frf⟩,
  rfl,l.bare,Un.kept Q,⟨_,x.toInCall.ns,λi y v J g h3=>?_⟩,λy c h=>⟨_,x.cell y c h⟩,l.hok.fresh (W5 _),λy c h=>?_,λp C=>absurd (show p∈([]:ZT)from C) (by simp),l.hok.kept Q,?_⟩
 ·exact name_of_addr x.apart (QO J) (QO g)
 ·have o:=o;rcases o with o|o
  ·exact HM o
  ·exact absurd rfl (S.nofree _<|QO o)
 ·exact V7 (x.above y c<|QO h)
 ·have G:i<vs.length:=by
   unfold start at g;by_cases G:i<vs.length
   ·exact G
   ·rw[Qh (by simpa using G)]at g;rw[Vm]at g;split at g<;>cases g
  have ha:vs[i]?=some v:=by
   unfold start at g;rw[Qb (by simpa using G),W6]at g;cases e:vs[i]? with
   |none=>rw[e]at g;cases g
   |some a=>rw[e]at g;cases g;rfl
  obtain⟨u,M,T⟩:=r.get ha
  have C:ps[i]?=some y:=by
   rw[←S.pre,QI (by lia)];exact J
  have B:ps.Nodup:=by rw[←S.pre];exact S.nd.sublist (QX _ _)
  refine⟨u,T,?_⟩;rcases S.par y (W4 C)with k|k
  ·exact .inl ⟨k,DJ B C M k⟩
  ·obtain⟨c,e⟩:=HM k;refine .inr ⟨.inl k,c,e,?_⟩;have q:=x.cell y c e;rw[Hc B C M (by show scope.names.lookup y≠_;rw[k];decide)]at q;exact q
 ·exact l.hok.fresh (V7<|x.above y c<|QO h)
 ·unfold start;show _=N.length;rw[W7,Wt,List.length_replicate];lia
def AZ{K M base k f name qual params body scope dV kV L pm g ct oc an od Y N ps sp}(lk:K.lookup f=some ⟨oc,od,.func (PySem.W.fnOf name qual params body scope dV kV L pm an g ct),Y⟩)(hcd:PySem.W.codeIn K g qual=true)(S:U7 N ps scope)(len:∀vs H Q E,sp vs H Q E->vs.length=ps.length)
  (p:∀A outer s H vs Q E,UH k (A.deeper<|envOfC qual scope s.heap.objs.size f g)->sp vs H Q E->
   ∃t,PSs (Xj CX P w K M base N qual scope f g A outer s H E) body t/\t {nx:=λ_ H'=>Q .non H',rt:=Q} (start N vs) H) :
  XO P w K M base CX (k+1) f (PySem.W.fnOf name qual params body scope dV kV L pm an g ct) ps sp:=by
 refine⟨len,λA outer s H args us vs Q E hr G hb r z=>?_⟩;have KX:=G.mod.kin.keeps λb o e=>(G.bs b o e).1
 have l:∀y∈ps.zip us,scope.names.lookup y.1=some .local\/(scope.names.lookup y.1=some .cell/\((cellsFrom (s.heap.objs.size+1) scope.names []).lookup y.1).isSome=true):=λ⟨n,v⟩ hy=>by
  rcases S.par n (List.of_mem_zip hy).1 with q|q
  ·exact .inl q
  ·exact .inr ⟨q,PySem.W.cellsFrom_some _ _ _ (.inl q)⟩
 refine codeAny_call_function hr.depth (KX _ _ lk) rfl S.co S.gen rfl (PySem.W.codeRec_of KX hcd) (hb _ _ _ _ ?_);refine wpAny_newFunctionEnv_cells S.kind l λenv he s1 x=>?_;subst he;refine⟨(G.mod.nolimit.keeps λb o e=>(G.bs b o e).1).keeps x.toInCall.keep,codeAny_func ?_⟩;obtain⟨t,ht,hq⟩:=p A outer s H vs Q E (hr.deeper _) z;have I:Inv (Xj CX P w K M base N qual scope f g A outer s H E) [] (start N vs) H s1:=Zlv S hr.hd G (len _ _ _ _ z) r x;refine Qv (ht [] s1 (start N vs) H _ I hq) (λfl T B=>?_) λe T B=>B
 have C:∀{h:St} {H':Hp} {v:V} {u:Value},Inv (Xj CX P w K M base N qual scope f g A outer s H E) [] h H' T->RelV v u->Q v H'->CE outer P w H s Q u T:=
  λ{h H' v u} J U q=>⟨v,H',J.os,J.bare,J.base,J.hok,U,q⟩
 cases fl with
 |ret u=>
  obtain⟨v,h,H',J,U,q⟩:=B;exact C J U q
 |next=>
  obtain⟨h,H',J,q⟩:=B;exact C (v:=V.non) J rfl q
 |_=>
  obtain⟨_,_,_,q⟩:=B;exact False.elim q
section
variable {X:Cx}{x:Str}{p pos:Pos}{e:Expr}{es:Ya}{t:TA}{id T:String}{r:List V->Hp->VK->Prop}
noncomputable def tCB(r:List V->Hp->VK->Prop)(t:TA):TE:=λf H Q=>t f H λg h=>r g h Q
def Xw(E:X5 X (.builtin id) r)(B:Gl X x)(A:X.mg x=none)(y:bootBuiltins x=some (.builtin id))(G:PA X (e::es) t)(z:autoParam (x≠"__name__") au_1)(g:autoParam ((x==("__debug__" : Str))=false) au_1)(C:autoParam (starEach (e::es) X.env=(false,eval e X.env)::starEach es X.env) au_0)(f:autoParam ((backTo pos<|starEach es X.env).any (·.1)=false) au_0):PE X (.Call (.Name x p) (e::es) [] pos) (tCB r t):=by
 intro pins s l H Q I h;refine V8 (N6 I B A y ?_ z g);exact PyProof.Rows.callWith_builtin1 (thn (G pos pins s l H _ I h) λo u ⟨n,L,J,v,w⟩=>E pins u l L n o Q J v w) C f
def KU(E:X5 X (.type T) r)(B:Gl X x)(A:X.mg x=none)(y:bootBuiltins x=some (.type T))(G:PA X (e::es) t)(z:autoParam (x≠"__name__") au_1)(g:autoParam ((x==("__debug__" : Str))=false) au_1)(C:autoParam (starEach (e::es) X.env=(false,eval e X.env)::starEach es X.env) au_0)(f:autoParam ((backTo pos<|starEach es X.env).any (·.1)=false) au_0):PE X (.Call (.Name x p) (e::es) [] pos) (tCB r t):=by
 intro pins s l H Q I h;refine V8 (N6 I B A y ?_ z g);exact V0 (thn (G pos pins s l H _ I h) λo u ⟨n,L,J,v,w⟩=>E pins u l L n o Q J v w) C f
end
end L2
namespace HT
open PySem PyProof.Rows
section
variable {prog:Program}{w:World}{A:Around}{E:ZV}{s:Shared}
def Ze8(C:IsTup s.heap t vs.toArray)(G:IsTup s.heap b g.toArray)(v:vs≠[])(H:g=[]->Q (.ref t) s)(J:g≠[]->Q (.ref s.heap.objs.size) {s with heap:=s.heap.push {cls:=.type "tuple",data:=.seq (vs++g).toArray}})(hsz:vs.length+g.length<=sizeLine):wpAny (model prog w) A (binaryOp .Add (.ref t)<|.ref b) Q E s:=by
 obtain⟨⟨cls,z,data,sl⟩,r,y,n,x⟩:=id C;obtain⟨⟨B,p,data2,h⟩,f,o,u,l⟩:=id G;simp only at y x o l;subst y x o l;by_cases hw:g=[]
 ·exact concat_meets ⟨_,r,rfl⟩ ⟨_,f,rfl⟩ noFill_tuple_add seq_tuple_add VR VG (V9 _ _)
   (tuple_addW1 t b vs.toArray g.toArray n u z p sl h (by simpa using v)<|by simp[hw]) ⟨r,f,H hw⟩
 ·refine concat_meets ⟨_,r,rfl⟩ ⟨_,f,rfl⟩ noFill_tuple_add seq_tuple_add VR VG (V9 _ _)
   (tuple_addW2 t b vs.toArray g.toArray n u z p sl h (by simpa using v) (by simpa using hw)<|by omega) ⟨r,f,?_⟩
  grind
noncomputable def sIx(n d:Nat):Option Int->Nat
 |none=>d
 |some v=>if v<0 then(v+(n:Int)).toNat else min v.toNat n
def IJ(n d:Nat):sIx n d none=d:=rfl
def BI(n d k:Nat):sIx n d (some (k:Int))=min k n:=rfl
end
end HT
namespace L2
open PySem PySem.Spec PyProof.Rows
abbrev TO:=St->Hp->(Option Int->Hp->Prop)->Prop
def PO(X:Cx)(e:Option Expr)(t:TO):Prop:=
 ∀(pins:ZT) (s:Shared) (f:St) (H:Hp) (Q:Option Int->Hp->Prop),Inv X pins f H s->t f H Q->
  wpAny (model X.prog X.w) X.A (evalPart e X.env) (λu h=>∃o g,Inv X pins f g h/\IsPart u o/\Q o g) X.xe s
noncomputable def EJ:TO:=λ_ H Q=>Q none H
noncomputable def ME(t:TE):TO:=λf H Q=>t f H λx g=>∃i,x=.int i/\Q (some i) g
def BK:∀{us:ZY},Vals (ns.map V.int) us->IntsAre us ns:=by
 induction ns with
 |nil=>intro us r;rw[List.map_nil]at r;cases r;exact .nil
 |cons n ns h=>
  intro us r;cases r with
  |cons g f=>
   obtain⟨t,e⟩:=g;subst e;exact .cons n t (h f)
section
variable {X:Cx}{e:Expr}{te:TE}{lo hi:Option Expr}{tl th:TO}{pos p2:Pos}
def Ir:PO X none EJ:=by
 intro pins s f H Q I h;exact W1 ⟨none,H,I,.none,h⟩
def Bf(h:PE X e te):PO X (some e) (ME te):=by
 intro pins s f H Q I hw;refine thn (h pins s f H _ I hw) ?_;rintro u p ⟨x,o,n,g,l⟩;obtain⟨i,rfl,q⟩:=l;obtain⟨t,rfl⟩:=g;exact⟨some i,o,n,.int i t,q⟩
def SlR(X:Cx)(r:V->Option Int->Option Int->Hp->VK->Prop):Prop:=
 ∀(pins:ZT) (s:Shared) (f:St) (H:Hp) (x:V) (v h g:Value) (lo hi:Option Int) (sl:Addr) (Q:VK),Inv X pins f H s->RelV x v->s.heap.IsSliceOf sl h g .none->IsPart h lo->IsPart g hi->r x lo hi H Q->
  ∃T id,typeLookup (.type T) "__getitem__"=pure (some<|.builtin id)/\s.TypeIs v T/\wpAny (model X.prog X.w) X.A (getItem v<|.ref sl) (EP X pins f Q) X.xe s
noncomputable def tSl(r:V->Option Int->Option Int->Hp->VK->Prop)(te:TE)(tl th:TO):TE:=λf H Q=>te f H λx n=>tl f n λl h=>th f h λu g=>r x l u g Q
def Cd(M:SlR X r)(Y:PE X e te)(N:PO X lo tl)(J:PO X hi th):PE X (.Subscript e (.Slice lo hi none p2) pos) (tSl r te tl th):=by
 intro pins s f H Q I h;refine Subscript_ (thn (Y pins s f H _ I h) ?_);rintro v y ⟨x,H1,I1,z,C⟩;refine wpAny_Slice (thn (N pins y f H1 _ I1 C) ?_);rintro o w ⟨l,H2,I2,G,B⟩;refine thn (J pins w f H2 _ I2 B) ?_;rintro n g ⟨u,p,I3,E,A⟩;refine W1 ?_;have I4:Inv X pins f p {g with heap:=g.heap.push {cls:=.type "slice",data:=.fields #[o,n,.none]}}:=I3.kept λb ob q=>Wz _ q
 obtain⟨T,id,hT,L,U⟩:=M pins {g with heap:=g.heap.push {cls:=.type "slice",data:=.fields #[o,n,.none]}} f p x v o n l u g.heap.objs.size Q I4 z (Heap.IsSliceOf.new ..) G E A
 exact tail_any L hT U rfl
noncomputable def Pn(xs:List V)(lo hi:Option Int):List V:=(xs.drop<|HT.sIx xs.length 0 lo).take (HT.sIx xs.length xs.length hi-HT.sIx xs.length 0 lo)
def Zbk(xs:List V)(lo hi:Option Int):(Pn xs lo hi).length<=xs.length:=by
 unfold Pn
 grind
noncomputable def Zdo(K:ZQ):R2:=λx y H Q=>∃a b xs f,x=.ref a/\y=.ref b/\SqT K H a xs/\SqT K H b f/\xs≠[]/\xs.length+f.length<=sizeLine/\
 (f=[]->Q (.ref a) H)/\(f≠[]->∀p,H p=none->Q (.ref p) (upd H p<|.tup (xs++f)))
def Vals.nil_iff (r:Vals xs us):us=[]↔xs=[]:=by
 cases r with
 |_=>simp
def Zcx:OpR X (binaryOp .Add) (Zdo X.K):=by
 intro pins s J H x y v u Q I p o h;obtain⟨a,b,xs,L,rfl,rfl,G,E,hx,n,A,r⟩:=h;cases p
 cases o
 obtain⟨C,g,B,_⟩:=I.tuple G;obtain⟨l,f,p2,_⟩:=I.tuple E;refine HT.Ze8 B p2 (λz=>hx (g.nil_iff.mp z)) (λz=>⟨.ref a,H,I,rfl,A (f.nil_iff.mp z)⟩) (λz=>?_) (by rw[←g.length,←f.length];exact n);refine⟨.ref s.heap.objs.size,_,I.laid (λb M q=>Wz _ q) (W5 _) ?_,rfl,r (λw=>z (f.nil_iff.mpr w)) _ (I.hok.fresh<|W5 _)⟩;exact⟨by rw[W7];exact n,_,g.append f,IsTup.new _ _⟩
end
noncomputable def ixN(n:Nat)(i:Int):Option Nat:=if 0<=i then(if i<n then some i.toNat else none)else if -(n:Int)<=i then some (i+n).toNat else none
noncomputable def atI{f:Type}(xs:List f)(i:Int):Option f:=(ixN xs.length i).bind λj=>xs[j]?
def MR(h:ixN n i=some j):seqIndex? i n=some j/\j<n/\-(n:Int)<=i/\i<n:=by
 unfold ixN at h;by_cases g:0<=i
 ·rw[W3 g]at h;by_cases f:i<n
  ·rw[W3 f]at h;have e:=WB h;exact⟨by rw[seqIndex_of g f,e],by lia,by lia,f⟩
  ·grind
 ·rw[W2 g]at h;by_cases f:-(n:Int)<=i
  ·rw[W3 f]at h;have e:=WB h;exact⟨by rw[seqIndex_neg (by lia) f,e],by lia,f,by lia⟩
  ·grind
def GF(h:atI xs i=some v):∃j,seqIndex? i xs.length=some j/\xs[j]?=some v/\j<xs.length/\-(xs.length:Int)<=i/\i<xs.length:=by
 unfold atI at h;cases e:ixN xs.length i with
 |none=>grind
 |some j=>
  obtain⟨n,l,g,f⟩:=MR e
  grind
def Sq{j:Nat}{v}(h:xs[j]?=some v):atI xs (j:Int)=some v:=by
 have e:ixN xs.length (j:Int)=some j:=by
  unfold ixN
  grind
 unfold atI;rw[e];exact h
def AK(b:Expr):Prop:=∀o i,subscripted b false o i=operate [o,i] (getItem o i)
def IxR(X:Cx)(r:R2):Prop:=
 ∀(value slice:Expr) (pins:ZT) (s:Shared) (f:St) (H:Hp) (x y:V) (v u:Value) (Q:VK),Inv X pins f H s->RelV x v->RelV y u->r x y H Q->
  subscripted slice false v u=operate [v,u] (getItem v u)->wpAny (model X.prog X.w) X.A (subscriptTail value slice v u) (EP X pins f Q) X.xe s
def MtR(X:Cx)(id:String)(r:V->List V->Hp->VK->Prop):Prop:=
 ∀(pins:ZT) (s:Shared) (f:St) (H:Hp) (x:V) (xs:List V) (v:Value) (g:ZY) (Q:VK),Inv X pins f H s->RelV x v->Vals xs g->r x xs H Q->
  wpAny (model X.prog X.w) X.A (call (.builtin id) (v::g)) (EP X pins f Q) X.xe s
section
variable {X:Cx}{a b:Expr}{ta tb:TE}{pos:Pos}
def IxR.or (h:IxR X r) (p:IxR X o):IxR X (λx y H Q=>r x y H Q\/o x y H Q):=by
 intro value slice pins s f H x y v u Q I l g q n;rcases q with q|q
 ·exact h value slice pins s f H x y v u Q I l g q n
 ·exact p value slice pins s f H x y v u Q I l g q n
def IQ(o:IxR X r)(w:PE X a ta)(p:PE X b tb)(hs:AK b):PE X (.Subscript a b pos) (tOp r ta tb):=by
 intro pins s f H Q I h;exact Subscript_ (AI w p I h λv u g x y A z n l q=>o a b pins g f A x y v u Q z n l q (hs _ _))
noncomputable def T3(K:ZQ):R2:=λx y H Q=>∃p xs i v,x=.ref p/\y=.int i/\SqL K H p xs/\atI xs i=some v/\Q v H
noncomputable def Tg(K:ZQ):R2:=λx y H Q=>∃p xs i v,x=.ref p/\y=.int i/\SqT K H p xs/\atI xs i=some v/\Q v H
def ix_list:IxR X (T3 X.K):=by
 intro value slice pins s G H x y v u Q I L J h B;obtain⟨p,xs,i,z,rfl,rfl,hq,N,q⟩:=h;cases L
 obtain⟨t,rfl⟩:=J;obtain⟨o,r,n,hz⟩:=I.list hq;obtain⟨j,g,Y,h3,U,T⟩:=GF N;obtain⟨w,E,l⟩:=r.get Y;have M:=r.length;have hn:=SR;have f:EP X pins G Q w s:=⟨z,H,I,l,q⟩;by_cases C:0<=i
 ·have A:i.toNat=j:=by
   rw[seqIndex_of C T]at g;exact WB g
  exact item_listR n.isList C (by lia) (by rw[A];simpa using E) f B
 ·have A:(i+(o.toArray.size:Int)).toNat=j:=by
   rw[seqIndex_neg (by lia) U]at g;rw[WX,←M];exact WB g
  exact subscriptTail_builtinR n.isList.typeIs slot_list_getitem.lookup
   (wpAny_getItem_list_neg n.isList (by lia) (by rw[WX]<;>lia) (by lia) (by rw[A];simpa using E) ⟨rfl,f⟩) B
def Zcu:IxR X (Tg X.K):=by
 intro value slice pins s n H x y v u Q I A o h C;obtain⟨p,xs,i,z,rfl,rfl,hq,E,q⟩:=h;cases A
 obtain⟨t,rfl⟩:=o;obtain⟨B,r,l,L⟩:=I.tuple hq;obtain⟨j,J,G,U,T,N⟩:=GF E;obtain⟨w,Y,f⟩:=r.get G;have M:=SR;have g:EP X pins n Q w s:=⟨z,H,I,f,q⟩
 exact subscriptTail_builtinR l.typeIs slot_tuple_getitem.lookup
  (getItem_tuple l (by lia) (by lia) (by rw[WX,←r.length];exact J) (by grind) ⟨rfl,g⟩) C
def Zfp(f:ZY)(n j:Nat)(u:Value):Obj.mapSeq (·.setIfInBounds j u) {cls:=.type "list",data:=.seq f.toArray n}={cls:=.type "list",data:=.seq (f.set j u).toArray n}:=by
 simp[Obj.mapSeq]
def Inv.lst {g:St}{H}{s}{p}{xs} (I:Inv X pins g H s) (h:H p=some (.lst xs)) :
  ∃f n,Vals xs f/\s.heap.get? p=some {cls:=.type "list",data:=.seq f.toArray n}/\xs.length<=sizeLine:=by
 obtain⟨z,f,n,r,e⟩:=I.hok p _ h
 grind
def Inv.lstUpd {v:St}{H}{s}{p}{xs ys}{l g:ZY}{n o}{f} (I:Inv X pins v H s) (h:H p=some (.lst xs))
  (y:s.heap.get? p=some {cls:=.type "list",data:=.seq l.toArray n}) (w:f {cls:=.type "list",data:=.seq l.toArray n}={cls:=.type "list",data:=.seq g.toArray o}) (r:Vals ys g) (x:ys.length<=sizeLine) (t:Nat) :
  Inv X pins v (upd H p<|.lst ys) {s with heap:=s.heap.update p f,toks:=t}:=by
 have e:(s.heap.update p f).get? p=some {cls:=.type "list",data:=.seq g.toArray o}:=by
  rw[Qo f y (by rw[w]<;>rfl),w]
 refine I.write (by rw[h];trivial) (.inl rfl) (λb u z q=>(Qs _ _<|Ne.symm z).trans q) ⟨_,e⟩ ?_;exact⟨x,g,o,r,e⟩
def D3:V->V->V->Hp->(Hp->Prop)->Prop:=λo i v H Q=>∃p xs k j,o=.ref p/\i=.int k/\H p=some (.lst xs)/\ixN xs.length k=some j/\Q (upd H p<|.lst<|xs.set j v)
def M0:E2 X D3:=by
 intro pins s M H o i v N T u Q I G ri E h;obtain⟨p,xs,k,j,rfl,rfl,y,L,q⟩:=h;cases G
 obtain⟨t,rfl⟩:=ri;obtain⟨f,n,r,l,J⟩:=I.lst y;obtain⟨g,Y,A,z⟩:=MR L;have w:=r.length;have U:=SR
 have C:=
  I.lstUpd y l (Zfp f n j u) (r.set E j) (by rw[Q0];exact J) s.toks
 by_cases B:0<=k
 ·have x:k.toNat=j:=by
   rw[seqIndex_of B z]at g;exact WB g
  exact PySem.W.ki_setAt l B (by lia) (by rw[WX,←w];exact z) (by rw[x];exact⟨_,C,q⟩)
 ·have x:(k+(f.toArray.size:Int)).toNat=j:=by
   rw[seqIndex_neg (by lia) A]at g;rw[WX,←w];exact WB g
  exact PySem.W.ki_setBack l (by lia) (by rw[WX,←w];exact A) (by lia) (by rw[x];exact⟨_,C,q⟩)
def Zhe(lo f:Option Int)(n:Nat):(sliceBounds lo f none n).1=((HT.sIx n 0 lo:Nat):Int)/\(sliceBounds lo f none n).2.1=((HT.sIx n n f:Nat):Int)/\(sliceBounds lo f none n).2.2=1:=by
 refine⟨?_,?_,rfl⟩
 ·cases lo with
  |none=>simp[sliceBounds,HT.sIx]
  |some i=>
   simp only[sliceBounds,HT.sIx,Option.getD_none,show(1:Int)>0 by decide,if_true];by_cases h:i<0
   ·grind
   ·simp only[h,VU]<;>lia
 ·cases f with
  |none=>simp[sliceBounds,HT.sIx]
  |some i=>
   simp only[sliceBounds,HT.sIx,Option.getD_none,show(1:Int)>0 by decide,if_true];by_cases h:i<0
   ·simp only[h,if_true]<;>lia
   ·simp only[h,VU]<;>lia
def Zlg(f:ZY)(lo g:Option Int):slicePick f.toArray lo g none=((f.drop<|HT.sIx f.length 0 lo).take (HT.sIx f.length f.length g-HT.sIx f.length 0 lo)).toArray:=by
 obtain⟨n,l,h⟩:=Zhe lo g f.toArray.size;unfold slicePick;rw[n,l,h];simp only[sliceRange_one,pick_run,WX]<;>rfl
def N0(K:ZQ):V->Option Int->Option Int->Hp->VK->Prop:=λx lo f H Q=>∃a xs,x=.ref a/\SqL K H a xs/\∀p,H p=none->Q (.ref p) (upd H p<|.lst<|Pn xs lo f)
def Zap:SlR X (N0 X.K):=by
 intro pins s z H x v B A lo l sl Q I n y p o h;obtain⟨a,xs,rfl,hx,q⟩:=h;cases n
 obtain⟨u,r,g,w⟩:=I.list hx;have f:=r.length;refine⟨"list",_,slot_list_getitem.lookup,g.isList.typeIs,?_⟩;refine wpAny_getItem_list_slice g.isList y p o .none (by simp) ?_ (by grind);rw[Zlg,←f];refine⟨.ref s.heap.objs.size,_,I.laid (λb C q=>Wz _ q) (W5 _) ?_,rfl,q _ (I.hok.fresh<|W5 _)⟩;exact⟨W9 (Zbk xs lo l) w,_,0,(r.drop<|HT.sIx xs.length 0 lo).take (HT.sIx xs.length xs.length l-HT.sIx xs.length 0 lo),WD _ rfl⟩
noncomputable def Ks:V->Bool
 | .non=>true
 | .bl _=>true
 | .int _=>true
 | .str _=>true
 |_=>false
noncomputable def eqV:V->V->Bool
 | .non,.non=>true
 | .bl a,.bl b=>a==b
 | .bl a,.int b=>(if a then 1 else 0)==b
 | .int a,.bl b=>a==(if b then 1 else 0)
 | .int a,.int b=>a==b
 | .str a,.str b=>a==b
 |_,_=>false
def Gz{y x u v}(h:RelV y u)(f:RelV x v)(fy:Ks y=true)(l:Ks x=true):SeqAt.EqAt A s u v (eqV y x):=by
 cases y with
 |non=>
  cases h
  cases x with
  |non=>cases f;exact SeqAt.EqAt.same _
  |bl b=>cases f;exact SeqAt.EqAt.none_bool b
  |int b=>obtain⟨t,rfl⟩:=f;exact SeqAt.EqAt.none_int b t
  |str b=>obtain⟨t,rfl⟩:=f;exact SeqAt.EqAt.none_str b t
  |_=>exact absurd l WN
 |bl a=>
  cases h
  cases x with
  |non=>cases f;exact SeqAt.EqAt.bool_none a
  |bl b=>cases f;exact SeqAt.EqAt.bool_bool a b
  |int b=>obtain⟨t,rfl⟩:=f;exact SeqAt.EqAt.bool_int a b t
  |str b=>obtain⟨t,rfl⟩:=f;exact SeqAt.EqAt.bool_str a b t
  |_=>exact absurd l WN
 |int a=>
  obtain⟨g,rfl⟩:=h;cases x with
  |non=>cases f;exact SeqAt.EqAt.int_none a g
  |bl b=>cases f;exact SeqAt.EqAt.int_bool a g b
  |int b=>obtain⟨t,rfl⟩:=f;exact SeqAt.EqAt.int_int a g b t
  |str b=>obtain⟨t,rfl⟩:=f;exact SeqAt.EqAt.int_str a g b t
  |_=>exact absurd l WN
 |str a=>
  obtain⟨g,rfl⟩:=h;cases x with
  |non=>cases f;exact SeqAt.EqAt.str_none a g
  |bl b=>cases f;exact SeqAt.EqAt.str_bool a g b
  |int b=>obtain⟨t,rfl⟩:=f;exact SeqAt.EqAt.str_int a g b t
  |str b=>obtain⟨t,rfl⟩:=f;exact SeqAt.EqAt.str_str a g b t
  |_=>exact absurd l WN
 |_=>exact absurd fy WN
noncomputable def eqU(x:V)(u:Value):Bool:=match u with
 | .none=>eqV .non x
 | .bool b=>eqV (.bl b) x
 | .int i _=>eqV (.int i) x
 | .str z _=>eqV (.str z) x
 |_=>false
def GT{x y u}(r:RelV y u)(f:Ks y=true):eqU x u=eqV y x:=by
 cases y with
 |non|bl b=>cases r;rfl
 |int i|str z=>obtain⟨t,rfl⟩:=r;rfl
 |_=>trivial
theorem NZ:∀{xs}{us:ZY},Vals xs us->xs.all Ks=true->us.any (eqU x)=xs.any λy=>eqV y x
 |_,_,.nil,_=>rfl
 |y::xs,u::us,.cons r t,f=>by
  rw[VT,Ql]at f;rw[V2,V2,GT r f.1,NZ t f.2]
theorem Se{x v}(h:RelV x v)(l:Ks x=true):∀{xs}{us:ZY},Vals xs us->xs.all Ks=true->∀u∈us,SeqAt.EqAt A s u v (eqU x u)
 |_,_,.nil,_=>λu g=>by cases g
 |y::xs,u::us,.cons r t,f=>λn g=>by
  rw[VT,Ql]at f;rcases W8.mp g with rfl|g
  ·rw[GT r f.1];exact Gz r h f.1 l
  ·exact Se h l t f.2 n g
noncomputable def inV(x:V)(xs:List V):Bool:=xs.any λy=>eqV y x
noncomputable def rIn(K:ZQ)(neg:Bool):R2:=λx y H Q=>∃p xs,y=.ref p/\(SqL K H p xs\/SqT K H p xs)/\Ks x=true/\xs.all Ks=true/\Q (.bl (if neg then !inV x xs else inV x xs)) H
def Zk0:OpR X (compareOp .In) (rIn X.K false):=by
 intro pins s A H x y v u Q I l o h;obtain⟨p,xs,rfl,hq,n,fs,q⟩:=h;cases o
 rcases hq with hq|hq
 ·obtain⟨f,r,g,z⟩:=I.list hq;refine SeqAt.in_listAt (eqU x) g.isList (λw hw=>Se l n r fs w (by grind)) ⟨.bl _,H,I,rfl,?_⟩;rwa[show f.toArray.any (eqU x)=f.any (eqU x) by simp,NZ r fs]
 ·obtain⟨f,r,g,z⟩:=I.tuple hq;refine SeqAt.in_tupleAt (eqU x) g (λw hw=>Se l n r fs w (by simpa using hw)) ⟨.bl _,H,I,rfl,?_⟩;rwa[show f.toArray.any (eqU x)=f.any (eqU x) by simp,NZ r fs]
def Zgo:OpR X (compareOp .NotIn) (rIn X.K true):=by
 intro pins s A H x y v u Q I l o h;obtain⟨p,xs,rfl,hq,n,fs,q⟩:=h;cases o
 rcases hq with hq|hq
 ·obtain⟨f,r,g,z⟩:=I.list hq;refine SeqAt.notIn_listAt (eqU x) g.isList (λw hw=>Se l n r fs w (by grind)) ⟨.bl _,H,I,rfl,?_⟩;rwa[show f.toArray.any (eqU x)=f.any (eqU x) by simp,NZ r fs]
 ·obtain⟨f,r,g,z⟩:=I.tuple hq;refine SeqAt.notIn_tupleAt (eqU x) g (λw hw=>Se l n r fs w (by grind)) ⟨.bl _,H,I,rfl,?_⟩;rwa[show f.toArray.any (eqU x)=f.any (eqU x) by simp,NZ r fs]
def Zao:X5 X (.type "list") (λxs H Q=>∃p ys,xs=[.ref p]/\(SqL X.K H p ys\/SqT X.K H p ys)/\∀l,H l=none->Q (.ref l) (upd H l<|.lst ys)):=by
 intro pins s M H xs T Q I r h;obtain⟨p,ys,rfl,hq,q⟩:=h;obtain⟨u,rfl,N⟩:=vals1 r;cases N
 have B:∀f,Vals ys f->ys.length<=sizeLine->∀g x,(∀b L,s.heap.get? b=some L->g.get? b=some L)->
   g.get? s.heap.objs.size=some {cls:=.type "list",dict:=none,data:=.seq f.toArray x,slots:=#[]}->EP X pins M Q (.ref s.heap.objs.size) {s with heap:=g}:=λf v z g x y e=>
  ⟨.ref s.heap.objs.size,_,I.laid y (W5 _) (show ObjOk X.prog X.w _ g _ (.lst ys)from⟨z,f,x,v,e⟩),rfl,q _ (I.hok.fresh<|W5 _)⟩
 rcases hq with hq|hq
 ·obtain⟨f,v,C,z⟩:=I.list hq;have A:=v.length;obtain⟨o,E,J,n,G⟩:=C.isList;exact call_list_seq p (.inl rfl) E J G (λg x y e=>B f v z g x y e) (by grind)
 ·obtain⟨f,v,C,z⟩:=I.tuple hq;have A:=v.length;obtain⟨o,E,J,n,G⟩:=C;exact call_list_seq p (.inr rfl) E J G (λg x y e=>B f v z g x y e) (by simp only[WX]<;>lia)
def Zf2:X5 X (.type "tuple") (λxs H Q=>∃p ys,xs=[.ref p]/\((SqL X.K H p ys/\∀l,H l=none->Q (.ref l) (upd H l<|.tup ys))\/(SqT X.K H p ys/\Q (.ref p) H))):=by
 intro pins s w H xs E Q I r h;obtain⟨p,ys,rfl,h⟩:=h;obtain⟨u,rfl,A⟩:=vals1 r;cases A
 rcases h with⟨hq,q⟩|⟨hq,q⟩
 ·obtain⟨f,n,v,x⟩:=I.list hq;have y:=n.length;refine call_tuple_list v.isList (λg B=>?_) (by grind);have z:Inv X pins w H {s with heap:=g}:=I.kept B
  have C:Inv X pins w (upd H g.objs.size<|.tup ys) {s with heap:=g.push {cls:=.type "tuple",data:=.seq f.toArray}}:=
   z.laid (λb o e=>Wz _ e) (W5 _) (⟨x,f,n,IsTup.new _ _⟩)
  exact⟨.ref g.objs.size,_,C,rfl,q _ (z.hok.fresh<|W5 _)⟩
 ·obtain⟨f,n,v,x⟩:=I.tuple hq;exact call_tuple_same v ⟨.ref p,H,I,rfl,q⟩
def tyV(K:ZQ)(T:String)(x:V)(H:Hp):Prop:=match x with
 | .str _=>T = "str"
 | .int _=>T = "int"
 | .ref p=>(T = "list"/\∃xs,SqL K H p xs)\/(T = "tuple"/\∃o,K.lookup p=some o/\o.cls=.type "tuple"/\o.dict=none)\/
   (T = "dict"/\((∃f,H p=some (.dK f))\/∃f,H p=some (.dT f)))\/(T = "set"/\∃S n,H p=some (.set S n))
 |_=>False
def Ea{y:St}{H}{s}{T}{x}{v}(I:Inv X pins y H s)(r:RelV x v)(g:tyV X.K T x H) :
  s.TypeIs v T/\∀a,v=.ref a->∃ob,s.heap.get? a=some ob/\ob.dict=none:=by
 cases x with
 |str z=>
  obtain⟨t,rfl⟩:=r;cases g
  exact⟨typeIs_str s z t,λ_ e=>nomatch e⟩
 |int i=>
  obtain⟨t,rfl⟩:=r;cases g
  exact⟨typeIs_int s i t,λ_ e=>nomatch e⟩
 |ref p=>
  cases r
  rcases g with⟨rfl,xs,hq⟩|⟨rfl,o,f,B,l⟩|⟨rfl,f⟩|⟨rfl,S,n,f⟩
  ·obtain⟨A,_,w,_⟩:=I.list hq;refine⟨w.isList.typeIs,λa e=>?_⟩;cases e
   obtain⟨o,n,e,c,l,_⟩:=w;exact⟨o,e,l⟩
  ·refine⟨⟨o,I.kIn p o f,B⟩,λa e=>?_⟩;cases e
   exact⟨o,I.kIn _ o f,l⟩
  ·have z:∃o,s.heap.get? p=some o/\o.ExactDict:=by
    rcases f with⟨h,f⟩|⟨h,f⟩
    ·obtain⟨_,_,_,_,o,_,_,e,ex,_⟩:=I.hok p _ f;exact⟨o,e,ex⟩
    ·obtain⟨_,_,_,_,o,_,_,e,ex,_⟩:=I.hok p _ f;exact⟨o,e,ex⟩
   obtain⟨o,e,ex⟩:=z;refine⟨⟨o,e,ex.1⟩,λa u=>?_⟩;cases u
   exact⟨o,e,ex.2.1⟩
  ·obtain⟨o,_,_,_,e,ex,_⟩:=I.hok p _ f;refine⟨⟨o,e,ex.1⟩,λa u=>?_⟩;cases u
   exact⟨o,e,ex.2.1⟩
 |_=>exact False.elim g
noncomputable def NN(K:ZQ)(T:String)(r:V->List V->Hp->VK->Prop)(h:TE):TE:=λg H Q=>h g H λx f=>tyV K T x f/\r x [] f Q
noncomputable def tBM(K:ZQ)(T:String)(r:V->List V->Hp->VK->Prop)(h:TE)(t:TA):TE:=λf H Q=>h f H λx g=>tyV K T x g/\t f g λxs l=>r x xs l Q
variable {o e:Expr}{es:Ya}{to:TE}{t:TA}{name:Str}{apos cpos:Pos}{T id:String}{r:V->List V->Hp->VK->Prop}
def Sv(A:PlainAttrs T)(slot:Slot T name id)(l:typeOf (.builtin id)=pure (.type "method_descriptor"))(C:MtR X id r)(B:PE X o to)(g:autoParam (attributeBase o name X.env (eval o X.env)=eval o X.env) au_0)(f:autoParam ((apos.endLine==cpos.line)=true) au_0):PE X (.Call (.Attribute o name apos) [] [] cpos) (NN X.K T r to):=by
 intro pins s n H Q I h;refine wpAny_Call_method0_late g f (thn (B pins s n H _ I h) ?_);rintro v y ⟨x,J,u,p,w,z⟩;obtain⟨G,E⟩:=Ea u p w;exact⟨T,id,A,slot,l,G,E,Calls.callWith_builtin rfl (PySem.evalArgs_none<|C pins y n J x [] v [] Q u p .nil z)⟩
def Sw(N:PlainAttrs T)(slot:Slot T name id)(u:typeOf (.builtin id)=pure (.type "method_descriptor"))(Y:MtR X id r)(U:PE X o to)(ha:PA X (e::es) t)(g:autoParam (attributeBase o name X.env (eval o X.env)=eval o X.env) au_0)
  (l:autoParam (((backTo cpos<|starEach (e::es) X.env).all (λx=>!x.1)&&(backToKw cpos<|keywordEach [] X.env).all (λx=>x.1.isSome)
   && decide ((e::es).length+([]:List Keyword).length+(if ([]:List Keyword).isEmpty then 0 else 1)<30))=true) au_0)
  (f:autoParam ((apos.endLine==cpos.line)=true) au_0) (hs:autoParam (starEach (e::es) X.env=(false,eval e X.env)::starEach es X.env) au_0) (n:autoParam ((backTo cpos<|starEach es X.env).any (·.1)=false) au_0) :
  PE X (.Call (.Attribute o name apos) (e::es) [] cpos) (tBM X.K T r to t):=by
 intro pins s p H Q I h;refine wpAny_Call_method_late g l f rfl (thn (U pins s p H _ I h) λv G ⟨x,H1,z,w,C,M⟩=>?_);obtain⟨h1,h2⟩:=Ea z w C;refine⟨T,id,N,slot,u,h1,h2,?_⟩;have y:=ha cpos pins G p H1 _ z M;rw[hs]at y ⊢;refine Calls.callWith_builtin (by grind) (Calls.evalArgs_plain ?_);exact thn y λB E ⟨A,H2,I2,J,L⟩=>Y pins E p H2 x A v B Q I2 w J L
end
def MtM(X:Cx)(id:String)(r:V->List V->Hp->VK->Prop):Prop:=
 ∀(pins:ZT) (s:Shared) (f:St) (H:Hp) (x:V) (xs:List V) (v:Value) (g:ZY) (Q:VK),Inv X pins f H s->RelV x v->Vals xs g->r x xs H Q->
  wpAny (model X.prog X.w) X.A (call (.builtin id) (v::g)) (EP X pins f Q) X.xe s
def Vals.one:∀{x}{us:ZY},Vals [x] us->∃u,us=[u]/\RelV x u:=by
 intro _ _ h;cases h with
 |cons r t=>
  cases t
  exact⟨_,rfl,r⟩
def Vals.zero:∀{us:ZY},Vals [] us->us=[]
 |_,.nil=>rfl
def Vals.dropLast (h:Vals xs us):Vals xs.dropLast us.dropLast:=by
 induction h with
 |nil=>exact .nil
 |cons r t f=>
  cases t with
  |nil=>grind
  |cons q g=>exact .cons r f
def Vals.reverse (h:Vals xs us):Vals xs.reverse us.reverse:=by
 induction h with
 |nil=>exact .nil
 |cons r t f=>rw[VL,VL];exact Vals.append f (.cons r .nil)
def Zm9{f:Type}(l:List f):l.eraseIdx (l.length-1)=l.dropLast:=by simp
section
variable {X:Cx}{pins:ZT}{σ:St}{H:Hp}{s:Shared}{l b:Addr}{xs ys zs:List V}
def Inv.lset {h g:ZY}{n}{f}{t'} (I:Inv X pins σ H s) (x:H l=some (.lst xs))
  (e:s.heap.get? l=some {cls:=.type "list",data:=.seq h.toArray n}) (v:f h.toArray=g.toArray) (p:Vals ys g) (o:ys.length<=sizeLine) :
  Inv X pins σ (upd H l<|.lst ys) {s with heap:=s.heap.update l (Obj.mapSeq f),toks:=t'}:=by
 have q:=PySem.IsL.update e f;rw[v]at q;refine I.write (by rw[x];exact trivial) (.inl rfl) (λy u w r=>(Qs s.heap (Obj.mapSeq f)<|Ne.symm w).trans r) ⟨_,q⟩ ?_;exact⟨o,g,_,p,q⟩
def Inv.lnew (I:Inv X pins σ H s) (h:Vals ys f) (g:ys.length<=sizeLine) :
  Inv X pins σ (upd H s.heap.objs.size<|.lst ys) {s with heap:=s.heap.push {cls:=.type "list",data:=.seq f.toArray},toks:=t'}:=
 I.laid (λ_ _ q=>Wz _ q) (W5 _) ⟨g,f,0,h,WD _ rfl⟩
def Inv.fresh (I:Inv X pins σ H s):H s.heap.objs.size=none:=I.hok.fresh (W5 _)
def Inv.lstM (I:Inv X pins σ H s) (g:H l=some (.lst xs)):xs.length<=sizeLine/\∃f n,Vals xs f/\xs.length=f.length/\s.heap.get? l=some {cls:=.type "list",data:=.seq f.toArray n}:=by
 obtain⟨z,f,n,r,e⟩:=I.hok l _ g;exact⟨z,f,n,r,r.length,e⟩
def Zde(h:n<=sizeLine):Builtin.List.listTooLong n=false:=by
 unfold Builtin.List.listTooLong
 grind
end
section
variable {X:Cx}
def A0:V->List V->Hp->VK->Prop:=λx f H Q=>∃l xs y,x=.ref l/\f=[y]/\H l=some (.lst xs)/\xs.length<sizeLine/\Q .non (upd H l<|.lst (xs++[y]))
def NK:MtM X "list.append" A0:=by
 intro pins s A H x B v C Q I o p h;obtain⟨l,xs,y,rfl,rfl,g,E,q⟩:=h;cases o
 obtain⟨u,rfl,w⟩:=p.one;obtain⟨z,f,n,r,G,e⟩:=I.lstM g;refine call_meets F.slot_list_append ⟨_,e,rfl⟩ F.entry_list_append (F.args_list_append_2 _ _) (PySem.list_append l f.toArray n u<|by grind) ⟨e,?_⟩;refine⟨.non,_,I.lset g e (by simp) (r.append<|.cons w .nil) ?_,rfl,q⟩
 grind
def Gd:V->List V->Hp->VK->Prop:=λx g H Q=>∃l b xs f,x=.ref l/\g=[.ref b]/\H l=some (.lst xs)/\H b=some (.lst f)/\xs.length+f.length<=sizeLine/\Q .non (upd H l<|.lst (xs++f))
def Zi4:MtM X "list.extend" Gd:=by
 intro pins s M H x U v Y Q I y A h;obtain⟨l,b,xs,N,rfl,rfl,w,J,hz,q⟩:=h;cases y
 obtain⟨u,rfl,B⟩:=A.one;cases B
 obtain⟨z,g,n,r,hl,e⟩:=I.lstM w;obtain⟨T,f,E,C,G,L⟩:=I.lstM J;have p:g.toArray.size+f.toArray.size<=sizeLine:=by grind
 have o:¬(!g.toArray.isEmpty&&Builtin.List.listTooLong (g.toArray.size+f.toArray.size))=true:=by
  rw[Zde p,Bool.and_false];exact WN
 refine call_meets F.slot_list_extend ⟨_,e,rfl⟩ F.entry_list_extend (F.args_list_extend_2 _ _)
  (AutoSeq1.list_extend_list_list_0 l g.toArray n b f.toArray E o (by lia)<|by lia) ⟨e,L,?_⟩
 refine⟨.non,_,I.lset w e (by simp) (r.append C) ?_,rfl,q⟩
 grind
def Ak:V->List V->Hp->VK->Prop:=λx f H Q=>∃l xs y,x=.ref l/\f=[]/\H l=some (.lst xs)/\xs[xs.length-1]?=some y/\Q y (upd H l<|.lst xs.dropLast)
def Bb:MtM X "list.pop" Ak:=by
 intro pins s E H x G v J Q I w A h;obtain⟨l,xs,y,rfl,rfl,p,C,q⟩:=h;cases w
 have o:=A.zero;subst o;obtain⟨z,f,n,r,M,e⟩:=I.lstM p;obtain⟨u,L,B⟩:=r.get C;have g:f.toArray[f.toArray.size-1]?=some u:=by grind
 refine call_meets F.slot_list_pop ⟨_,e,rfl⟩ F.entry_list_pop (F.args_list_pop_1 _) (MeetsSeq.list_pop_last l f.toArray n u g<|by rw[WX];lia) ⟨e,?_⟩;refine⟨y,_,I.lset p e ?_ r.dropLast ?_,B,q⟩
 ·simp
 ·grind
noncomputable def MJ:R2:=λx y H Q=>∃l b xs f,x=.ref l/\y=.ref b/\H l=some (.lst xs)/\H b=some (.lst f)/\xs.length+f.length<=sizeLine/\∀p,H p=none->Q (.ref p) (upd H p<|.lst (xs++f))
def XN:OpR X (binaryOp .Add) MJ:=by
 intro pins s J H x y v u Q I p o h;obtain⟨l,b,xs,L,rfl,rfl,B,C,T,q⟩:=h;cases p
 cases o
 obtain⟨z,g,n,r,U,e⟩:=I.lstM B;obtain⟨M,f,N,w,A,G⟩:=I.lstM C;refine PySem.P.add_list e G ?_ (by grind);have E:g.toArray++f.toArray=(g++f).toArray:=by simp
 rw[E];exact⟨.ref _,_,I.lnew (r.append w) (by grind),rfl,q _ I.fresh⟩
end
end L2
namespace Att
open PySem PySem.W PySem.Calls PyProof.Rows
def Zbb:∀ns vs,WellAll P h vs (ns.map WData.int)->IntsAre vs ns:=by
 intro ns
 induction ns with
 |nil=>
  intro vs w;cases w
  exact .nil
 |cons n ns f=>
  intro vs w;cases w with
  |cons a b=>
   cases a
   exact .cons _ _ (f _ b)
def OG{l:OpenLaw}{n}(y:l.most=some n){P}{h}{args}{vals}(f:l.row.toRowW.claim.pre args=true)(p:WellAll P h vals args) :
  ∃a vs ns,vals=[Value.ref a]/\args=[WData.list (ns.map WData.int)]/\h.get? a=some {cls:=.type "list",data:=.seq vs.toArray}/\IntsAre vs ns/\ns.length<=n:=by
 have s:WShape.hasAll [] args [.list .int]=true:=(pre_splitW f).1;have z:l.pre.holds [] {args:=args}=true:=(pre_splitW f).2;obtain⟨d,r,rfl,C,B⟩:=hasAllW_cons s;obtain rfl:=hasAllW_nil B;obtain⟨xs,rfl,A⟩:=hasW_list C;obtain⟨ns,rfl⟩:=items_int A
 have g:ns.length<=n:=by
  have u:(WTm.not<|.lt (.lit<|.int (n:Int))<|.len<|.arg 0).holds [] {args:=[.list (ns.map .int)]}=true:=by
   have u:=(holds_andW z).1;rw[y]at u;lia
  have E:=condW_of u (w_not<|w_lt w_lit<|w_len_list<|w_arg rfl);simp_all
 cases p with
 |cons w v=>
  cases v
  cases w with
  |list x o=>exact⟨_,_,ns,rfl,rfl,x,Zbb ns _ o,g⟩
def Rt(l:OpenLaw)(args:List WData):l.row.toRowW.claim.post args (.bool true) args=true:=
 postW_of
  rfl
  (w_eq_bool (w_res rfl) w_lit) rfl
def Zj5{l:OpenLaw}{n}{q}{loose}{XP}{YP}{d}(T:l.most=some n)(H:d.params.defaults=[])
  (call:∀w s₀ g z B x o A cd p a vs ns,
   Ground q loose [] XP w s₀ z B g.heap->YP w g.heap->
   g.heap.get? x=some o->o.data=.func (docDef d.name d.params d.body d.scope A cd p)->g.heap.CodeRec cd d.name->z d.name=some (.ref x)->
   g.heap.get? a=some {cls:=.type "list",data:=.seq vs.toArray}->IntsAre vs ns->ns.length<=n->g.gens=#[]->
   codeAny (model l.prog w) callerA (.call (.ref x) ⟨[.ref a],[]⟩) (λr y=>r=.ok (.ret<|.bool true)/\OldK g.heap y.heap/\y.os=g.os/\AllBare y.gens) g) :
  WalkO q loose XP YP l.row.toRowW d [] (λf vs=>PySem.call f vs):=by
 intro w s₀ g z B G Y x o A cd p dV kV Q hd J M E hg args vals as s L N C hlo;obtain rfl:=Dflts.none M H;obtain rfl:=Dflts.noKw M;obtain⟨a,vs,ns,rfl,rfl,u,h,v⟩:=OG T s C;refine enter_call (Vu (call w s₀ g z B x o A cd p a vs ns G Y Q (fd_plain hd) J E u h v hg) λr y hq=>?_);obtain⟨rfl,h2,h3,h4⟩:=hq;exact⟨.inl ⟨.bool true,.bool true,[],rfl,λ_=>rfl,.bool true,Rt l _,λ_=>⟨List.Pairwise.nil,λ_ U=>(nomatch U)⟩⟩,h2,h3,h4⟩
end Att
namespace L2
open PySem PySem.Spec PyProof.Rows
theorem B0:∀{vs}{ns:ZS},IntsAre vs ns->Vals (ns.map V.int) vs
 |_,_,.nil=>.nil
 |_,_,.cons n t h=>.cons ⟨t,rfl⟩ (B0 h)
def BD(H:Hp):Prop:=∀b,H b=none\/∃o xs,H b=some (.frz o<|.lst xs)
def R6{K B U CX k fa a fd x sp f vs ns}(KX:K.In f.heap)(G:f.heap.Ns mainGlobals B)(g:f.heap.Ns builtinsNs U)(hbb:∀x:Str,x≠"__name__"->U x=bootBuiltins x)(J:f.heap.NoLimit)(hg:f.gens=#[])(M:f.heap.get? a=some {cls:=.type "list",data:=.seq vs.toArray})(hi:IntsAre vs ns)(hl:ns.length<=sizeLine)(hr:UH k callerA)(F:∀base,K.In base->base.Ns mainGlobals B->XO P w K B base CX k fa fd [x] sp)(y:∀s u,BindsTo s fd ⟨[u],[]⟩ [(x,u)])(Y:∀H,BD H->SqL K H a (ns.map V.int)->sp [.ref a] H (λv _=>v=.bl true) λ_ _ _=>False)(hCX:∀H e l,CX [] H f (λ_ _ _=>False) e l->False) :
  codeAny (model P w) callerA (.call (.ref fa) ⟨[.ref a],[]⟩) (λr l=>r=.ok (.ret<|.bool true)/\OldK f.heap l.heap/\l.os=f.os/\AllBare l.gens) f:=by
 have rv:=B0 hi
 have core:∀H,BD H->SqL K H a (ns.map V.int)->HOk P w H f.heap->(∀b,H b≠none->b=a)->(H a≠none->K.lookup a=none)->
   codeAny (model P w) callerA (.call (.ref fa) ⟨[.ref a],[]⟩) (λr l=>r=.ok (.ret<|.bool true)/\OldK f.heap l.heap/\l.os=f.os/\AllBare l.gens) f:=by
  intro H hO hS E hA hK;have base_of:∀{b:Addr} {o:Obj},f.heap.get? b=some o->H b=none->(PX f.heap H).get? b=some o:=λe n=>Zay e n
  have T:∀{b:Addr} {o:Obj} {N:Array DictEntry} {Q:Nat},f.heap.get? b=some o->o.data=.dict N Q->H b=none:=λ{b o N Q} e d=>by
   cases q:H b with
   |none=>rfl
   |some u=>
    have e':=hA b (by rw[q];simp);subst e';rw[M]at e;cases e;cases d
  have p:∀{b:Addr} {m:ZU},f.heap.Ns b m->(PX f.heap H).Ns b m:=λ{b m} ⟨o,N,Q,e,d,r⟩=>⟨o,N,Q,base_of e (T e d),d,r⟩
  have L:=λb o e=>base_of (KX b o e) (by
   cases q:H b with
   |none=>rfl
   |some u=>
    have e':=hA b (by rw[q];simp);subst e';rw[hK (by rw[q];simp)]at e;cases e)
  have hM:Mod K B (PX f.heap H):=⟨L,p G,⟨U,p g,hbb⟩,let ⟨mc,h1,h2⟩:=J;⟨mc,p h1,h2⟩⟩;have e0:Tj P w K B (PX f.heap H) callerA [] f H:=⟨rfl,hM,λb o e=>Zjn e,QH (Zdw _ _),trivial,λb g=>absurd (show b∈([]:List Addr)from g) (by simp),E,.of_eq hg⟩
  refine Vu ((F _ L<|p G).run callerA [] f H ⟨[.ref a],[]⟩ [.ref a] [.ref a] _ _ hr e0 (y f<|.ref a) (.cons rfl .nil) (Y H hO hS)) λr l h=>?_;cases r with
  |error e=>exact(hCX H e l h).elim
  |ok fl=>
   cases fl with
   |ret u=>
    obtain⟨v,H',os,bare,un,C,r',q⟩:=h;subst q;obtain rfl:=r';refine⟨rfl,OldK.of_keep λb o e=>?_,os,bare⟩;cases q:H b with
    |none=>exact un.keep b o e q (by intro z;exact absurd (show b∈([]:List Addr)from z) (by simp)) (by simp)
    |some u=>
     rcases hO b with z|⟨ob,xs,z⟩
     ·rw[q]at z;cases z
     ·have z2:=un.frzs b ob _ z;obtain⟨e1,_⟩:=E b _ z;obtain⟨e2,_⟩:=C b _ z2;rw[e]at e1;cases e1;exact e2
   |_=>exact False.elim h
 cases hk:K.lookup a with
 |some o=>
  have e:=KX a o hk;rw[M]at e;cases e
  refine core (λ_=>none) (λ_=>.inl rfl) (.inr ⟨_,vs.toArray,_,hk,rfl,rfl,rfl,by rw[WX,hi.length];exact hl,by simpa using rv⟩) (λb u z=>by have A:=z;cases A) (λb z=>absurd rfl z) λz=>absurd rfl z
 |none=>
  refine core (λb=>if b=a then some (.frz {cls:=.type "list",data:=.seq vs.toArray} (.lst<|ns.map V.int))else none) (λb=>?_) (.inl<|.inr ⟨{cls:=.type "list",data:=.seq vs.toArray},W3 rfl⟩) (λb u z=>?_) (λb z=>?_) λ_=>hk
  ·by_cases g:b=a
   ·exact .inr ⟨_,_,W3 g⟩
   ·exact .inl (W2 g)
  ·by_cases g:b=a
   ·have A:=(W3 g).symm.trans z;cases A
    subst g;exact⟨M,by rw[Wt];exact hl,vs,_,rv,M⟩
   ·have A:=(W2 g).symm.trans z;cases A
  ·by_cases g:b=a
   ·exact g
   ·exact absurd (W2 g) z
def Zmn{l:PySem.W.OpenLaw}{n k}{q}{loose}{XP}{YP}{d}{K:Params->ZQ}{CX:World->CXT}{sp:World->Sp}{x}(hn:l.most=some n)(J:n<=sizeLine)(M:d.params.defaults=[])(hr:UH k callerA)(hY:∀w h,YP w h->(K w.params).In h)
  (F:∀w y B h,(K w.params).In h->h.Ns mainGlobals y->y d.name=some (.ref B)->
   ∃Q,(∀s u,BindsTo s Q ⟨[u],[]⟩ [(x,u)])/\
    ∀base,(K w.params).In base->base.Ns mainGlobals y->XO l.prog w (K w.params) y base (CX w) k B Q [x] (sp w))
  (E:∀w H a (ns:ZS),ns.length<=n->BD H->SqL (K w.params) H a (ns.map V.int)->sp w [.ref a] H (λv _=>v=.bl true) λ_ _ _=>False)
  (N:∀w H s e C,CX w [] H s (λ_ _ _=>False) e C->False) :
  PySem.W.WalkO q loose XP YP l.row.toRowW d [] (λf vs=>PySem.call f vs):=by
 refine Att.Zj5 hn M λw U z y mb B o pm cd doc a vs ns G Y ho hd hcd L A r p hg=>?_;have KX:=hY w _ Y;obtain⟨Q,hb,hF⟩:=F w y B _ KX G.T.g L;exact R6 KX G.T.g G.T.b G.T.builtins G.T.nolimit hg A r (W9 p J) hr hF hb (λH hO hS=>E w H a ns p hO hS) λH e C=>N w H z e C
def Zet{l:PySem.W.OpenLaw}{n k}{q}{loose}{XP}{YP}{d}{K:Params->ZQ}{CX}{sp:ZQ->Sp}{x}(E:l.most=some n)(r:n<=sizeLine)(y:d.params.defaults=[])(C:UH k callerA)(G:∀w h,YP w h->(K w.params).In h)
  (F:∀w g B h,(K w.params).In h->h.Ns mainGlobals g->g d.name=some (.ref B)->
   ∃A,(∀s u,BindsTo s A ⟨[u],[]⟩ [(x,u)])/\
    ∀base,(K w.params).In base->base.Ns mainGlobals g->XO l.prog w (K w.params) g base CX k B A [x] (sp<|K w.params))
  (p:∀K H a (ns:ZS),ns.length<=n->BD H->SqL K H a (ns.map V.int)->sp K [.ref a] H (λv _=>v=.bl true) λ_ _ _=>False)
  (z:∀H s e o,CX [] H s (λ_ _ _=>False) e o->False) :
  PySem.W.WalkO q loose XP YP l.row.toRowW d [] (λf vs=>PySem.call f vs):=
 Zmn E r y C G F (λw H a ns M L J=>p (K w.params) H a ns M L J) λ_ H s e o=>z H s e o
noncomputable def inClass(s:Stmt)(j:Nat):Stmt:=match s with
 | .ClassDef _ _ _ body _ _ _ _ _ _ _=>body.getD j (.Pass ⟨0,0,0,0⟩)
 |_=>.Pass ⟨0,0,0,0⟩
noncomputable def K4(s:Stmt):Arguments:=match s with
 | .FunctionDef _ a _ _ _ _ _ _ _ _=>a
 |_=>{posonlyargs:=[],args:=[],vararg:=none,kwonlyargs:=[],kw_defaults:=[],kwarg:=none,defaults:=[]}
noncomputable def Xb(s:Stmt):Yb:=match s with
 | .FunctionDef _ _ b _ _ _ _ _ _ _=>b
 |_=>[]
noncomputable def U6(s:Stmt):Scope:=match s with
 | .FunctionDef _ _ _ _ _ _ f _ _ _=>f
 |_=>{kind:=.function,names:=[],isGenerator:=false,isCoroutine:=false}
noncomputable abbrev CX0:CXT:=λ_ _ _ _ _ _=>False
noncomputable abbrev E0:XK:=λ_ _ _=>False
def Xf:K0 CX0 X E0:=λ_ _ _ _ _ _ _ h=>h.elim
structure Fun (K:ZQ) (x qual:Str) (st:Stmt) (f:Addr) (fd:FuncData):Prop where
 ex:∃(oc:Value) (od:Yd) (kV doc pm:Value) (an:Yd) (cdv ct:Value) (osl:Array (Yc)),
  fd=PySem.W.fnOf x qual (K4 st) (Xb st) (U6 st) .none kV doc pm an cdv ct/\K.lookup f=some ⟨oc,od,.func fd,osl⟩/\PySem.W.codeIn K cdv qual=true
 kp:PySem.W.keepIn K (.ref f)=true
section
variable {P:Program}{w:World}{K:ZQ}{mg:ZU}{base:Heap}
def Fun.ok {st f p N ps k sp} (F:Fun K x qual st f p) (S:U7 N ps (U6 st)) (len:∀vs H Q E,sp vs H Q E->vs.length=ps.length)
  (l:∀g A outer s H vs Q E,UH k (A.deeper<|envOfC qual (U6 st) s.heap.objs.size f g)->sp vs H Q E->
   ∃t,PSs (Xj CX0 P w K mg base N qual (U6 st) f g A outer s H E).nox (Xb st) t/\t {nx:=λ_ H'=>Q .non H',rt:=Q} (start N vs) H):XO P w K mg base CX0 (k+1) f p ps sp:=by
 obtain⟨oc,B,kV,y,z,G,g,C,r,rfl,u,o⟩:=F.ex;refine AZ u o S len λA outer s H vs Q E v n=>?_;obtain⟨t,h,q⟩:=l g A outer s H vs Q E v n;exact⟨t,h.nox,q⟩
def Fun.binds {st f p ps} (F:Fun K x qual st f p)
  (h:∀kV g n o l ct us,us.length=ps.length->bindArgs (PySem.W.fnOf x qual (K4 st) (Xb st) (U6 st) .none kV g n o l ct) ⟨us,[]⟩=pure (ps.zip us)):Binds K p ps []:=by
 obtain⟨oc,u,kV,g,n,o,l,ct,r,rfl,v,s⟩:=F.ex;exact .all (h kV g n o l ct)
def SD{st f oc r p n kV h o g ct}(l:K.lookup f=some ⟨oc,r,.func (PySem.W.fnOf x qual (K4 st) (Xb st) (U6 st) .none kV h o p g ct),n⟩)(c:PySem.W.codeIn K g qual=true)(k:PySem.W.keepIn K (.ref f)=true):Fun K x qual st f (PySem.W.fnOf x qual (K4 st) (Xb st) (U6 st) .none kV h o p g ct):=⟨⟨oc,r,kV,h,o,p,g,ct,n,rfl,l,c⟩,k⟩
end
def Kd{k}(f:UH k A):A.units+1<cLine:=Jn (Nat.add_le_add_left (by simp) _) f.units
def Zb5(h:n<=1000):n<sizeLine:=Jn h (by decide)
section
variable {X:Cx}
def pv(i:Nat){x pos}(l:autoParam (X.N[i]?=some x) au_0)(g:autoParam (Vis X.env.scope x) au_4)(h:autoParam ((x==("__debug__" : Str))=false) au_1)(f:autoParam ((x==("__classdict__" : Str))=false) au_1):PE X (.Name x pos) (X6 i):=Zi5 l g h f
end
def UQ{A B:Prop}(h:B):if false=true then A else B:=by grind
def Xs{A B:Prop}(h:A):if true=true then A else B:=by grind
def U8{c A B:Prop}[Decidable c](g:c->A)(f:¬c->B):if c then A else B:=by grind
def PB{c A B:Prop}[Decidable c](f:c)(h:B):if (!decide c)=true then A else B:=by grind
def Same(H H':Hp):Prop:=∀b o,H b=some o->H' b=some o
def Same.refl (H:Hp):Same H H:=λ_ _ h=>h
def Same.trans (a:Same H g) (b:Same g f):Same H f:=λc o h=>b c o (a c o h)
def Same.free (e:Same H H') {l} (h:H' l=Option.none):H l=Option.none:=by
 cases q:H l with
 |none=>rfl
 |some o=>
  rw[e l o q]at h;lia
def Same.seq {K H H'}{a xs} (e:Same H H') (h:SqL K H a xs):SqL K H' a xs:=by
 rcases h with(h|⟨o,h⟩)|h
 ·exact .inl (.inl<|e _ _ h)
 ·exact .inl (.inr ⟨o,e _ _ h⟩)
 ·exact .inr h
end L2
set_option maxHeartbeats 4000000
namespace L2
open PySem PySem.Spec PyProof.Rows
section
variable {κ:Type} [DecidableEq κ]
noncomputable def UL(f:List (κ×V))(k:κ):Option V:=(f.find? λg=>decide (g.1=k)).map (·.2)
noncomputable def putK(f:List (κ×V))(k:κ)(v:V):List (κ×V):=
 if (f.any λg=>decide (g.1=k))=true then f.map (λg=>if g.1=k then(g.1,v)else g)else f++[(k,v)]
def KB{p:κ×V}{r:List (κ×V)}{k:κ}(e:p.1=k):UL (p::r) k=some p.2:=by simp[UL,Vo,e]
def KN{p:κ×V}{r:List (κ×V)}{k:κ}(e:¬p.1=k):UL (p::r) k=UL r k:=by simp[UL,Vo,e]
theorem NG(k:κ):∀f:List (κ×V),(f.any λg=>decide (g.1=k))=(UL f k).isSome
 |[]=>rfl
 |p::r=>by
  rw[V2];by_cases e:p.1=k
  ·simp only[KB e,Ww e,Bool.true_or,Option.isSome_some]
  ·rw[KN e,Qa e,Bool.false_or];exact NG k r
theorem Ey(k j:κ)(y:V):∀f:List (κ×V),UL (f.map λg=>if g.1=k then(g.1,y)else g) j=(UL f j).map λx=>if j=k then y else x
 |[]=>rfl
 |p::r=>by
  have l:=Ey k j y r;rw[WO];by_cases h:p.1=k
  ·rw[W3 h];by_cases e:p.1=j
   ·rw[KB (p:=(p.1,y)) e,KB e,Jc,W3 (e.symm.trans h)]
   ·rw[KN (p:=(p.1,y)) e,KN e,l]
  ·rw[W2 h];by_cases e:p.1=j
   ·rw[KB (p:=p) e,KB e,Jc,W2 (λz=>h (e.trans z))]
   ·rw[KN (p:=p) e,KN e,l]
theorem MM(k j:κ)(y:V):∀f:List (κ×V),UL f k=none->UL (f++[(k,y)]) j=if j=k then some y else UL f j
 |[],_=>by
  by_cases e:k=j
  ·rw[W3 e.symm];exact KB (p:=(k,y)) e
  ·rw[W2 (λz=>e z.symm)];exact KN (p:=(k,y)) e
 |p::r,g=>by
  rw[QP];have h:¬p.1=k:=λz=>by rw[KB z]at g;cases g
  rw[KN h]at g;have l:=MM k j y r g;by_cases e:p.1=j
  ·rw[KB e,KB e,W2 (λz=>h (e.trans z))]
  ·rw[KN e,KN e,l]
def Ba(f:List (κ×V))(k j:κ)(y:V):UL (putK f k y) j=if j=k then some y else UL f j:=by
 unfold putK;by_cases a:(f.any λg=>decide (g.1=k))=true
 ·rw[W3 a,Ey];rw[NG]at a;by_cases e:j=k
  ·obtain⟨x,hx⟩:=Option.isSome_iff_exists.mp a;rw[W3 e,e,hx,Jc,W3 rfl]
  ·rw[W2 e];cases UL f j with
   |none=>rfl
   |some x=>rw[Jc,W2 e]
 ·rw[W2 a];refine MM k j y f ?_;rw[NG]at a;cases q:UL f k with
  |none=>rfl
  |some x=>rw[q]at a;exact(a rfl).elim
def Be(f:List (κ×V))(k:κ)(v:V):(putK f k v).length<=f.length+1:=by
 unfold putK;split
 ·rw[Wt];omega
 ·rw[W7,WM,List.length_nil];omega
def Zal{f:List (κ×V)}{k:κ}(v:V)(h:UL f k=none):putK f k v=f++[(k,v)]:=by
 unfold putK;rw[NG,h];exact W2 (by decide)
def RelO.isSome_eq {o:Option V}{u:Yc} (r:RelO o u):o.isSome=u.isSome:=by
 cases o with
 |none=>cases u with
  |none=>rfl
  |some _=>exact(show False from r).elim
 |some _=>cases u with
  |none=>exact(show False from r).elim
  |some _=>rfl
def KV.val {f:List (κ×V)}{vs:List (κ×Value)} (r:KV f vs) (k:κ):RelO (UL f k) (valueAt vs k):=by
 unfold KV at r
 induction r with
 |nil=>exact True.intro
 | @cons p q u g h t o=>
  obtain⟨n,s⟩:=h;by_cases e:p.1=k
  ·have l:q.1=k:=n.symm.trans e;have b:valueAt (q::g) k=some q.2:=by simp[valueAt,Vo,l]
   rw[KB e,b];exact s
  ·have l:¬q.1=k:=λz=>e (n.trans z);have b:valueAt (q::g) k=valueAt g k:=by simp[valueAt,Vo,l]
   rw[KN e,b];exact o
def KV.any {f:List (κ×V)}{vs:List (κ×Value)} (r:KV f vs) (k:κ):(f.any λg=>decide (g.1=k))=vs.any λg=>decide (g.1=k):=by
 unfold KV at r
 induction r with
 |nil=>rfl
 |cons h t l=>rw[V2,V2,l,h.1]
def KV.repl {g:List (κ×V)}{vs:List (κ×Value)} (r:KV g vs) (k:κ) {y:V}{u:Value} (n:RelV y u) :
  KV (g.map λf=>if f.1=k then(f.1,y)else f) (vs.map λf=>if f.1=k then(f.1,u)else f):=by
 unfold KV at r ⊢
 induction r with
 |nil=>exact .nil
 | @cons p q w v h t o=>
  rw[WO,WO];refine .cons ?_ o;obtain⟨l,s⟩:=h;by_cases e:p.1=k
  ·rw[W3 e,W3 (l.symm.trans e)];exact⟨l,n⟩
  ·rw[W2 e,W2 (λz=>e (l.trans z))];exact⟨l,s⟩
def KV.put {f:List (κ×V)}{vs:List (κ×Value)} (r:KV f vs) (k:κ) {y:V}{u:Value} (g:RelV y u):KV (putK f k y) (stored vs k u):=by
 unfold putK stored;rw[r.any k];by_cases e:(vs.any λh=>decide (h.1=k))=true
 ·rw[W3 e,W3 e];exact r.repl k g
 ·rw[W2 e,W2 e];exact Paired.snoc r ⟨rfl,g⟩
def KV.length {f:List (κ×V)}{vs:List (κ×Value)} (r:KV f vs):f.length=vs.length:=Paired.length r
end
def Bp{P:Program}{w:World}{k:Key}{u:Value}(r:RelV (kV k) u):(K8 P w).is k u=true:=by
 cases k with
 |inl i=>obtain⟨t,e⟩:=(show ∃t,u=Value.int i t from r);subst e;exact Zdt P w i t
 |inr x=>obtain⟨t,e⟩:=(show ∃t,u=Value.str x t from r);subst e;exact Zb8 P w x t
theorem Ej{P:Program}{w:World}:∀{f:List Key}{us:ZY},Vals (f.map kV) us->ItemsAre (K8 P w) f us
 |[],_,r=>by rw[List.map_nil]at r;cases r;exact .nil
 |k::f,_,r=>by
  rw[WO]at r;cases r with
  |cons h t=>exact .cons (Bp h) (Ej t)
abbrev KT(H:Hp):List (List Key×V)->List (List Key×Addr×Value)->Prop:=Paired λp q=>p.1=q.1/\H q.2.1=some (.tup<|p.1.map kV)/\RelV p.2 q.2.2
def KT.val {H:Hp}{f:List (List Key×V)}{xs:List (List Key×Addr×Value)} (r:KT H f xs) (k:List Key):RelO (UL f k) ((atKey xs k).map (·.2)):=by
 induction r with
 |nil=>exact True.intro
 | @cons p q u g h t o=>
  obtain⟨n,_,s⟩:=h;by_cases e:p.1=k
  ·have l:q.1=k:=n.symm.trans e;have b:atKey (q::g) k=some q.2:=by simp[atKey,Vo,l]
   rw[KB e,b];exact s
  ·have l:¬q.1=k:=λz=>e (n.trans z);have b:atKey (q::g) k=atKey g k:=by simp[atKey,Vo,l]
   rw[KN e,b];exact o
def KT.repl {H:Hp}{f:List (List Key×V)}{xs:List (List Key×Addr×Value)} (r:KT H f xs) (k:List Key) {y:V}{u:Value} (o:RelV y u) :
  KT H (f.map λl=>if l.1=k then(l.1,y)else l) (xs.map<|putAt k u):=by
 induction r with
 |nil=>exact .nil
 | @cons p q x w h t s=>
  rw[WO,WO];refine .cons ?_ s;obtain⟨g,n,v⟩:=h;unfold putAt;by_cases e:p.1=k
  ·rw[W3 e,W3 (g.symm.trans e)];exact⟨g,n,o⟩
  ·rw[W2 e,W2 (λz=>e (g.trans z))];exact⟨g,n,v⟩
def KT.put {H:Hp}{f:List (List Key×V)}{xs:List (List Key×Addr×Value)} (r:KT H f xs) (k:List Key) {b:Addr}{y:V}{u:Value} (l:H b=some (.tup<|k.map kV)) (g:RelV y u) :
  KT H (putK f k y) (storedH xs k b u):=by
 have e:(f.any λh=>decide (h.1=k))=(atKey xs k).isSome:=by
  rw[NG,(r.val k).isSome_eq,Option.isSome_map]
 unfold putK storedH;rw[e];by_cases q:(atKey xs k).isSome=true
 ·rw[W3 q,W3 q];exact r.repl k g
 ·rw[W2 q,W2 q];exact Paired.snoc r ⟨rfl,l,g⟩
def KT.keeps {H H':Hp}{f:List (List Key×V)}{xs:List (List Key×Addr×Value)} (r:KT H f xs) (g:∀b ys,H b=some (.tup ys)->H' b=some (.tup ys)):KT H' f xs:=
 Paired.mapP r λ_ _ z=>⟨z.1,g _ _ z.2.1,z.2.2⟩
section
variable {P:Program}{w:World}{H:Hp}{h:Heap}{a:Addr}
def HG{u:HO}(ok:HOk P w H h)(e:Rd H a u):ObjOk P w H h a u:=e.ok ok
def SG{f:List (Key×V)}(ok:HOk P w H h)(e:Rd H a (.dK f)):f.length<=sizeLine/\(a==sysModules)=false/\∃vs,KV f vs/\h.DictOf (K8 P w) a vs:=
 show ObjOk P w H h a (.dK f)from HG ok e
def Zhx{f:List (Key×V)}(ok:HOk P w H h)(e:H a=some (.dK f)):f.length<=sizeLine/\(a==sysModules)=false/\∃vs,KV f vs/\h.DictOf (K8 P w) a vs:=SG ok (.inl e)
def NO{f:List Key}(ok:HOk P w H h)(e:H a=some (.tup<|f.map kV)):(tupleKind<|K8 P w).is h f a:=by
 obtain⟨_,g,r,o,s,p,n,l⟩:=(show ObjOk P w H h a (.tup<|f.map kV)from ok a _ e)
 exact⟨o,g.toArray,n,s,p,l,by simpa using Ej r⟩
def Bc{f:List (List Key×V)}(ok:HOk P w H h)(e:Rd H a (.dT f)):f.length<=sizeLine/\(a==sysModules)=false/\
  ∃xs,KT H f xs/\h.DictOfH (tupleKind<|K8 P w) a xs:=by
 obtain⟨z,y,xs,r,o,B,C,A,v,u,s,n⟩:=(show ObjOk P w H h a (.dT f)from HG ok e)
 refine⟨z,y,xs,r,o,B,C,A,v,u,s,λx hx=>?_,n⟩
 have all:∀{l:List (List Key×V)} {m:List (List Key×Addr×Value)},KT H l m->∀x∈m,(tupleKind<|K8 P w).is h x.1 x.2.1:=by
  intro l m q
  induction q with
  |nil=>intro x hx;exact nomatch hx
  | @cons p q G E hq t g=>
   intro x hx;rcases W8.mp hx with e|hx
   ·subst e;exact NO ok (by rw[←hq.1];exact hq.2.1)
   ·exact g x hx
 exact all r x hx
def Bl{f:List (List Key×V)}(ok:HOk P w H h)(e:H a=some (.dT f)):f.length<=sizeLine/\(a==sysModules)=false/\
  ∃xs,KT H f xs/\h.DictOfH (tupleKind<|K8 P w) a xs:=Bc ok (.inl e)
end
def DGet(H:Hp)(a:Addr)(y:V)(r:Option V):Prop:=
 (∃f k,Rd H a (.dK f)/\y=kV k/\r=UL f k)\/∃f k b,Rd H a (.dT f)/\y=.ref b/\H b=some (.tup<|k.map kV)/\r=UL f k
def DPut(H:Hp)(a:Addr)(y v:V)(H':Hp):Prop:=
 (∃f k,H a=some (.dK f)/\y=kV k/\f.length<sizeLine/\H'=upd H a (.dK<|putK f k v))\/
 ∃f k b,H a=some (.dT f)/\y=.ref b/\H b=some (.tup<|k.map kV)/\f.length<sizeLine/\H'=upd H a (.dT<|putK f k v)
def DGet.k {H:Hp}{a:Addr}{f:List (Key×V)}{k:Key} (e:H a=some (.dK f)):DGet H a (kV k) (UL f k):=.inl ⟨f,k,.inl e,rfl,rfl⟩
def DGet.t {H:Hp}{a b:Addr}{f:List (List Key×V)}{k:List Key} (e:H a=some (.dT f)) (g:H b=some (.tup<|k.map kV)):DGet H a (.ref b) (UL f k):=.inr ⟨f,k,b,.inl e,rfl,g,rfl⟩
def DPut.k {H:Hp}{a:Addr}{f:List (Key×V)}{k:Key}{v:V} (e:H a=some (.dK f)) (g:f.length<sizeLine):DPut H a (kV k) v (upd H a<|.dK<|putK f k v):=.inl ⟨f,k,e,rfl,g,rfl⟩
def DPut.t {H:Hp}{a b:Addr}{f:List (List Key×V)}{k:List Key}{v:V} (e:H a=some (.dT f)) (h:H b=some (.tup<|k.map kV)) (g:f.length<sizeLine) :
  DPut H a (.ref b) v (upd H a<|.dT<|putK f k v):=.inr ⟨f,k,b,e,rfl,h,g,rfl⟩
section
variable {X:Cx}{pins:ZT}{σ:St}{H:Hp}{s:Shared}{a:Addr}{y v:V}{u r:Value}{o:Option V}{A:Around}{E:ZV}
def Inv.big (I:Inv X pins σ H s):sysModules<s.heap.objs.size:=by
 have h:mainGlobals<s.heap.objs.size:=(I.mod.glob.keeps I.bk).lt;exact Vv (by decide) h
def Oe{Q:ZV}(M:A.units+1<cLine)(I:Inv X pins σ H s)(g:DGet H a y (some v))(J:RelV y u)(h:∀n G,Inv X pins σ H G->RelV v n->Q n G) :
  wpAny (model X.prog X.w) A (getItem (.ref a) u) Q E s:=by
 rcases g with⟨x,k,e,ey,l⟩|⟨x,k,b,e,ey,U,l⟩
 ·subst ey;obtain⟨z,T,L,rel,C⟩:=SG I.hok e;obtain⟨n,hw,f⟩:=RelO.some_of (v:=v) (o:=valueAt L k) (by rw[l];exact rel.val k);exact wpAny_getItem_of (Bp J) C.mapOf hw (h n _ (I.tok _) f)
 ·subst ey;cases (show u=Value.ref b from J)
  obtain⟨z,T,xs,rel,C⟩:=Bc I.hok e;obtain⟨n,hw,f⟩:=RelO.some_of (v:=v) (o:=(atKey xs k).map (·.2)) (by rw[l];exact rel.val k);obtain⟨p,N,B⟩:=Option.map_eq_some_iff.mp hw;refine wpAny_getItem_heap (tupleKind_room_in1 M) (NO I.hok U) C N ?_;rw[B];exact h n _ (I.tok _) f
def Zgh{Q:ZV}(C:A.units+1<cLine)(I:Inv X pins σ H s)(g:DGet H a y o)(B:RelV y u)(h:∀x,Inv X pins σ H x->Q (.bool (!o.isSome)) x) :
  wpAny (model X.prog X.w) A (compareOp .NotIn u<|.ref a) Q E s:=by
 rcases g with⟨f,k,e,ey,l⟩|⟨f,k,b,e,ey,G,l⟩
 ·subst ey;obtain⟨z,n,J,rel,p⟩:=SG I.hok e;refine wpAny_notIn_of (Bp B) n p.mapOf ?_;rw[←(rel.val k).isSome_eq,←l];exact h _ (I.tok _)
 ·subst ey;cases (show u=Value.ref b from B)
  obtain⟨z,n,xs,rel,p⟩:=Bc I.hok e;refine wpAny_notIn_heap (tupleKind_room_in1 C) (NO I.hok G) n p ?_;have q:=(rel.val k).isSome_eq;rw[Option.isSome_map]at q;rw[←q,←l];exact h _ (I.tok _)
def AD{f:Heap}{t':Nat}{ob:HO}(I:Inv X pins σ H s)(g:Mut (H a))(hs:Heap.SameBut a s.heap f)(h:∃q,f.get? a=some q)(new:ObjOk X.prog X.w (upd H a ob) f a ob) :
  Inv X pins σ (upd H a ob) {s with heap:=f,toks:=t'}:=
 I.write (x:=a) (e:=a) g (.inl rfl) (λb q l z=>(hs.2 b l).trans z) h new
def Zbv{P:Program}{w:World}{H':Hp}{g:Heap}{f:List (Key×V)}{vs:List (Key×Value)}(z:f.length<=sizeLine)(h:(a==sysModules)=false)(rel:KV f vs)(dd:g.DictOf (K8 P w) a vs) :
  ObjOk P w H' g a (.dK f):=⟨z,h,vs,rel,dd⟩
def Zjm{H':Hp}{Q:Unit->Shared->Prop}(hu:A.units+1<cLine)(I:Inv X pins σ H s)(g:DPut H a y v H')(M:RelV y u)(rv:RelV v r)(h:∀L,Inv X pins σ H' L->Q () L) :
  wpAny (model X.prog X.w) A (setItem (.ref a) u r) Q E s:=by
 rcases g with⟨f,k,e,ey,l,G⟩|⟨f,k,b,e,ey,U,l,G⟩
 ·subst ey G;obtain⟨z,C,Y,rel,J⟩:=Zhx I.hok e;have p:Y.length<=sizeLine:=by rw[←rel.length];exact z
  have B:(putK f k v).length<=sizeLine:=by have:=Be f k v;omega
  refine wpAny_setItem_pairs (hsz:=p) (Bp M) J λN n x=>h _ ?_;have he:∃q,N.get? a=some q:=let ⟨q,_,_,hq,_⟩:=n;⟨q,hq⟩;exact AD I (by rw[e];exact True.intro) x he (Zbv B C (rel.put k rv) n)
 ·subst ey G;cases (show u=Value.ref b from M)
  obtain⟨z,C,xs,rel,J⟩:=Bl I.hok e;have p:xs.length<=sizeLine:=by rw[←Paired.length rel];exact z
  have B:(putK f k v).length<=sizeLine:=by have:=Be f k v;omega
  refine wpAny_setItem_heap (hsz:=p) (tupleKind_room_in1 hu) (NO I.hok U) J λN n x=>h _ ?_;obtain⟨q,es,ep,hq,h2,h3,h4,_,h5⟩:=n;refine AD I (by rw[e];exact True.intro) x ⟨q,hq⟩ ⟨B,C,_,(rel.put k U rv).keeps λc ys T=>?_,q,es,ep,hq,h2,h3,h4,h5⟩;rw[UR (Hk T e (λz=>nomatch z))];exact T
end
def GY(i:Expr):Prop:=∀f g,subscripted i false f g=operate [f,g] (getItem f g)
def Zj0{prog:Program}{w:World}{A:Around}{E:ZV}{s:Shared}{env:Env}{value slice:Expr}{pos:Pos}{T id:String}{Q:ZV}(z:typeLookup (.type T) "__getitem__"=pure (some<|.builtin id))(hs:GY slice)(h:wpAny (model prog w) A (eval value env) (λo n=>wpAny (model prog w) A (eval slice env) (λi f=>f.TypeIs o T/\wpAny (model prog w) A (getItem o i) Q E f) E n) E s) :
  wpAny (model prog w) A (eval (.Subscript value slice pos) env) Q E s:=by
 refine Subscript_ (Qv h (λo n v=>Qv v (λi f g=>?_) λ_ _ x=>x) λ_ _ x=>x);obtain⟨y,g⟩:=g;unfold subscriptTail;refine Wu ?_;rw[getitemInPython_of_ne y.not_modules];refine Wu (wpAny_specialOf y z ?_)
 have p:wpAny (model prog w) A (subscripted slice false o i) (λr l=>wpAny (model prog w) A (letTemporaryGo value o r >>= λ_=>pure r) Q E l) E f:=by
  rw[hs o i];exact wpAny_operating (Qv g (λr l u=>Wu (wpAny_letTemporaryGo<|W1 u)) λ_ _ x=>x)
 first
  |exact W1 (Wu p)
  |exact Wu (W1<|Wu p)
  |exact Wu p
def Zgc{X:Cx}{pins:ZT}{l:St}{H:Hp}{s:Shared}{a:Addr}{y:V}{o:Option V}(I:Inv X pins l H s)(g:DGet H a y o):s.TypeIs (.ref a) "dict":=by
 rcases g with⟨f,k,e,_,_⟩|⟨f,k,b,e,_,_,_⟩
 ·obtain⟨_,_,n,_,h⟩:=SG I.hok e;exact h.typeIs
 ·obtain⟨_,_,xs,_,h⟩:=Bc I.hok e;exact h.typeIs
noncomputable def Gp(l h:TE):TE:=λf H Q=>l f H λx n=>h f n λy g=>∃a v,x=.ref a/\DGet g a y (some v)/\Q v g
noncomputable def Hx(h l:TE):TE:=λf H Q=>h f H λy n=>l f n λx g=>∃a o,x=.ref a/\DGet g a y o/\Q (.bl (!o.isSome)) g
noncomputable def GW(n h l:TE):TS:=λD f H=>l f H λv r=>n f r λx p=>h f p λy o=>∃a g,x=.ref a/\DPut o a y v g/\D.nx f g
section
variable {X:Cx}{o i e value:Expr}{pos pos' tpos:Pos}{td ty tv:TE}
def Sg(C:X.A.units+1<cLine)(E:PE X o td)(G:PE X i ty)(hs:GY i):PE X (.Subscript o i pos) (Gp td ty):=by
 intro pins s l H Q I h;refine Zj0 PySem.F.slot_dict_getitem.lookup hs (thn (E pins s l H _ I h) ?_);rintro u p ⟨x,N,L,w,B⟩;refine thn (G pins p l N _ L B) ?_;rintro iv Y ⟨y,M,n,r,a,v,ex,g,z⟩;subst ex;obtain rfl:u=Value.ref a:=w;exact⟨Zgc n g,Oe C n g r λT U J f=>⟨v,M,J,f,z⟩⟩
def Zky(z:X.A.units+1<cLine)(C:PE X i ty)(B:PE X o td):PC X .NotIn i o (Hx ty td):=by
 intro pins s f H Q I h;refine thn (C pins s f H _ I h) ?_;rintro U l ⟨y,M,J,n,v⟩;refine thn (B pins l f M _ J v) ?_;rintro u T ⟨x,L,G,p,a,w,ex,g,r⟩;subst ex;obtain rfl:u=Value.ref a:=p;exact Zgh z G g n λN E=>⟨.bl (!w.isSome),L,E,rfl,r⟩
def AG(J:X.A.units+1<cLine)(L:PE X o td)(M:PE X i ty)(G:PE X value tv)(hs:swapsWith value (some<|.Subscript o i pos') pos.line X.env=pure false) :
  PS X (.Assign [.Subscript o i pos'] value pos) (GW td ty tv):=by
 intro pins s f H D I h;refine wpAny_Assign_Subscript (thn (G pins s f H _ I h) ?_) hs;rintro r n ⟨v,H1,U,z,E⟩;refine thn (L pins n f H1 _ U E) ?_;rintro u l ⟨x,H2,T,w,C⟩;refine thn (M pins l f H2 _ T C) ?_;rintro iv s3 ⟨y,H3,Q,p,a,Y,ex,g,B⟩;subst ex;obtain rfl:u=Value.ref a:=w;exact Zjm J Q g p z λs4 N=>⟨f,Y,N,B⟩
end
def Zbf{P:Program}{w:World}{H:Hp}(h:Heap)(f:sysModules<h.objs.size):ObjOk P w H (h.push {cls:=.type "dict",data:=.dict #[]}) h.objs.size (.dK []):=
 ⟨QB _,Vi.mpr (Ne.symm<|WV f),[],.nil,Heap.DictOf.new h⟩
def GP{P:Program}{w:World}{H:Hp}(h:Heap)(f:sysModules<h.objs.size):ObjOk P w H (h.push {cls:=.type "dict",data:=.dict #[]}) h.objs.size (.dT []):=
 ⟨QB _,Vi.mpr (Ne.symm<|WV f),[],.nil,_,#[],0,WD _ rfl,⟨rfl,rfl,rfl⟩,rfl,rfl,Vd⟩
noncomputable def Lb:TE:=λ_ H Q=>∀p,H p=none->Q (.ref p) (upd H p<|.dK [])
noncomputable def Mu:TE:=λ_ H Q=>∀p,H p=none->Q (.ref p) (upd H p<|.dT [])
section
variable {X:Cx}{pos:Pos}
def Zjt:PE X (.Dict [] [] pos) Lb:=λpins s f H Q I h=>
 wpAny_Dict_empty ⟨.ref s.heap.objs.size,_,I.laid (a:=s.heap.objs.size) (o:=.dK []) (t':=s.toks) (λ_ _ q=>Wz _ q) (W5 _) (Zbf s.heap I.big),rfl,h _ (I.hok.fresh<|W5 _)⟩
def Zj3:PE X (.Dict [] [] pos) Mu:=λpins s f H Q I h=>
 wpAny_Dict_empty ⟨.ref s.heap.objs.size,_,I.laid (a:=s.heap.objs.size) (o:=.dT []) (t':=s.toks) (λ_ _ q=>Wz _ q) (W5 _) (GP s.heap I.big),rfl,h _ (I.hok.fresh<|W5 _)⟩
end
def Ga:List (TE×TE)->St->Hp->(List (V×V)->Hp->Prop)->Prop
 |[],_,H,Q=>Q [] H
 |(h,g)::r,f,H,Q=>h f H λx p=>g f p λy o=>Ga r f o λl n=>Q ((x,y)::l) n
abbrev VV:List (V×V)->List (Value×Value)->Prop:=Paired λp q=>RelV p.1 q.1/\RelV p.2 q.2
def PPs(X:Cx)(pos:Pos)(keys:List (Option Expr))(values:Ya)(g:List (TE×TE)):Prop:=
 ∀(pins:ZT) (s:Shared) (f:St) (H:Hp) (Q:List (V×V)->Hp->Prop),Inv X pins f H s->Ga g f H Q->
  wpAny (model X.prog X.w) X.A (evalPairs<|pairTrees keys values X.env pos) (λn o=>∃h l,Inv X pins f l o/\VV h n/\Q h l) X.xe s
def Oh{X:Cx}{pos:Pos}:PPs X pos [] [] []:=λpins s f H Q I h=>pairTrees_nil_walk ⟨[],H,I,.nil,h⟩
def Rj{X:Cx}{pos:Pos}{k v:Expr}{o:List (Option Expr)}{vs:Ya}{n l:TE}{f:List (TE×TE)}(L:PE X k n)(G:PE X v l)(J:PPs X pos o vs f) :
  PPs X pos (some k::o) (v::vs) ((n,l)::f):=λpins s g H Q I h=>
 pairTrees_cons_walk (thn (L pins s g H _ I h) λu r ⟨x,H1,T,z,C⟩=>thn (G pins r g H1 _ T C) λw2 p ⟨y,Y,N,w,B⟩=>
  thn (J pins p g Y _ N B) λws s3 ⟨E,U,M,rel,A⟩=>⟨(x,y)::E,U,M,.cons ⟨z,w⟩ rel,A⟩)
end L2
set_option genInjectivity false
set_option genSizeOfSpec false
namespace Own
open PySem PySem.Spec PyProof.Rows L2
structure Def (K:ZQ) (mg:ZU) (x:Str) (st:Stmt) (ps:ZZ):Prop where
 ex:∃f fd,Fun K x x st f fd/\mg x=some (.ref f)/\Binds K fd ps []
structure Callee (P:Program) (w:World) (K:ZQ) (mg:ZU) (base:Heap) (CX:CXT) (k:Nat) (x:Str) (ps:ZZ) (sp:Sp):Prop where
 ex:∃f fd,XO P w K mg base CX k f fd ps sp/\mg x=some (.ref f)/\PySem.W.keepIn K (.ref f)=true/\(∃o:Obj,K.lookup f=some o/\o.data=.func fd)/\Binds K fd ps []
section
variable {P:Program}{w:World}{K:ZQ}{mg:ZU}{base:Heap}
def Callee.at {st f g k ps sp} (C:Callee P w K mg base CX k x ps sp) (v:mg x=some (.ref f)) (F:Fun K x x st f g) (_:Def K mg x st ps):XO P w K mg base CX k f g ps sp:=by
 obtain⟨z,n,E,l,_,y,_⟩:=C.ex;obtain⟨oc,s,kV,o,r,B,p,A,h,_,u,_⟩:=F.ex
 grind
def Def.ok {st N ps k sp} (D:Def K mg x st ps) (S:U7 N ps (U6 st)) (len:∀vs H Q E,sp vs H Q E->vs.length=ps.length)
  (l:∀f g A outer s H vs Q E,UH k (A.deeper<|envOfC x (U6 st) s.heap.objs.size f g)->sp vs H Q E->
   ∃t,PSs (Xj CX0 P w K mg base N x (U6 st) f g A outer s H E).nox (Xb st) t/\t {nx:=λ_ H'=>Q .non H',rt:=Q} (start N vs) H):Callee P w K mg base CX0 (k+1) x ps sp:=by
 obtain⟨f,u,F,p,r⟩:=D.ex;refine⟨f,u,F.ok S len λg A outer s H vs Q E o h=>l f g A outer s H vs Q E o h,p,F.kp,?_,r⟩;obtain⟨oc,z,kV,v,y,G,g,C,n,_,B,_⟩:=F.ex
 grind
end
section
variable {X:Cx}{CX:CXT}{k:Nat}{ps:ZZ}{sp:Sp}{E:XK}{x:Str}{p pos:Pos}{e:Expr}{es:Ya}{t:TA}
def Dc(C:Callee X.prog X.w X.K X.mg X.base CX k x ps sp)(l:UH k X.A)(hx:K0 CX X E)(v:PA X (e::es) t)(r:autoParam (Gl X x) au_0)(h:autoParam ((x==("__debug__" : Str))=false) au_1)(s:autoParam (starEach (e::es) X.env=(false,eval e X.env)::starEach es X.env) au_0)(g:autoParam ((backTo pos<|starEach es X.env).any (·.1)=false) au_0) :
  PE X (.Call (.Name x p) (e::es) [] pos) (P3 sp [] E t):=by
 obtain⟨f,y,F,n,o,_,u⟩:=C.ex;exact Zf8 F l r n o u .nil hx v h s g
def Zex:X5 X (.builtin "isinstance") (λxs H Q=>∃x n t b,xs=[x,.ty n]/\Ki X.K H x t/\PySem.W.kitOne X.K t (.type n)=some b/\Q (.bl b) H):=by
 intro pins s w H xs y Q I o h;obtain⟨x,n,t,b,rfl,g,e,q⟩:=h;cases o with
 |cons r u=>
  cases u with
  |cons v f=>
   cases f
   obtain rfl:=v;exact Zkt I r g e λl=>⟨.bl b,H,I.tok l,rfl,q⟩
def Zdb:IxR X (λx y H Q=>T3 X.K x y H Q\/Tg X.K x y H Q):=ix_list.or Zcu
end
noncomputable def E1(t u:TS):TS:=λD h H=>∃J:L2.St->Hp->Prop,t {D with nx:=J} h H/\∀f g,J f g->u D f g
def Zeo{st rest t u}(r:PS X st t)(p:PSs X rest u):PSs X (st::rest) (E1 t u):=by
 intro pins s n H D I h;obtain⟨J,h,k⟩:=h;refine wpAny_execs_cons (thn (r pins s n H {D with nx:=J} I h) λf o q=>?_)
 cases f with
 |next=>
  obtain⟨g,l,v,q⟩:=q;exact p pins o g l D v (k g l q)
 |_=>exact q
def Zbc(K:ZQ)(n:String):PySem.W.kitOne K (.type n) (.type n)=some true:=by
 unfold PySem.W.kitOne;simp
def Px{xs i v}(h:atI xs i=some v):atI (xs.map f) i=some (f v):=by
 unfold atI at h ⊢;cases e:ixN xs.length i with
 |_=>grind
def NT{i v}(f:0<=i)(h:xs[i.toNat]?=some v):atI xs i=some v:=by
 have:=Sq h
 grind
def Xq(h:H a=none):Same H (upd H a o):=λb u e=>by rw[UR (K6 e h)];exact e
def Same.upd (S:Same H H') (h:H a=none):Same H (upd H' a o):=λb u e=>by rw[UR (K6 e h)];exact S b u e
def Same.new (S:Same H H') (h:H' a=none):Same H (L2.upd H' a o):=Own.Same.upd S (S.free h)
def Zhy(names:List (Str×NameKind))(g:∀x∈names,x.2=.free->∃c,env.cells.lookup x.1=some c):∀f,(∀x c,f.lookup x=some c->env.cells.lookup x=some c)->
  ∃l,(forIn names f (λx A=>if (x.2 == .free)=true then(do let c ←cellOf env x.1;pure (ForInStep.yield ((x.1,c)::A)))else pure (ForInStep.yield A)):Sem (List (Str×Addr)))=pure l/\
   (∀x c,l.lookup x=some c->env.cells.lookup x=some c)/\(∀x,(∃c,f.lookup x=some c)->∃c,l.lookup x=some c)/\∀x∈names,x.2=.free->∃c,l.lookup x.1=some c:=by
 induction names with
 |nil=>
  intro f s;exact⟨f,rfl,s,λ_ h=>h,λx hx=>by cases hx⟩
 |cons y r B=>
  intro f s;have o:=B λx hx=>g x (WK _ hx);obtain⟨n,k⟩:=y;by_cases w:k=.free
  ·subst w;obtain⟨c,z⟩:=g (n,.free) WW rfl
   have C:∀x d,List.lookup x ((n,c)::f)=some d->env.cells.lookup x=some d:=λx d e=>by
    rw[QD]at e;by_cases hx:x=n
    ·subst hx;simp at e;subst e;exact z
    ·have:(x==n)=false:=by simpa using hx
     rw[this]at e;exact s x d e
   obtain⟨l,e,v,p2,u⟩:=o ((n,c)::f) C;refine⟨l,?_,v,λx hx=>p2 x ?_,λx hx p=>?_⟩
   ·rw[List.forIn_cons];have E:cellOf env n=pure c:=by unfold cellOf;rw[z]
    rwa[E]
   ·rw[QD];cases (x==n)
    ·exact hx
    ·exact⟨c,rfl⟩
   ·rcases W8.mp hx with rfl|hx
    ·exact p2 n ⟨c,by simp[QD]⟩
    ·exact u x hx p
  ·obtain⟨l,e,v,p2,u⟩:=o f s;refine⟨l,?_,v,p2,λx hx p=>?_⟩
   ·grind
   ·rcases W8.mp hx with rfl|hx
    ·exact absurd p w
    ·exact u x hx p
def Zdz{sc}(f:∀x∈sc.names,x.2=.free->∃c,env.cells.lookup x.1=some c) :
  ∃g,closureFor sc env=pure g/\(∀x c,g.lookup x=some c->env.cells.lookup x=some c)/\∀x∈sc.names,x.2=.free->∃c,g.lookup x.1=some c:=by
 obtain⟨g,e,n,_,l⟩:=Zhy sc.names f [] (λx c h=>by cases h);unfold closureFor
 grind
noncomputable def Xx(X:Cx)(N':ZZ)(h:Scope)(l:List (Str×Addr))(C:Addr)(f:Shared)(g:Hp)(ex:List Addr):Cx:=
 {X with N:=N',s₀:=f,H₀:=g,env:=compEnvC h l C X.env,outer:=X.stack,ex:=ex,fn:=λ_=>false,pn:=[],xe:=λ_ _=>False}
structure Np (X:Cx) (N':ZZ) (φ:ZW) (sc:Scope):Prop where
 kind:sc.kind=.function
 okind:X.env.scope.kind=.function
 nocell:∀y∈sc.names,y.2≠.cell
 names:∀y∈sc.names,y.2=.local->sc.names.lookup y.1=some .local
 frees:∀y∈sc.names,y.2=.free->X.env.scope.names.lookup y.1=some .cell
 len:φ.length=N'.length
 pick:∀(i:Nat) (x:Str) (j:Nat),N'[i]?=some x->φ[i]?=some (some j)->X.N[j]?=some x/\sc.names.lookup x=some .free
noncomputable def atStart(φ:ZW)(f:L2.St):L2.St:=φ.map λo=>o.bind λj=>(f[j]?).join
def Sub(g f:L2.St):Prop:=f.length=g.length/\∀(i:Nat) (v:V),g[i]?=some (some v)->f[i]?=some (some v)
def Sub.refl:Sub f f:=⟨rfl,λ_ _ h=>h⟩
def Sub.skip (h:Sub g f):Sub (none::g) (x::f):=by
 refine⟨by simp[h.1],λi v e=>?_⟩;cases i with
 |zero=>grind
 |succ i=>simp at e ⊢;exact h.2 i v e
theorem DW{env:Env}(p:env.scope.kind=.function):∀{names:List (Str×NameKind)}{x:Str},names.lookup x=some .free->env.scope.names.lookup x=some .cell->
  (names.map λ(n,k)=>if (k==NameKind.free&&env.scope.kind == .function&&env.kindOf n==some .cell)then(n,NameKind.cell)else(n,k)).lookup x=some .cell
 |[],_,h,_=>by simp at h
 |(n,k)::r,x,h,g=>by
  have l:=@DW env p r x;show List.lookup x ((if (k==NameKind.free&&env.scope.kind == .function&&env.kindOf n==some .cell)=true then(n,NameKind.cell)else(n,k))::_)=_;cases hx:x==n with
  |true=>
   have o:env.kindOf x=some .cell:=g;simp_all
  |false=>
   simp only[QD,hx]at h;by_cases f:(k==NameKind.free&&env.scope.kind == .function&&env.kindOf n==some .cell)=true
   ·rw[W3 f];simp only[QD,hx];exact l h g
   ·rw[W2 f];simp only[QD,hx];exact l h g
theorem Fh{env:Env}:∀{names:List (Str×NameKind)}{x}{q:NameKind},
  (names.map λ(n,k)=>if (k==NameKind.free&&env.scope.kind == .function&&env.kindOf n==some .cell)then(n,NameKind.cell)else(n,k)).lookup x=some q->∃k,(x,k)∈names/\(q=k\/k=.free)
 |[],_,_,h=>by simp at h
 |(n,k)::r,x,q,h=>by
  have g:List.lookup x ((if (k==NameKind.free&&env.scope.kind == .function&&env.kindOf n==some .cell)=true then(n,NameKind.cell)else(n,k))::(r.map λ(n,k)=>if (k==NameKind.free&&env.scope.kind == .function&&env.kindOf n==some .cell)then(n,NameKind.cell)else(n,k)))=some q:=h;cases hx:x==n with
  |true=>
   have e:x=n:=by simpa using hx
   subst e;by_cases f:(k==NameKind.free&&env.scope.kind == .function&&env.kindOf x==some .cell)=true
   ·simp_all
   ·simp_all
  |false=>
   have p:List.lookup x (r.map λ(n,k)=>if (k==NameKind.free&&env.scope.kind == .function&&env.kindOf n==some .cell)then(n,NameKind.cell)else(n,k))=some q:=by
    by_cases f:(k==NameKind.free&&env.scope.kind == .function&&env.kindOf n==some .cell)=true
    ·rw[W3 f]at g;simp only[QD,hx]at g;exact g
    ·rw[W2 f]at g;simp only[QD,hx]at g;exact g
   obtain⟨l,o,hq⟩:=(@Fh env r x q) p;exact⟨l,WK _ o,hq⟩
def Zln{L target iter E scope pos N M env}(I:Nat->Shared->Prop)
  (turn:∀n s,I n s->wpAny (model prog w) A (pyNext N) (λr l=>match r with
   |none=>R (.ok .next) l
   |some v=>wpAny (model prog w) A (letOwnedTupleGo target N v) (λ_ g=>wpAny (model prog w) A (assign target env v) (λ_ y=>
     wpAny (model prog w) A (forIn E true λc r=>if r=true then do let ok ←isTrue c env (eval c env);pure (ForInStep.yield ok)else pure (ForInStep.yield r)) (λok f=>
      if ok=true then wpAny (model prog w) A (eval L env) (λx u=>
       wpAny (model prog w) A (call (.builtin "list.append") [M,x]) (λ_ p=>∃m,m<n/\I m p) (λ_ _=>False) u) (λ_ _=>False) f
      else ∃m,m<n/\I m f) (λ_ _=>False) y) (λ_ _=>False) g) (λ_ _=>False) l) (λ_ _=>False) s)
  (n:Nat) (h:I n s) :
  codeAny (model prog w) A (.compLoop (.ListComp L [⟨target,iter,E,0⟩] scope pos) 0 N M env) R s:=by
 refine codeAny_loop rfl I (λn s Q=>?_) n h;refine wpAny_noted ?_;rw[compTurn_list];refine Wu (wpAny_standAt<|Wu (Qv (turn n s Q) (λr l B=>?_) λ_ _ o=>o.elim));cases r with
 |none=>exact W1 B
 |some v=>
  refine Wu (Qv B (λ_ g C=>?_) λ_ _ o=>o.elim);refine Wu (Qv C (λ_ y J=>Wu (Qv J (λok f z=>?_) λ_ _ o=>o.elim)) λ_ _ o=>o.elim);cases ok with
  |false=>exact W1 ⟨rfl,z⟩
  |true=>
   exact Wu (Wu (Qv z (λx u H=>Wu (Qv H (λ_ p G=>W1 (W1 ⟨rfl,G⟩)) λ_ _ o=>o.elim)) λ_ _ o=>o.elim))
def Tx(X:Cx)(g:Ya)(t:TT):Prop:=
 ∀(pins:ZT) (s:Shared) (f:L2.St) (H:Hp) (Q:Bool->Hp->Prop),Inv X pins f H s->t f H Q->
  wpAny (model X.prog X.w) X.A (forIn g true λc r=>if r=true then do let ok ←isTrue c X.env (eval c X.env);pure (ForInStep.yield ok)else pure (ForInStep.yield r)) (TP X pins f Q) X.xe s
noncomputable def G5:TT:=λ_ H Q=>Q true H
def PZ:Tx X [] G5:=λ_ _ _ H _ I h=>W1 ⟨H,I,h⟩
def BL(g:PT X c t):Tx X [c] t:=by
 intro pins s f H Q I h;rw[List.forIn_cons];refine Wu ?_;exact Wu (thn (g pins s f H Q I h) λb l q=>W1 (W1 q))
noncomputable def N8(φ:ZW)(v:TI)(g:TG)(tc:TT)(te:TE):TE:=λo H Q=>v o H λJ u=>∀D,u D=none->∃W:Nat->Nat->List V->Hp->Prop,(∃m,W 0 m [] (upd u D<|.lst []))/\
 ∀i m h n,W i m h n->(J.stop i n/\Q (.ref D) n)\/(J.go i n/\∀x s,J.yld i n x s->g x (atStart φ o) s λf w=>Sub (atStart φ o) f/\tc f w λb r=>
  if b=true then te f r λy p=>p D=some (.lst h)/\h.length<sizeLine/\∃l,l<m/\W (i+1) l (h++[y]) (upd p D<|.lst (h++[y]))else ∃l,l<m/\W (i+1) l h r)
def Inv.weak {g f:L2.St}{H}{s} (I:Inv X pins f H s) (S:Sub g f):Inv X pins g H s:=
 ⟨I.ok,I.os,I.bare,I.base,let ⟨m,h,l⟩:=I.loc;⟨m,h,λi x v p o n=>l i x v p (S.2 i v o) n⟩,I.cell,I.free,I.freeC,I.pin,I.hok,by rw[←S.1];exact I.len⟩
def Hj{i:Nat}{v}(h:(atStart φ f)[i]?=some (some v)):∃j,φ[i]?=some (some j)/\f[j]?=some (some v):=by
 unfold atStart at h;cases e:φ[i]? with
 |none=>grind
 |some o=>
  cases o with
  |_=>grind
def CompEnd(X:Cx)(pins:ZT)(h:L2.St)(Q:VK)(use:Option (Value->Sem Unit))(l:ZV):Prop:=
 ∀(D C:Addr) (g:Hp) (f:Shared),Q (.ref D) g->Inv X pins h g f->(∃m,f.heap.Ns C m)->g C=none->C≠X.env.locals->X.s₀.heap.objs.size<=C->(∀x c,X.env.cells.lookup x=some c->c≠C)->(∀p∈X.pn++pins,p.1≠C)->C∉X.fs->
  compPost (model X.prog X.w) X.A X.xe use l (.ref D) C (.ok .next) f
def HP{elt iter tg}{ifs}{pos pos'}{wi}{g}{tc}{te}{use}{QQ}(hcalm:X.calm=true)(S:Np X N' φ G)(hi:PI X tg iter wi)(hin:∀U C s₃ H₃ ex,PG (Xx X N' G U C s₃ H₃ ex) tg g/\Tx (Xx X N' G U C s₃ H₃ ex) ifs tc/\PE (Xx X N' G U C s₃ H₃ ex) elt te)(hs:∀x,foldedSetIterable iter X.env x=pure x){pins}{s}{σ:L2.St}{H}{Q}(I:Inv X pins σ H s)(h:N8 φ wi g tc te σ H Q)(fin:CompEnd X pins σ Q use QQ) :
  wpAny (model X.prog X.w) X.A (comprehension (.ListComp elt [⟨tg,iter,ifs,0⟩] G pos) G X.env pos' (newList []) false (eval iter X.env) use) QQ X.xe s:=by
 obtain⟨U,hcl,p1,p3⟩:=Zdz λx hx hf=>I.ok.has x.1 (.inl<|S.frees x hx hf);refine wpAny_comprehension_free rfl hs hcl S.kind S.names ?_;refine thn (hi pins s σ H _ I h) λv s1 h1=>thn h1 λitv s2 h2=>?_;obtain⟨it,L,tn,J,H2,e,I2,T,st2,f2,hR⟩:=h2;subst e;refine Qp ?_;have hf:=I2.hok.fresh (W5 _);obtain⟨W,⟨m0,w0⟩,turn⟩:=hR s2.heap.objs.size hf;generalize eD:s2.heap.objs.size=D at *
 have I3:Inv X pins σ (upd H2 D<|.lst []) {s2 with heap:=s2.heap.push {cls:=.type "list",dict:=none,data:=.seq ([]:ZY).toArray}}:=
  I2.laid (λb u e=>Wz _ e) (QH eD) ⟨QB _,[],0,.nil,by rw[←eD];exact WD _ rfl⟩
 have st3:tn 0 (s2.heap.push {cls:=.type "list",dict:=none,data:=.seq ([]:ZY).toArray}):=T.keep _ _ _ st2 λb _ o e=>Wz _ e
 have hfpD:∀b∈L,b≠D:=λb f z=>by
  obtain⟨o,ho,_⟩:=T.obj _ _ st2 b f
  have:=WE ho
  rw[z,←eD]at this;exact QA _ this
 have f3:∀b∈L,PD X pins (upd H2 D<|.lst []) b:=λb f=>⟨by rw[UR (hfpD b f)];exact(f2 b f).1,(f2 b f).2⟩;generalize es3:({s2 with heap:=s2.heap.push {cls:=.type "list",dict:=none,data:=.seq ([]:ZY).toArray}}:Shared)=l at *
 have st3':tn 0 l.heap:=by rw[←es3];exact st3
 generalize eH3:upd H2 D (.lst [])=H3 at *;refine wpAny_newFunctionEnv S.nocell (by intro y hy;simp at hy) (λh₁ E B=>?_) S.kind;have hh3:l.heap=s2.heap.push {cls:=.type "list",dict:=none,data:=.seq ([]:ZY).toArray}:=by rw[←es3]
 rw[hh3]at E B;rw[←hh3]at E B;have old:=λb o e=>B.extBut b o (WV<|WE e) (Wz _ e)
 have hC0:l.heap.get? l.heap.objs.size=none:=by
  cases e:l.heap.get? l.heap.objs.size with
  |none=>rfl
  |some o=>exact absurd (WE e) (QA _)
 generalize eC:l.heap.objs.size=C at *;have hH3C:=I3.hok.fresh (QH eC)
 have OK:(Xx X N' G U C l H3 L).Ok:=by
  refine⟨I.ok.mod,?_,I.ok.glob,I.ok.blt,QH eC,λx y c h1 h2=>I.ok.inj x y c (p1 x c h1) (p1 y c h2),?_,(λx c hx=>by cases hx),I.ok.hd,I.ok.frames,.inl rfl,?_,I3.bs,W9 I.ok.bsz I3.sz,?_,?_,I3.stack,I3.stkFree⟩
  ·exact S.kind
  ·intro x hx;have hx':=hx.imp Fh Fh
   have hfr:(x,NameKind.free)∈G.names:=by
    rcases hx' with⟨k,hm,rfl|rfl⟩|⟨k,hm,rfl|rfl⟩
    ·exact absurd rfl (S.nocell _ hm)
    ·exact hm
    ·exact hm
    ·exact hm
   exact p3 _ hfr rfl
  ·intro b f;refine⟨λz=>?_,λx c hx=>(f3 b f).2.2.2.2.1 x c (p1 x c hx)⟩;obtain⟨o,ho,_⟩:=T.obj _ _ st3' b f;have z':b=C:=z;rw[z',hC0]at ho;cases ho
  ·intro b o f hx;obtain⟨_,_,_,q,_,_⟩:=f3 b hx;rcases q with q|q
   ·exact I.ok.noex b o f q
   ·have:=Qf (WE f) (W9 I.ok.bsz q)
    exact QA _ this
  ·intro b f hz;rcases W8.mp (I.stkSub b hz)with q|q
   ·exact(f3 b f).2.1 q
   ·exact(f3 b f).2.2.1 q
 have hlen0:(atStart φ σ).length=N'.length:=by unfold atStart;rw[Wt];exact S.len
 have I4:Inv (Xx X N' G U C l H3 L) [] (atStart φ σ) H3 {l with heap:=h₁,toks:=l.toks+([]:List (Str×Value)).length}:=by
  refine⟨OK,rfl,I3.bare,Un.kept old,⟨_,E,λi x v h1 h2 h3=>?_⟩,λx c hx=>?_,hH3C,λx c hx=>I3.freeC x c (p1 x c hx),λp hp=>?_,I3.hok.kept old,hlen0⟩
  ·obtain⟨j,hj,hv⟩:=Hj h2;obtain⟨hN,hfr⟩:=S.pick i x j h1 hj;obtain⟨m,_,hl⟩:=I3.loc;have hm:=QO hfr;have M:=S.frees _ hm rfl;obtain⟨u,ru,lk⟩:=hl j x v hN hv (.inr<|.inl M);refine⟨u,ru,.inr ⟨.inl (DW S.okind hfr M),?_⟩⟩;obtain⟨c,hc⟩:=p3 _ hm rfl;rcases lk with⟨hk,_⟩|⟨_,c',hc',hcl'⟩
   ·have hk':X.env.scope.names.lookup x=some .local:=hk;rw[M]at hk';cases hk'
   ·have e:=p1 _ _ hc;rw[hc']at e;cases e
    obtain⟨o,ho,hd⟩:=hcl';exact⟨_,hc,o,old _ o ho,hd⟩
  ·obtain⟨v,hv⟩:=I3.cell x c (p1 x c hx);obtain⟨o,ho,hd⟩:=hv;exact⟨v,o,old _ o ho,hd⟩
  ·exact absurd hp (by simp[Xx])
 have st4:=T.keep _ _ _ st3' λb _ o e=>old b o e
 have stat:∀{H':Hp},(∀b∈L,H' b=none)->∀b∈L,PD (Xx X N' G U C l H3 L) [] H' b:=λhn b f=>
  ⟨hn b f,(OK.exf b f).1,OK.exfs b f,.inl f,(OK.exf b f).2,λp hp=>absurd hp (by simp[Xx])⟩
 obtain⟨hPG,hPI,hPE⟩:=hin U C l H3 L
 have loop:codeAny (model X.prog X.w) X.A (.compLoop (.ListComp elt [⟨tg,iter,ifs,0⟩] G pos) 0 (.ref it) (.ref D)<|compEnvC G U C X.env) (compPost (model X.prog X.w) X.A X.xe use QQ (.ref D) C) {l with heap:=h₁,toks:=l.toks+([]:List (Str×Value)).length}:=by
  refine Zln (λn s'=>∃i ys σ' H',Inv (Xx X N' G U C l H3 L) [] σ' H' s'/\Sub (atStart φ σ) σ'/\tn i s'.heap/\(∀b∈L,H' b=none)/\W i n ys H') ?_ m0 ⟨0,[],_,_,I4,Sub.refl,st4,λb f=>(f3 b f).1,w0⟩;rintro n s5 ⟨i,ys,σ5,H5,I5,sub5,st5,fr5,w5⟩;have I5':=Own.Inv.weak I5 sub5;rcases turn i n ys H5 w5 with⟨stop,qn⟩|⟨go,step⟩
  ·refine thn (T.done (Xx X N' G U C l H3 L) rfl rfl rfl hcalm i [] s5 _ H5 _ I5' (stat fr5) st5 stop) ?_;rintro r s6 ⟨hr,I6⟩;subst hr;obtain⟨m,hn,_⟩:=I6.loc;obtain⟨hh,gg,dd,tt,oo⟩:=s6;obtain rfl:=I6.os;have R:Inv X pins σ H5 {l with heap:=hh,gens:=gg,drawn:=dd,toks:=tt}:=I3.call I6.base I6.hok I6.bare λb f=>⟨(f3 b f).2.2.2.1,(f3 b f).2.1,(f3 b f).2.2.2.2.1,(f3 b f).2.2.2.2.2⟩
   have hC3:=QH eC;obtain⟨q0,q1,q2,q3,q4,q5⟩:=I3.fpOk hC3 hH3C;refine fin D C H5 _ qn R ⟨m,hn⟩ I6.free q1 (W9 I3.sz hC3) q4 q5 q2
  ·refine thn (T.item (Xx X N' G U C l H3 L) rfl rfl rfl hcalm i [] s5 _ H5 _ I5' (stat fr5) st5 go) ?_;rintro r s6 ⟨u,hr,h6⟩;subst hr;refine thn h6 ?_;rintro _ s7 ⟨x,H7,I7,r7,y7,st7,fr7⟩;have I7':=I7.pinned (stat fr7) (T.obj _ _ st7);refine thn (hPG _ s7 _ H7 x u _ I7' r7<|step x H7 y7) ?_;rintro _ s8 ⟨σ8,H8,I8,sub8,q8⟩;refine thn (hPI _ s8 σ8 H8 _ I8 q8) ?_;rintro ok s9 ⟨H9,I9,q9⟩
   have again:∀{Y:Shared} {N:Hp} {ys':List V} {m':Nat},Inv (Xx X N' G U C l H3 L) ([]++NH L s7.heap) σ8 N Y->W (i+1) m' ys' N->∃i ys σ' H',Inv (Xx X N' G U C l H3 L) [] σ' H' Y/\Sub (atStart φ σ) σ'/\tn i Y.heap/\(∀b∈L,H' b=none)/\W i m' ys H':=λ{Y N ys' m'} J10 w10=>by
    refine⟨i+1,ys',σ8,N,J10.unpinned,sub8,T.keep _ _ _ st7 λb f o e=>(J10.pin (b,o)<|WR _<|WR _<|SB f e).1,λb f=>?_,w10⟩;obtain⟨o,e,d⟩:=T.obj _ _ st7 b f;exact(J10.pin (b,o)<|WR _<|WR _<|SB f e).2.1
   cases ok with
   |false=>
    obtain⟨m',hm,w'⟩:=q9;exact⟨m',hm,again I9 w'⟩
   |true=>
    refine thn (hPE _ s9 σ8 H9 _ I9 q9) ?_;rintro xv Y ⟨y,N,I10,r10,hD,hl,m',hm,w'⟩;refine thn (NK _ Y σ8 N (.ref D) [y] (.ref D) [xv] (λ_ H11=>H11=upd N D (.lst (ys++[y]))) I10 rfl (.cons r10 .nil) ⟨D,ys,y,rfl,rfl,hD,hl,rfl⟩) ?_;rintro _ s11 ⟨_,H11,I11,_,e11⟩;subst e11;exact⟨m',hm,again I11 w'⟩
 refine codeAny_compStart_list loop (T.self _ 0 _ _ _ st4 loop)
def Dw{r iter v p pos z g tc te}(n:X.calm=true)(S:Np X N' φ u)(G:PI X v iter z)(w:∀y C f l ex,PG (Xx X N' u y C f l ex) v g/\Tx (Xx X N' u y C f l ex) p tc/\PE (Xx X N' u y C f l ex) r te)(hs:autoParam (∀x,foldedSetIterable iter X.env x=pure x) au_3):PE X (.ListComp r [⟨v,iter,p,0⟩] u pos) (N8 φ z g tc te):=by
 intro pins s σ H Q I h;refine HP n S G w hs I h λD C Y s6 q R E U T N M L c5=>?_;obtain⟨m,B⟩:=E;exact⟨m,B,λh' A=>⟨.ref D,Y,R.turned (λb o J e=>A.extBut b o J e) U T (.inr N) M L,rfl,q⟩⟩
def R0{u iter A n pos spos py M g tc te i y}(hN:X.N.Nodup)(hy:X.N[i]?=some y)(Q:X.env.scope.names.lookup y=some .local)(r:X.calm=true)(S:Np X N' φ w)(hi:PI X A iter M)(G:∀L C f l ex,PG (Xx X N' w L C f l ex) A g/\Tx (Xx X N' w L C f l ex) n tc/\PE (Xx X N' w L C f l ex) u te)(hs:autoParam (∀x,foldedSetIterable iter X.env x=pure x) au_3)(E:autoParam (swapsWith (.ListComp u [⟨A,iter,n,0⟩] w pos) (some<|.Name y py) spos.line X.env=pure true) au_0) :
  PS X (.Assign [.Name y py] (.ListComp u [⟨A,iter,n,0⟩] w pos) spos) (PV (N8 φ M g tc te)<|Nn i):=by
 intro pins s Y H D0 I h;rw[exec_Assign_Name_used _ _ _ _ E];refine Wu (wpAny_standAt<|Wu ?_);refine Wu (Qv (HP r S hi G hs I h λD C U s6 q R hm c0 c1 c2 c3 c4 c5=>?_) (λ_ s' z=>W1 (W1 z)) λ_ _ e=>e);obtain⟨m,B,es,ep,hoC,J,rC⟩:=hm
 have R2:Inv X (pins++[(C,B)]) Y U s6:=R.pins_of λp hp=>(WC.mp hp).elim (λz=>R.pin p (WR _ z)) λz=>by
  grind
 refine wpAny_assign_Name (B8 R2 hN hy (.inl Q) (v:=.ref D) rfl (λs7 T=>?_)<|.inr Q);refine⟨m,⟨B,es,ep,((T.pin (C,B)<|WR _<|WR _<|Wx.mpr rfl).1),J,rC⟩,λh' sb=>?_⟩;exact⟨_,U,T.unpinned.turned (λb o hb e=>sb.extBut b o hb e) c0 c1 (.inr c2) c3 c4,q⟩
noncomputable def Sl(sc f:Scope)(N N':ZZ)(φ:ZW):Bool:=
 sc.kind == .function&&f.kind == .function&&(sc.names.all λy=>y.2 != .cell&&(y.2 != .local || sc.names.lookup y.1==some .local)&&(y.2 != .free || f.names.lookup y.1==some .cell)) &&
  φ.length==N'.length&&((N'.zip φ).all λp=>match p.2 with|none=>true|some j=>N[j]? == some p.1&&sc.names.lookup p.1==some .free)
def Np.of {N'}{φ g} (h:Sl g X.env.scope X.N N' φ=true):Np X N' φ g:=by
 unfold Sl at h;simp only[Ql,beq_iff_eq,QR,Bool.or_eq_true,bne_iff_ne,ne_eq]at h;obtain⟨⟨⟨⟨v,u⟩,s⟩,r⟩,p⟩:=h;refine⟨v,u,λy f=>(s y f).1.1,λy f w=>?_,λy f z=>?_,r,λi x j o n=>?_⟩
 ·grind
 ·grind
 ·have l:(N'.zip φ)[i]?=some (x,some j):=by rw[List.getElem?_zip_eq_some];exact⟨o,n⟩
  have:=p _ (W4 l)
  grind
end Own
namespace SetR
open PySem PySem.Spec PyProof.Rows L2
def Ris(xs:Array Nat):Prop:=∀i j,i<j->j<xs.size->xs.getD i 0<xs.getD j 0
def Lw{xs:Array Nat}{i a b}(h:i<xs.size):xs.getD i a=xs.getD i b:=by grind
def Zf6(R:Ris xs)(j:Nat):∀fuel lo f,f-lo<=fuel->lo<=f->f<=xs.size->(∀k,k<lo->xs.getD k 0<j)->(∀k,f<=k->k<xs.size->j<=xs.getD k 0)->
  let r:=SetTable.below.go xs j fuel lo f
  r<=xs.size/\(∀k,k<r->xs.getD k 0<j)/\∀k,r<=k->k<xs.size->j<=xs.getD k 0:=by
 intro fuel
 induction fuel with
 |zero=>
  intro lo f x w n l h;have e:lo=f:=by lia
  subst e;exact⟨n,l,h⟩
 |succ fuel s=>
  intro lo f x w n l h;show(let r:=(if lo<f then(if xs.getD ((lo+f) / 2) j<j then SetTable.below.go xs j fuel ((lo+f) / 2+1) f else SetTable.below.go xs j fuel lo ((lo+f) / 2))else lo);r<=xs.size/\(∀k,k<r->xs.getD k 0<j)/\∀k,r<=k->k<xs.size->j<=xs.getD k 0);by_cases u:lo<f
  ·rw[W3 u];have o:(lo+f) / 2<xs.size:=by lia
   by_cases g:xs.getD ((lo+f) / 2) j<j
   ·rw[W3 g];refine s _ _ (by lia) (by lia) n (λk v=>?_) h;rw[Lw o]at g;by_cases e:k=(lo+f) / 2
    ·rw[e];exact g
    ·exact Vv (R k _ (by lia) o) g
   ·rw[W2 g];refine s _ _ (by lia) (by lia) (by lia) l (λk v p=>?_);rw[Lw (b:=0) o]at g;by_cases e:k=(lo+f) / 2
    ·rw[e];lia
    ·have:=R _ k (show(lo+f) / 2<k by lia) p
     lia
  ·rw[W2 u];have e:lo=f:=by lia
   subst e;exact⟨n,l,h⟩
def EU(R:Ris xs)(j:Nat):SetTable.below xs j<=xs.size/\(∀k,k<SetTable.below xs j->xs.getD k 0<j)/\∀k,SetTable.below xs j<=k->k<xs.size->j<=xs.getD k 0:=
 Zf6 R j xs.size 0 xs.size (by simp) (by simp) (by simp) (λk f=>by lia) (λk h g=>by lia)
def Zdh(R:Ris xs){i}(f:i<=xs.size){slot}(l:∀k,k<i->xs.getD k 0<slot)(g:∀k,i<=k->k<xs.size->slot<=xs.getD k 0):SetTable.below xs slot=i:=by
 obtain⟨a,b,c⟩:=EU R slot;rcases Nat.lt_trichotomy (SetTable.below xs slot) i with h|h|h
 ·grind
 ·lia
 ·grind
def Rise(xs:Array Nat):Prop:=xs.toList.Pairwise (· < ·)
def Rise.ris (h:Rise xs):Ris xs:=by
 intro i j f g;have l:i<xs.size:=by lia
 have:=(WU.mp h) i j (by omega) (by omega) f
 simp_all
def Zge(h:Rise xs)(v:xs[SetTable.below xs j]?≠some j):Rise (SetTable.insertAt xs (SetTable.below xs j) j):=by
 obtain⟨a,b,c⟩:=EU h.ris j;generalize SetTable.below xs j=p at *;unfold Rise;rw[SetTable.toList_insertAt];refine Va.mpr ⟨h.sublist (QX _ _),QE.mpr ⟨λy g=>?_,h.sublist (List.drop_sublist _ _)⟩,λx hx y g=>?_⟩
 ·obtain⟨k,l,e⟩:=List.mem_drop_iff_getElem.mp g
  have f:p+k<xs.size:=by
   simp only[Qt]at l;lia
  have z:=c (p+k) (by lia) f;have u:xs.getD (p+k) 0=y:=by simpa [Array.getD,f]using e
  rcases Nat.lt_or_ge j y with s|s
  ·exact s
  ·have ey:y=j:=by lia
   exfalso;rcases Nat.eq_zero_or_pos k with rfl|w
   ·apply v;rw[Q5 (by lia)]
    have:xs[p]=y:=by simpa using e
    rw[this,ey]
   ·have B:=h.ris p (p+k) (by lia) f;have A:=c p (W5 _) (by lia);lia
 ·have n:x<j:=by
   obtain⟨k,l,e⟩:=List.mem_take_iff_getElem.mp hx;have r:k<p:=by lia
   have o:k<xs.size:=by lia
   have:=b k r
   have u:xs.getD k 0=x:=by simpa [Array.getD,o]using e
   lia
  rcases W8.mp g with rfl|g
  ·exact n
  ·obtain⟨k,l,e⟩:=List.mem_drop_iff_getElem.mp g
   have f:p+k<xs.size:=by
    simp only[Qt]at l;lia
   have z:=c (p+k) (by lia) f;have u:xs.getD (p+k) 0=y:=by simpa [Array.getD,f]using e
   lia
structure Tb (b:Bool) (t:SetTable):Prop where
 led:t.led=b
 dum:t.dummies=#[]
 ris:Rise t.place
def EB(j:Nat):SetTable.has #[] j=false:=rfl
def Tb.fresh (b:Bool):Tb b (.fresh 0 0 b):=⟨rfl,rfl,List.Pairwise.nil⟩
def Zeu(n:Nat):Rise (Array.range n):=by
 unfold Rise;rw[Array.toList_range];exact List.pairwise_lt_range
def Tb.stand (h:Tb b t) (n:Nat):Tb b (t.standIn n):=⟨h.led,rfl,Zeu n⟩
def Tb.orStand (h:Tb b t) (n:Nat):Tb b (t.orStandIn n):=by
 unfold SetTable.orStandIn;split
 ·lia
 ·exact h.stand n
def Tb.plainOff (h:Tb b t):Tb b {t with plain:=false}:=⟨h.led,h.dum,h.ris⟩
def Tb.put (h:Tb b t) {j} (f:t.place[SetTable.below t.place j]?≠some j):Tb b (t.put j).1:=by
 refine⟨h.led,?_,Zge h.ris f⟩;show(if SetTable.has t.dummies j=true then _ else t.dummies)=#[];rw[h.dum,EB];rfl
def Zga(h:Tb b t)(f:Nat->Int)(z:Int):∀fuel p j d,p.dummy=none->SetTable.probe.go t f z fuel p=some (.empty j d)->d=none/\t.place[SetTable.below t.place j]?≠some j:=by
 intro fuel
 induction fuel with
 |zero=>intro p j d _ e;cases e
 |succ fuel n=>
  intro p j d o e;unfold SetTable.probe.go at e
  have l:∀q,q.dummy=none->(t.advance q).dummy=none:=λq hq=>by
   unfold SetTable.advance;split
   ·exact hq
   ·exact hq
  cases g:t.slot p.j with
  |empty=>
   rw[g]at e;unfold SetTable.slot at g
   grind
  |dummy=>
   unfold SetTable.slot at g
   dsimp only at g
   split at g
   ·cases g
   ·rw[h.dum,EB]at g;simp at g
  |live i=>
   rw[g]at e
   dsimp only at e
   split at e
   ·cases e
   ·exact n _ j d (l p o) e
def Tb.layNew (h:Tb b t) (es:Ye) (z:Int) (x:Value):Tb b (PySem.layNew t es z x).2.1:=by
 unfold PySem.layNew;split
 ·rename_i slot wasDummy e
  have f:t.place[SetTable.below t.place slot]?≠some slot:=by
   unfold SetTable.freeSlot SetTable.probe at e;split at e
   ·rename_i j dummy g;obtain⟨n,l⟩:=Zga h _ _ _ _ _ _ rfl g
    grind
   ·grind
  exact(h.put f).orStand _
 ·exact h.stand _
def Zhv(n:Nat)(f:Nat->Option Nat):((List.range n).filterMap λj=>(f j).map (j,·)).Pairwise (λa b=>a.1<b.1):=by
 refine List.Pairwise.filterMap _ ?_ List.pairwise_lt_range;intro a l h b o r g;cases e:f a with
 |none=>grind
 |some v=>
  cases p:f l with
  |_=>grind
def Tb.relayAll (h:Tb b t) (es:Ye) (n:Nat):Tb b (PySem.relayAll t es n).2.1:=by
 unfold PySem.relayAll;split
 ·rename_i l order e
  dsimp only
  split
  ·unfold SetTable.relaid SetTable.laid at e;cases f:SetTable.layClean (SetTable.sizeAbove n-1) (es.map (·.1))with
   |none=>grind
   |some owner=>
    rw[f]at e;have g:=Qk Prod.fst (WB e);subst g;refine⟨h.led,rfl,?_⟩;show(List.map (λx=>x.fst) ((List.range (SetTable.sizeAbove n-1+1)).filterMap λj=>(owner.getD j none).map (j,·))).toArray.toList.Pairwise (· < ·);rw[List.toList_toArray,Jt];exact Zhv _ _
  ·exact h.stand _
 ·exact h.stand _
noncomputable def keyOf(e:Int×Value):Int:=match e.2 with
 | .int k _=>k
 |_=>0
def Ent(e:Int×Value):Prop:=∃(k:Int) (t:Tok),e=(hashInt k,.int k t)
section
variable (prog:Program) (w:World)
noncomputable def K9(w:World):Bool:=w.params.followText "set-order"
structure X3 (h:Heap) (a:Addr) (js:ZS) (es:Ye) (ep:Nat) (t:SetTable):Prop where
 obj:∃o,h.get? a=some o/\o.ExactSet/\o.data=.set es ep t
 ent:∀e∈es.toList,Ent e
 per:(es.toList.map keyOf).Perm js
 nod:js.Nodup
 few:es.size<scanBound
 fit:t.fits es.size=true
 tab:Tb (!K9 w) t
def SetB(h:Heap)(a:Addr)(f:ZS):Prop:=∃g l t,X3 w h a f g l t
end
section
variable {prog:Program}{w:World}{A:Around}{E:ZV}{s:Shared}
def Ent.elems (h:∀e∈l,Ent e):ElemsOf (intKind prog w) l:=λe f=>by
 obtain⟨k,t,rfl⟩:=h e f;exact⟨⟨k,intKind_is _ _ _ _,rfl⟩,rfl⟩
def DP(h:Ent e)(k:Int):(intKind prog w).is k e.2=decide (k=keyOf e):=by
 obtain⟨f,t,rfl⟩:=h;show Value.isInt k (.int f t)=decide (k=f);by_cases e:k=f
 ·subst e;simp[Value.isInt]
 ·rw[Qa e];simp[Value.isInt];lia
def SetB.len (S:X3 w h a f es g t):es.size=f.length:=by
 have:=S.per.length_eq
 grind
def SetB.at {a l} (S:SetB w h a l) (k:∀o,h.get? a=some o->p.get? a=some o):SetB w p a l:=by
 obtain⟨u,v,t,⟨o,n,r⟩,b,c,d,e,f,g⟩:=S;exact⟨u,v,t,⟨o,k o n,r⟩,b,c,d,e,f,g⟩
def X3.store {es f}{l t t'} (S:X3 w h a B es l t) (z:∀e∈f.toList,Ent e) (y:(f.toList.map keyOf).Perm g) (x:g.Nodup) (v:f.size<scanBound)
  (u:t'.fits f.size=true) (r:Tb (!K9 w) t'):X3 w (h.update a<|Obj.putSet f t') a g f (l+1) t':=by
 obtain⟨o,p,hx,n⟩:=S.obj;refine⟨⟨{o with data:=.set f (l+1) t'},?_,hx,rfl⟩,z,y,x,v,u,r⟩
 have q:=Qo (Obj.putSet f t') p (by rw[putSet_of f t' n];rfl);rwa[putSet_of f t' n]at q
def GB{g:Bool->Sem Unit}(hg:∀b G N,N () G->wpAny (model prog w) A (g b) N E G){a T h}{es f}{ep t t'}(S:X3 w s.heap a T es ep t)(M:∀e∈f.toList,Ent e)(L:(f.toList.map keyOf).Perm h)(J:h.Nodup)(u:f.size<scanBound)(h5:t'.fits f.size=true)(H:Tb (!K9 w) t'){d R}(n:∀v,Heap.SameBut a s.heap v->SetB w v a h->R (some true) {s with heap:=v}) :
  wpAny (model prog w) A (do
    storeSet a f t'
    if (!d&&t'.tooFull)=true then do
      g (relayAll t' f<|SetTable.grown f.size).2.2
      storeSet a (relayAll t' f<|SetTable.grown f.size).1 (relayAll t' f<|SetTable.grown f.size).2.1
      pure (some true)
     else pure (some true)) R E s:=by
 obtain⟨o,Y,hx,hd⟩:=S.obj;have C:=S.store M L J u h5 H;obtain⟨o1,p,U,r⟩:=C.obj;have Q:=Qx s.heap a (Obj.putSet f t');refine Wu (wpAny_storeSet_of Y hd ?_<|VM u);split
 ·have l:=relayAll_perm t' f (SetTable.grown f.size);have x:=relayAll_fits t' f (SetTable.grown f.size);have tt:=H.relayAll f (SetTable.grown f.size);generalize relayAll t' f (SetTable.grown f.size)=y at l x tt ⊢;obtain⟨B,t2,g2⟩:=y
  dsimp only at l x tt ⊢
  have z:B.size=f.size:=by rw[←Qt,l.length_eq,Qt]
  refine Wu (hg _ _ _<|Wu<|wpAny_storeSet_of p r ?_<|VM<|by lia);exact W1 (n _ (Q.trans<|Qx _ a _) ⟨_,_,_,C.store (λe he=>M e (l.mem_iff.mp he)) ((l.map keyOf).trans L) J (by rw[z];exact u) x tt⟩)
 ·exact W1 (n _ Q ⟨_,_,_,C⟩)
noncomputable def X7(f:ZS)(k:Int):ZS:=if k∈f then f else f++[k]
def Zfd{R}(S:SetB w s.heap a n)(room:n.length+1<scanBound)(J:∀r g,Heap.SameBut a s.heap g->SetB w g a (X7 n k)->R r {s with heap:=g}) :
  wpAny (model prog w) A (setAddHashed a (.int k u)<|hashInt k) R E s:=by
 obtain⟨l,ep,t,S⟩:=S;obtain⟨o,ho,hx,hd⟩:=S.obj;have el:=Ent.elems (prog:=prog) (w:=w) S.ent;have N:=SetB.len S;refine QM (Wu<|QY ho hd S.fit ?_)
 dsimp only
 rw[byScan_of rfl S.few el];simp only[↓reduceIte];unfold setAddByScan;refine Wu (Wu<|wpAny_rule<|Wu<|wpAny_setScan_of (intKind_is _ _ _ _) ho hd S.fit el ?_);have H:∀z,z∈n↔∃e∈l.toList,keyOf e=z:=λz=>by rw[←S.per.mem_iff,WZ]
 cases q:List.findIdx? (λe=>(intKind prog w).is k e.2) l.toList with
 |some j=>
  dsimp only
  obtain⟨hj,Y,_⟩:=List.findIdx?_eq_some_iff_getElem.mp q
  have M:k∈n:=by
   rw[DP (S.ent _<|WL hj)]at Y;exact(H k).mpr ⟨_,WL hj,(Wy Y).symm⟩
  refine W1 (W1 ?_);have f:=J false s.heap (Heap.SameBut.refl a s.heap);unfold X7 at f;rw[W3 M]at f;exact f ⟨_,_,_,S⟩
 |none=>
  dsimp only
  have M:¬k∈n:=λN=>by
   obtain⟨e,he,Q⟩:=(H k).mp N
   have:=List.findIdx?_eq_none_iff.mp q e he
   rw[DP (S.ent e he),Ww Q.symm]at this;cases this
  have P:=layNew_perm t l (hashInt k) (.int k u);have F:=layNew_fits t l (hashInt k) (.int k u);have T:=S.tab.layNew l (hashInt k) (.int k u);change wpAny (model prog w) A (match layNew t l (hashInt k) (.int k u)with|(l,t,wasDummy,gave)=>_) _ _ _
  generalize layNew t l (hashInt k) (.int k u)=y at P F T ⊢;obtain⟨p,t1,d1,g1⟩:=y
  dsimp only at P F T ⊢
  rw[Array.toList_push]at P
  have e1:∀e∈p.toList,Ent e:=λe he=>by
   rcases WC.mp (P.mem_iff.mp he)with he|he
   ·exact S.ent e he
   ·rw[Wx.mp he];exact⟨k,u,rfl⟩
  have e2:(p.toList.map keyOf).Perm (n++[k]):=by
   refine(P.map keyOf).trans ?_;rw[WI];exact S.per.append_right _
  have e3:(n++[k]).Nodup:=Qm.mpr ⟨S.nod,by simp,λx hx y hy=>by rw[Wx.mp hy];rintro rfl;exact M hx⟩
  have e4:p.size<scanBound:=by
   rwa[←Qt,P.length_eq,W7,Qt,N]
  have h:=λg B G=>by
   have f:=J true g B;unfold X7 at f;rw[W2 M]at f;exact f G
  have U:∀b {C:Shared} {L:Unit->Shared->Prop},L () C->wpAny (model prog w) A (match b with|true=>rule "set.scan.the-table-gave-way" |false=>pure ()) L E C:=λb C L v=>by cases b<;>first|exact W1 v|exact wpAny_rule v
  refine Wu (U _ ?_);split
  ·refine Wu ?_;rw[hashByValue_scannable 8 rfl];refine W1 (GB (λb C L v=>U b v) S e1 e2 e3 e4 ?_ ?_ λg B G=>W1 (h g B G))
   ·split
    ·exact F
    ·exact SetTable.fits_plain_off F
   ·split
    ·exact T
    ·exact T.plainOff
  ·refine Wu (W1 ?_);simp only[↓reduceIte];exact GB (λb C L v=>U b v) S e1 e2 e3 e4 F T λg B G=>W1 (h g B G)
def Zh9{I H y P St}{ns:ZS}(W:Walks prog w A.in1 I H y ns.length P St)(S:Addr)(G:S∉H)(M:∀i v,P i v->∃t,v=.int (ns.getD i 0) t)(room:ns.length+1<scanBound):∀k i s n,ns.length-i=k->i<=ns.length->St i s.heap->SetB w s.heap S n->n.length<=i->
   (∀h p,(∀b o,b∉S::y->s.heap.get? b=some o->h.get? b=some o)->SetB w h S ((ns.drop i).foldl X7 n)->R (.ok<|.ret .none) {s with heap:=h,toks:=p})->
   codeAny (model prog w) A (.builtin "set.update.loop" ⟨[.ref S,.ref I],[]⟩) R s:=by
 have u:=λz=>G (W.sub _ z);intro k
 induction k with
 |zero=>
  intro i s n N T st B Q l;have ei:i=ns.length:=by lia
  refine Vp VA ?_;show wpAny _ A.in1 (pyNext (.ref I) >>= _) _ _ s;refine Wu (W.done s _ _ (ei▸st) λh p keep=>?_);show wpAny _ A.in1 (ret Value.none) _ _ _;refine W1 (l h p (λb o g e=>keep b o (λz=>g (WK _ z)) e) ?_);rw[ei,List.drop_length];exact B.at λo e=>keep S o u e
 |succ k L=>
  intro i s n N T st B Q l;have f:i<ns.length:=by lia
  refine Vp VA ?_;rw[V1 VB _];show wpAny _ A.in1 (pyNext (.ref I) >>= _) _ _ s;refine Wu (W.item i s _ _ f st λv U J pv x keep1=>?_);obtain⟨t,rfl⟩:=M i v pv;have B1:=B.at λo e=>keep1 S o u e;unfold setAdd;refine Wu (QM<|QM<|Wu ((intKind prog w).pyHash (intKind_is _ _ _ _) ?_));refine Zfd B1 (by lia) λr h2 C B2=>?_
  have Y:(X7 n<|ns.getD i 0).length<=i+1:=by
   unfold X7;split
   ·lia
   ·simp;lia
  refine W1 ⟨plainId_quiet VB _,L (i+1) _ _ (by lia) f (W.frame _ U _ x λb g o e=>?_) B2 Y λh p keep B'=>?_⟩
  ·rw[C.2 b (λz=>G (by rw[←z];exact g))];exact e
  ·refine l h p (λb o g e=>keep b o g ?_) ?_
   ·rw[C.2 b (λz=>g (by rw[z];exact WW))];exact keep1 b o (λz=>g (WK _ z)) e
   ·have e1:ns.drop i=ns.getD i 0::ns.drop (i+1):=by
     rw[V5 f,WA,Wv f];rfl
    rwa[e1]
def OX(a:Value){Q}(f:Q (.ref s.heap.objs.size) {s with heap:=s.heap.push {cls:=.type "set",dict:=none,data:=.set #[] 0 (.fresh 0 0 (!K9 w))}}) :
  codeAny (model prog w) A (.call (.builtin "set.__new__") ⟨[.type "set",a],[]⟩) (wants Q E) s:=by
 refine codeAny_of_tree (?_);refine Wu (wpAny_of_eq (F.newCall_set_1 a)<|W1 ⟨plainId_quiet F.plain_set_new _,Vp F.entry_set_new ?_⟩);rw[(V1 (A:=A) F.plain_set_new ⟨[.type "set",a],[]⟩)];unfold Builtin.«set.__new__» Builtin.Frozenset.newClass;have g:=sub_set_self
 dsimp only
 wp_walk
 refine wpAny_askSetting (W1<|?_)
 dsimp only
 simp only[newObj];exact Wu (wpAny_alloc<|W1<|W1 f)
set_option maxHeartbeats 4000000 in
def Ziw{l:Addr}{f:Array Value}{ns:ZS}{Q:ZV}(hh:A.handled=none)(hl:s.heap.IsList l f)(hi:IntsAre f.toList ns)(room:ns.length+1<scanBound)(U:∀(h:Heap) (u:Nat),SetB w h s.heap.objs.size (ns.foldl X7 [])->(∀b o,b<s.heap.objs.size->s.heap.get? b=some o->h.get? b=some o)->Q (.ref s.heap.objs.size) {s with heap:=h,toks:=u}) :
  wpAny (model prog w) A (call (.type "set") [.ref l]) Q E s:=by
 have hn:f.size=ns.length:=by have:=IntsAre.length hi;simpa using this
 obtain⟨mroC,mroT,mro⟩:=F.called_set.mro;have made:=F.called_set.made;have subs:=F.called_set.sub;refine wpAny_call (codeAny_of_tree<|show wpAny _ _ (callAny (.type "set") _) _ _ _ from ?_)
 refine W1 ⟨Code.quiet_builtin _ (by decide +kernel),Vp F.entry_type_call ?_⟩;have wt:=Around.under_plain (A:=A) (weight_type_call_type "set" [.ref l] []) rfl;rw[wt];have nt:=F.called_set.notType;have cc:=F.called_set.canCreate;have tc:=F.typeCall_set_1 (.ref l)
 repeat (any_goals (first|assumption|wp_step))
 refine Vu (OX (.ref l) (E:=E) (Q:=λobj s1=>obj=.ref s.heap.objs.size/\s1={s with heap:=s.heap.push {cls:=.type "set",dict:=none,data:=.set #[] 0 (.fresh 0 0 (!K9 w))}}) ⟨rfl,rfl⟩) λr s1 y=>?_
 cases r with
 |error e=>exact y
 |ok fl=>
  cases fl with
  |next=>exact y.elim
  |brk=>exact y.elim
  |cont=>exact y.elim
  |ret obj=>
   obtain⟨rfl,rfl⟩:=y;generalize J:s.heap.push {cls:=.type "set",dict:=none,data:=.set #[] 0 (.fresh 0 0 (!K9 w))}=n;have g1:n.get? s.heap.objs.size=some {cls:=.type "set",dict:=none,data:=.set #[] 0 (.fresh 0 0 (!K9 w))}:=by rw[←J];exact WD _ rfl
   have hT:Shared.TypeIs {s with heap:=n} (.ref s.heap.objs.size) "set":=⟨_,g1,rfl⟩
   have ini:=F.called_set.init.lookup;have inb:=F.called_set.init.bind (.ref s.heap.objs.size)
   repeat (any_goals (first|assumption|wp_step))
   refine Vu (codeAny_call_builtin (R:=wants (λr Y=>r=.none/\∃h u,Y={s with heap:=h,toks:=u}/\SetB w h s.heap.objs.size (ns.foldl X7 [])/\(∀b o,b<s.heap.objs.size->s.heap.get? b=some o->h.get? b=some o)) E)
    F.called_set.init.plain F.entry_set_init (check_set_init_1 hT ?_)) λr2 Y g=>?_
   ·obtain⟨ob,C,H,nl,G⟩:=hl;obtain⟨c1,d1,dt1,L⟩:=ob;simp only at H G;subst H;subst G;have z:n.get? l=some {cls:=.type "list",dict:=d1,data:=.seq f nl,slots:=L}:=by rw[←J];exact Wz _ C
    have p:n.objs.size=s.heap.objs.size+1:=by rw[←J,Vc]
    have no1:=F.sub_list_set;have no2:=F.sub_list_frozenset;have no3:(Value.type "list" == Value.type "dict")=false:=by decide
    have L1:n.IsList l f:=⟨_,z,rfl,nl,rfl⟩;unfold Builtin.«set.__init__» noKeywords Builtin.Frozenset.updateFrom;generalize eP:pyIter=PI
    wp_walk
    subst eP;refine wpAny_pyIter_list L1 (Wu<|wpAny_runValue ?_);have x:l<s.heap.objs.size:=WE C;have T:A.in1.in1.in1.handled=none:=by simp[hh]
    have N:l≠n.objs.size:=by rw[p];exact WV (VN x)
    have M:s.heap.objs.size∉[n.objs.size,l]:=by
     rw[p];simp only[W8,VW,or_false,not_or];exact⟨WV (Ve _),Jx x⟩
    have W0:=Walks.list (prog:=prog) (w:=w) T n.objs.size l N f;rw[hn]at W0;refine Zh9 (ns:=ns) W0 s.heap.objs.size M (λi v hv=>IntsAre.int_at hi i v (by rw[Q6];exact hv)) room (ns.length-0) 0 _ [] rfl (QB _) ⟨⟨_,WD _ rfl,rfl,rfl⟩,L1.push _⟩ ?_ (QB _) λh u keep B=>?_
    ·exact⟨#[],0,_,⟨_,Wz _ g1,⟨rfl,rfl,rfl⟩,rfl⟩,λe he=>by simp at he,by simp,Vd,by show(0:Nat)<4096;decide,rfl,Tb.fresh _⟩
    ·show wpAny _ _ _ _ _ _;refine W1 (show wpAny _ _ (ret Value.none) _ _ _ from W1 ⟨rfl,h,u,rfl,B,λb o hb e=>?_⟩)
     refine keep b o ?_ (Wz _<|by rw[←J];exact Wz _ e);rw[p];simp only[W8,VW,or_false,not_or];exact⟨WV hb,WV (VN hb)⟩
   ·cases r2 with
    |error e=>exact g
    |ok f2=>
     cases f2 with
     |next=>exact g.elim
     |brk=>exact g.elim
     |cont=>exact g.elim
     |ret r=>
      obtain⟨rfl,h,u,rfl,B,keep⟩:=g
      repeat (any_goals (first|assumption|wp_step))
      exact U _ _ B keep
end
def si_slot:Slot "set_iterator" "__next__" "set_iterator.__next__":=
 Slot.of (owner:="set_iterator") (n:="__next__") (by rw[typeLookup_type,builtinLookup_eq_fast];kernel_rfl) (by decide +kernel) (by decide +kernel) (by decide +kernel)
  (by first|exact Or.inl (by decide +kernel)|exact Or.inr (by decide +kernel)) (by rw[isSubtype_type];kernel_rfl)
def Zgq:entryFor table "set_iterator.__next__"=some Builtin.«set_iterator.__next__»:=entryFor_of_tree rfl
def Rr(a:Value):argsOk "set_iterator.__next__" ⟨[a],[]⟩:=by trivial
def Zcs:entryFor table "set.__iter__"=some Builtin.«frozenset.__iter__»:=entryFor_alias (id':="frozenset.__iter__") (by kernel_rfl) rfl (by decide +kernel) (by kernel_rfl)
def IK:Slot "set_iterator" "__iter__" "set_iterator.__iter__":=
 Slot.of (owner:="set_iterator") (n:="__iter__") (by rw[typeLookup_type,builtinLookup_eq_fast];kernel_rfl) (by decide +kernel) (by decide +kernel) (by decide +kernel)
  (by first|exact Or.inl (by decide +kernel)|exact Or.inr (by decide +kernel)) (by rw[isSubtype_type];kernel_rfl)
def Zhj:entryFor table "set_iterator.__iter__"=some Builtin.«dict_keyiterator.__iter__»:=entryFor_alias (id':="dict_keyiterator.__iter__") (by kernel_rfl) rfl (by decide +kernel) (by kernel_rfl)
def Zd7(a:Value):argsOk "set_iterator.__iter__" ⟨[a],[]⟩:=by unfold argsOk;kernel_rfl
def SI(h:Heap)(I a:Addr)(first:Value)(i n f:Nat):Prop:=∃o,h.get? I=some o/\o.cls=.type "set_iterator"/\o.data=.fields #[first,.int i 0,.ref a,.int n 0,.int f 0]
section
variable {prog:Program}{w:World}{A:Around}{E:ZV}{s:Shared}{I a:Addr}{first:Value}{i n ep:Nat}{js:ZS}{es:Ye}{t:SetTable}
def SI.typ (h:SI s.heap I a first i n ep):s.TypeIs (.ref I) "set_iterator":=let ⟨o,f,g,_⟩:=h;⟨o,f,g⟩
def SI.at (x:SI h I a first i n ep) (k:∀o,h.get? I=some o->g.get? I=some o):SI g I a first i n ep:=let ⟨o,f,r⟩:=x;⟨o,k o f,r⟩
noncomputable def NW(first:Value)(a I:Addr)(i ep:Int):Sem PySem.Fin:=
 match first with
 |Value.int slot _=>do
  match ←setNext a slot.toNat i.toNat ep.toNat with
  |some (x,next)=>
   setField (.ref I) 0 (rawInt next)
   setField (.ref I) 1 (rawInt (i+1))
   ret x
  |none=>
   setField (.ref I) 2 .none
   raiseNew (←newExc (.type "StopIteration") [])
 |_=>do
  let some places ←seqItems? first|unsupported "internal:set_iterator"
  match places[i.toNat]? with
  |some (.int place _)=>
   let x ←setNextDrawn a place.toNat ep.toNat
   setField (.ref I) 1 (rawInt (i+1))
   ret x
  |some _=>unsupported "internal:set_iterator"
  |none=>
   setField (.ref I) 0 (rawInt 0)
   setField (.ref I) 2 .none
   raiseNew (←newExc (.type "StopIteration") [])
def Bq(f:SI s.heap I a first i es.size ep)(S:X3 w s.heap a js es ep t)
  (body:wpAny (model prog w) A.in1 (NW first a I i ep) (λp l=>∃v,p=.done (.ret v)/\Q (some v) l)
   (λe l=>wpAny (model prog w) A (isInstance e<|.type "StopIteration") (λb g=>b=true/\Q none g) E l) s) :
  wpAny (model prog w) A (pyNext<|.ref I) Q E s:=by
 obtain⟨o,x,G,y⟩:=id f;obtain⟨C,r,hx,u⟩:=S.obj;refine Wu (wpAny_attempt<|VH f.typ si_slot<|QS si_slot f.typ Zgq ?_<|Rr _);refine Wu (W1<|Wu<|wpAny_fieldsOf x y ?_);refine Wu (wpAny_setEntries_of r u S.fit ?_);rw[W2 (by simp)];refine Qv body (λp l h=>?_) λe l h=>?_
 ·obtain⟨v,e,q⟩:=h;exact⟨v,e,W1 q⟩
 ·refine Wu (Qv h (λb g B=>?_) λ_ _ z=>z);obtain⟨rfl,q⟩:=B;exact W1 q
def Ip{Q:Yc->Shared->Prop}{o}{vs}(r:A.handled=none)(p:s.heap.get? I=some o)(u:o.data=.fields vs)(v:2<vs.size)(g:∀h,Heap.ExtBut I s.heap h->Q none {s with heap:=h}){R:PySem.Fin->Shared->Prop} :
  wpAny (model prog w) A.in1 (do setField (.ref I) 2 .none;raiseNew (←newExc (.type "StopIteration") [])) R (λe l=>wpAny (model prog w) A (isInstance e<|.type "StopIteration") (λb f=>b=true/\Q none f) E l) s:=by
 refine Wu (QF p u v<|Wu ?_);refine Wu (Qp ?_<|by size_fits);refine Wu (wpAny_of_eq (by first|rfl|(simp only[firstArgMember];rfl))<|Qp ?_<|by size_fits)
 simp only[raiseNew];refine Wu (wpAny_handled ?_);rw[r];refine Wu (W1<|wpAny_throw ?_);refine wpAny_isInstance ⟨_,WD _ rfl,rfl⟩ isSubtype_stop ?_;exact⟨rfl,g _ (((Qx ..).extBut.push _).push _)⟩
def SI.step1 {x:Value} (g:s.heap.get? I=some o) (h:o.cls=.type "set_iterator") (f:o.data=.fields #[first,.int i 0,.ref a,.int n 0,.int ep 0]) :
  SI (s.heap.update I<|Obj.mapFields (·.setIfInBounds 1 (rawInt ((i:Int)+1)))) I a first (i+1) n ep:=
 ⟨_,Qo _ g (QG<|Qw f _),(VO ..).trans h,by rw[Qw f];simp[rawInt]⟩
def Bv(h:Q (K9 w) s):wpAny (model prog w) A setsByText Q E s:=Wu (wpAny_askSetting<|W1 h)
def Og(S:X3 w s.heap a js es ep t)(l:K9 w=true)(h:Q (((pickOrder (w.params.setOrder a ep) es)[i]?).map λe=>(e.2,slot)) s) :
  wpAny (model prog w) A (setNext a slot i ep) Q E s:=by
 obtain⟨o,f,hx,g⟩:=S.obj;refine Wu (QY f g S.fit<|Wu<|Bv ?_);rw[l,W3 rfl,W2 (by simp)];refine Wu ?_;refine Wu (QY f g S.fit<|Wu<|Bv ?_);rw[l,W3 rfl];exact Wu (wpAny_askSetting<|W1<|W1 h)
def Zjk(S:X3 w s.heap a js es ep t)(l:K9 w=false)(o:(!t.plain&&decide (es.size>1))=false)(h:Q (match es[SetTable.below t.place slot]?,t.place[SetTable.below t.place slot]? with|some (_,x),some j=>some (x,j+1)|_,_=>none) s):wpAny (model prog w) A (setNext a slot i ep) Q E s:=by
 obtain⟨r,f,hx,g⟩:=S.obj;refine Wu (QY f g S.fit<|Wu<|Bv ?_);rw[l,W2 (by decide)];show wpAny _ _ (if (!t.plain&&decide (es.size>1))=true then _ else _) _ _ _;rw[o,W2 (by decide)];refine Wu (?_:wpAny _ _ (if (!t.led && !es.isEmpty)=true then unsupported "set:maker-not-led" else pure ()) _ _ _);have p:t.led=true:=by rw[S.tab.led,l];rfl
 rw[p,W2 (by simp)];exact W1 (W1 h)
def Zae{p e}(S:X3 w s.heap a js es ep t)(l:es[p]?=some e)(h:Q e.2 s):wpAny (model prog w) A (setNextDrawn a p ep) Q E s:=by
 obtain⟨o,f,hx,g⟩:=S.obj;refine Wu (QY f g S.fit ?_)
 dsimp only
 rw[W2 (by simp),l];exact W1 h
def Zmm{m}(f:m≠0)(h:∀k d,k<m->Q k {s with drawn:=d}):wpAny (model prog w) A (choose g m) Q E s:=by
 intro Γ p l;exact⟨f,h _ _ (Nat.mod_lt _<|Nat.pos_of_ne_zero f)⟩
theorem AA{f:Type}:∀(xs:List f) k h,(xs[k]::xs.eraseIdx k).Perm xs
 |x::r,0,_=>List.Perm.refl _
 |x::r,k+1,h=>by
  have g:k<r.length:=by grind
  exact(List.Perm.swap _ _ _).trans (List.Perm.cons _<|AA r k g)
def RP:∀m xs s {Q:List u->Shared->Prop},xs.length=m->(∀ys d,ys.Perm xs->Q ys {s with drawn:=d})->wpAny (model prog w) A (drawOrder m xs) Q E s:=by
 intro m
 induction m with
 |zero=>
  intro xs s Q f h;have e:=Q1.mp f;subst e;exact W1 (h [] s.drawn<|List.Perm.refl _)
 |succ m l=>
  intro xs s Q f h;cases xs with
  |nil=>grind
  |cons x r=>
   unfold drawOrder;refine Wu (Zmm (by simp) λk d g=>?_);rw[Wv g];refine Wu (l _ _ (by grind) λys p o=>W1 ?_);exact h _ p ((List.Perm.cons _ o).trans (AA _ _ g))
def X3.keep (S:X3 w h a js es ep t) (k:∀o,h.get? a=some o->p.get? a=some o):X3 w p a js es ep t:=by
 obtain⟨⟨o,l,r⟩,b,c,d,e,f,g⟩:=S;exact⟨⟨o,k o l,r⟩,b,c,d,e,f,g⟩
def Lj(f:SI s.heap I a first i n ep)(h:Q (.ref I) s):wpAny (model prog w) A (pyIter<|.ref I) Q E s:=by
 refine wpAny_pyIter_slot f.typ IK (QS IK f.typ Zhj ?_<|Zd7 _);exact W1 ⟨_,rfl, "set_iterator",_,f.typ,si_slot.lookup,h⟩
def Eb(hh:A.handled=none)(I a:Addr)(hne:a≠I)(vs:ZY)(hl:vs.length=es.size)(sl:Nat->Nat)(nx:∀A E s i Q,i<=es.size->X3 w s.heap a js es ep t->Q ((vs[i]?).map λv=>(v,sl (i+1))) s->wpAny (model prog w) A (setNext a (sl i) i ep) Q E s) :
  Walks prog w A I [I,a] [I] es.size (λi v=>vs[i]?=some v) (λi h=>SI h I a (.int (sl i) 0) i es.size ep/\X3 w h a js es ep t) where
 sub:=λb hb=>by simp at hb;simp[hb]
 frame:=λ_ _ _ st k=>⟨st.1.at λo e=>k I (by simp) o e,st.2.keep λo e=>k a (by simp) o e⟩
 item:=λi s Q E hi st fin=>by
  obtain⟨o,ho,hc,hd⟩:=id st.1;refine Bq st.1 st.2 ?_;unfold NW
  dsimp only
  rw[Qq,Qq,Qq];refine Wu (nx _ _ s i _ (V7 hi) st.2 ?_);have hi2:i<vs.length:=by lia
  rw[Wv hi2];refine Wu (QF ho hd (by simp) ?_);have g1:=Qo (Obj.mapFields (·.setIfInBounds 0 (rawInt (sl (i+1):Int)))) ho (QG<|Qw hd _);have d1:(Obj.mapFields (·.setIfInBounds 0 (rawInt (sl (i+1):Int))) o).data=.fields #[.int (sl (i+1)) 0,.int i 0,.ref a,.int es.size 0,.int ep 0]:=by rw[Qw hd];simp[rawInt]
  refine Wu (QF g1 d1 (by simp) ?_);have sb:=(Qx s.heap I<|Obj.mapFields (·.setIfInBounds 0 (rawInt (sl (i+1):Int)))).trans (Qx _ I<|Obj.mapFields (·.setIfInBounds 1 (rawInt ((i:Int)+1))));refine W1 ⟨_,rfl,fin vs[i] _ s.toks (Wv hi2) ⟨?_,st.2.keep λo e=>sb.extBut a o hne e⟩ λb o hb e=>sb.extBut b o (λz=>hb (by simp[z])) e⟩;exact SI.step1 (x:=.none) g1 ((VO ..).trans hc) d1
 done:=λs Q E st fin=>by
  obtain⟨o,ho,hc,hd⟩:=id st.1;refine Bq st.1 st.2 ?_;unfold NW
  dsimp only
  rw[Qq,Qq,Qq];refine Wu (nx _ _ s es.size _ (W5 _) st.2 ?_);rw[Q7 (by lia)];exact Ip hh ho hd (by simp) λh' eb=>fin h' s.toks λb o hb e=>eb b o (λz=>hb (by simp[z])) e
 self:=λ_ _ _ _ st fin=>Lj st.1 fin
def Ze1(hh:A.handled=none)(I a T:Addr)(hne:a≠I)(hT:T≠I)(ps:ZX)(hl:ps.length=es.size)(hps:∀p∈ps,p<es.size)(vs:ZY)(hvs:vs=ps.map λp=>((es[p]?).map (·.2)).getD .none) :
  Walks prog w A I [I,a,T] [I] es.size (λi v=>vs[i]?=some v) (λi h=>SI h I a (.ref T) i es.size ep/\X3 w h a js es ep t/\∃o,h.get? T=some o/\∃c,o.data=.seq (ps.map λ(p:Nat)=>rawInt p).toArray c) where
 sub:=λb hb=>by simp at hb;simp[hb]
 frame:=λ_ _ _ st k=>⟨st.1.at λo e=>k I (by simp) o e,st.2.1.keep λo e=>k a (by simp) o e,let ⟨o,ho,c⟩:=st.2.2;⟨o,k T (by simp) o ho,c⟩⟩
 item:=λi s Q E hi st fin=>by
  obtain⟨o,ho,hc,hd⟩:=id st.1;obtain⟨oT,hoT,c,hdT⟩:=st.2.2;refine Bq st.1 st.2.1 ?_;unfold NW
  dsimp only
  refine Wu (wpAny_seqItems hoT hdT ?_);have hi2:i<ps.length:=by lia
  have e1:(ps.map λ(p:Nat)=>rawInt p).toArray[(i:Int).toNat]?=some (.int ps[i] 0):=by
   rw[Qq,List.getElem?_toArray,W6,Wv hi2];rfl
  have hp:=hps _ (WL hi2)
  dsimp only
  rw[e1]
  dsimp only
  have e3:vs[i]?=some (es[ps[i]]).2:=by rw[hvs,W6,Wv hi2];simp[hp]
  refine Wu (Zae st.2.1 (Q5 hp)<|Wu<|QF ho hd (by simp) ?_);have sb:=Qx s.heap I (Obj.mapFields (·.setIfInBounds 1 (rawInt ((i:Int)+1))));exact W1 ⟨_,rfl,fin _ _ s.toks e3 ⟨SI.step1 (x:=.none) ho hc hd,st.2.1.keep λo e=>sb.extBut a o hne e,oT,sb.extBut T oT hT hoT,c,hdT⟩ λb o hb e=>sb.extBut b o (λz=>hb (by simp[z])) e⟩
 done:=λs Q E st fin=>by
  obtain⟨o,ho,hc,hd⟩:=id st.1;obtain⟨oT,hoT,c,hdT⟩:=st.2.2;refine Bq st.1 st.2.1 ?_;unfold NW
  dsimp only
  refine Wu (wpAny_seqItems hoT hdT ?_)
  have e1:(ps.map λ(p:Nat)=>rawInt p).toArray[(es.size:Int).toNat]?=none:=by
   rw[Qq,List.getElem?_toArray,W6,Q7 (by lia)];rfl
  dsimp only
  rw[e1]
  dsimp only
  refine Wu (QF ho hd (by simp) ?_);refine Ip (s:={s with heap:=_}) hh (Qo (Obj.mapFields (·.setIfInBounds 0 (rawInt 0))) ho<|QG<|Qw hd _) (Qw hd _) (by simp) λh' eb=>fin h' s.toks λb o hb e=>eb b o (λz=>hb (by simp[z])) ((Qx s.heap I<|Obj.mapFields (·.setIfInBounds 0 (rawInt 0))).extBut b o (λz=>hb (by simp[z])) e)
 self:=λ_ _ _ _ st fin=>Lj st.1 fin
def Zed(nx:Nat->Nat):∀m k left (f:Array o),left.length=m->(pickOrder.go nx m k left f).toList.Perm (f.toList++left):=by
 intro m
 induction m with
 |zero=>
  intro k left f h;have e:=Q1.mp h;subst e;show f.toList.Perm (f.toList++[]);simp
 |succ m l=>
  intro k left f h;have g:nx k % left.length<left.length:=Nat.mod_lt _ (by lia);unfold pickOrder.go;rw[Wv g];refine(l _ _ _<|by grind).trans ?_;rw[Array.toList_push,Ju];exact(AA left _ g).append_left _
def HS(nx:Nat->Nat)(xs:Array f):(pickOrder nx xs).toList.Perm xs.toList:=by
 have:=Zed nx xs.size 0 xs.toList #[] rfl
 simpa [pickOrder]using this
noncomputable def slotAt(t:SetTable)(i:Nat):Nat:=if i=0 then 0 else t.place.getD (i-1) 0+1
def ET(h:t.fits m=true):t.place.size=m:=by
 simp only[SetTable.fits,Ql,beq_iff_eq]at h
 grind
def Zaa(S:X3 w s.heap a js es ep t){i}(o:i<=es.size):SetTable.below t.place (slotAt t i)=i:=by
 have h:=ET S.fit;have R:=S.tab.ris.ris;refine Zdh R (by lia) (λk l=>?_) λk p f=>?_
 ·unfold slotAt;rw[W2 (by lia)];by_cases e:k=i-1
  ·rw[e];lia
  ·have:=R k (i-1) (by lia) (by lia)
   lia
 ·unfold slotAt;by_cases g:i=0
  ·grind
  ·rw[W2 g]
   have:=R (i-1) k (by lia) f
   lia
def Zjf{A'}(M:A'.handled=none)(S:X3 w s.heap a js es ep t)
  (l:∀I fp (vs:ZY) St N d1,Walks prog w A' I fp [I] es.size (λi v=>vs[i]?=some v) St->St 0 N->(∀b∈fp,b=a\/s.heap.get? b=none)->vs.length=es.size->vs.Perm (es.toList.map (·.2))->
   s.heap.get? I=none->(∀b o,s.heap.get? b=some o->N.get? b=some o)->Q (.ref I) {s with heap:=N,drawn:=d1}) :
  wpAny (model prog w) A (pyIter<|.ref a) Q E s:=by
 obtain⟨ob,g,hx,h⟩:=S.obj;have hT:s.TypeIs (.ref a) "set":=⟨ob,g,hx.1⟩;have ha:=WE g
 have new:∀b,s.heap.objs.size<=b->s.heap.get? b=none:=λb f=>by
  cases e:s.heap.get? b with
  |none=>rfl
  |some o=>exact absurd (WE e) (Jw.mpr f)
 refine wpAny_pyIter_slot hT F.slot_set_iter (QS F.slot_set_iter hT Zcs ?_<|F.args_set_iter_1 _);unfold Builtin.«frozenset.__iter__»;show wpAny _ _ (Builtin.Frozenset.sizeOf a >>= _) _ _ s;unfold Builtin.Frozenset.sizeOf;refine Wu (Wu<|wpAny_setEntries_of g h S.fit<|W1 ?_);refine Wu ?_;unfold setDrawn;refine Wu (QY g h S.fit<|Wu<|Bv<|W1 ?_)
 dsimp only
 change wpAny _ _ (if (!K9 w&&(!t.plain&&decide (es.size>1)))=true then _ else _) _ _ _;cases hd:(!K9 w&&(!t.plain&&decide (es.size>1)))with
 |false=>
  rw[W2 (by decide)];refine Wu (W1<|Wu<|wpAny_setEpoch_of g h S.fit<|Wu<|Qp<|W1 ⟨_,rfl, "set_iterator",_,⟨_,WD _ rfl,rfl⟩,si_slot.lookup,?_⟩);have B:=WV ha;have S1:X3 w (s.heap.push {cls:=.type "set_iterator",data:=.fields [rawInt 0,rawInt 0,.ref a,rawInt es.size,rawInt ep].toArray}) a js es ep t:=S.keep λo e=>Wz _ e
  have lt:∀b∈[s.heap.objs.size,a],b=a\/s.heap.get? b=none:=λb f=>by
   rcases W8.mp f with rfl|f
   ·exact .inr (new _<|W5 _)
   ·exact .inl (Wx.mp f)
  cases f:K9 w with
  |true=>
   have u:((pickOrder (w.params.setOrder a ep) es).toList.map (·.2)).length=es.size:=by
    rw[Wt,(HS _ _).length_eq];simp
   refine l _ _ _ _ _ s.drawn (Eb M s.heap.objs.size a B ((pickOrder (w.params.setOrder a ep) es).toList.map (·.2)) u (λ_=>0) λA E s i Q hi G q=>Og G f ?_) ⟨⟨_,WD _ rfl,rfl,rfl⟩,S1⟩ lt u ((HS _ _).map _) (new _<|W5 _) λb o e=>Wz _ e;rw[W6]at q;rw[←Q6];cases e:(pickOrder (w.params.setOrder a ep) es).toList[i]? with
   |none=>rw[e]at q;exact q
   |some x=>rw[e]at q;exact q
  |false=>
   have y:(!t.plain&&decide (es.size>1))=false:=by rw[f]at hd;simpa using hd
   refine l _ _ _ _ _ s.drawn (Eb M s.heap.objs.size a B (es.toList.map (·.2)) (by simp) (slotAt t) λA E s i Q hi G q=>Zjk G f y ?_) ⟨⟨_,WD _ rfl,rfl,rfl⟩,S1⟩ lt (by simp) (List.Perm.refl _) (new _<|W5 _) λb o e=>Wz _ e;rw[Zaa G hi];have hz:=ET G.fit;rw[W6]at q;by_cases L:i<es.size
   ·have C:=Q5 L;have e2:t.place[i]?=some t.place[i]:=Q5 (by lia);have U:es.toList[i]?=some es[i]:=by rw[Q6];exact C
    rw[U]at q;rw[C,e2]
    have e4:slotAt t (i+1)=t.place[i]+1:=by
     unfold slotAt;rw[W2 (by lia)]
     have:i<t.place.size:=by lia
     simp[Array.getD,this]
    have Y:=q;rw[e4]at Y;exact Y
   ·have C:es[i]?=none:=VS (by lia);have U:es.toList[i]?=none:=by rw[Q6];exact C
    rw[U]at q;rwa[C]
 |true=>
  rw[W3 rfl];refine Wu (RP _ _ s (by simp) λr d y=>?_);have u:r.length=es.size:=by rw[y.length_eq];simp
  have J:∀p∈r,p<es.size:=λp hm=>Ji.mp (y.mem_iff.mp hm);refine Wu (Qp ?_<|by show(r.map λ(i:Nat)=>rawInt i).toArray.size<=sizeLine;rw[WX,Wt,u];exact VM S.few);have z:=Wz {cls:=.type "tuple",data:=.seq (r.map λ(i:Nat)=>rawInt i).toArray} g;refine Wu (wpAny_setEpoch_of z h S.fit<|Wu<|Qp<|W1 ⟨_,rfl, "set_iterator",_,⟨_,WD _ rfl,rfl⟩,si_slot.lookup,?_⟩);have H:(s.heap.push {cls:=.type "tuple",data:=.seq (r.map λ(i:Nat)=>rawInt i).toArray}).objs.size=s.heap.objs.size+1:=Vc ..
  have T:(List.range es.size).map (λp=>((es[p]?).map (·.2)).getD Value.none)=es.toList.map (·.2):=by
   apply QZ;intro k;by_cases hk:k<es.size
   ·simp[hk]
   ·have:es.size<=k:=by lia
    simp[this]
  refine l _ _ _ _ _ d (Ze1 M _ a s.heap.objs.size ?_ ?_ r u J _ rfl) ⟨⟨_,WD _ rfl,rfl,rfl⟩,S.keep λo e=>Wz _ (Wz _ e),_,Wz _ (WD _ rfl),0,rfl⟩ (λb f=>?_) (by rw[Wt];exact u) ?_ (new _ ?_) λb o e=>Wz _ (Wz _ e)
  ·show a≠_;rw[H];exact WV (VN ha)
  ·show s.heap.objs.size≠_;rw[H];exact WV (Ve _)
  ·rcases W8.mp f with rfl|f
   ·refine .inr (new _ ?_);show s.heap.objs.size<=_;rw[H];exact VQ _
   ·rcases W8.mp f with rfl|f
    ·exact .inl rfl
    ·rw[Wx.mp f];exact .inr (new _<|W5 _)
  ·rw[←T];exact y.map _
  ·show s.heap.objs.size<=_;rw[H];exact VQ _
def Zgn(g:s.TypeIs (.ref a) "set")(h:Q false s):wpAny (model prog w) A (Builtin.List.listLengthHint<|.ref a) Q E s:=by
 refine Wu (wpAny_specialOf g F.slot_set_len.lookup ?_);generalize f:("set.__len__" : String)=z
 wp_delta
 have l:splitId z=some ("set","__len__"):=by subst f;decide +kernel
 rw[l];subst f;refine Wu (wpAny_isInstance (b:=true) g (by rw[isSubtype_type];kernel_rfl) (wpAny_ite_split (λz=>absurd z (by decide)) λ_=>?_));exact wpAny_ite_split (λ_=>Wu (wpAny_typeOf g<|W1 h)) λz=>absurd (by decide +kernel) z
def Zhz(hh:A.handled=none)(S:X3 w s.heap a js es ep t)(D:Addr)(c:Nat)(g:Value)(hD:s.heap.get? D=some {cls:=.type "list",data:=.seq #[] c})(G:D≠a)(fin:∀h' M d (vs:ZY) y,vs.Perm (es.toList.map (·.2))->h'.get? D=some {cls:=.type "list",dict:=none,data:=.seq vs.toArray y,slots:=#[]}->(∀b o,b≠D->s.heap.get? b=some o->h'.get? b=some o)->R (.ok<|.ret g) {s with heap:=h',toks:=M,drawn:=d}) :
  wpAny (model prog w) A.in1 (Builtin.List.listExtendWith (.ref D) (.ref a) g) (λf v=>match f with | .done f=>R (.ok f) v | .again y=>y.quiet=true/\codeAny (model prog w) A y R v) (λe v=>R (.error e) v) s:=by
 obtain⟨ob,C,hx,hdd⟩:=S.obj;have hT:s.TypeIs (.ref a) "set":=⟨ob,C,hx.1⟩;unfold Builtin.List.listExtendWith;refine Wu (wpAny_typeOf hT ?_);have n1:Builtin.List.listSameRef (.ref D) (.ref a)=false:=by simp[Builtin.List.listSameRef,G]
 have n2:(Value.type "set" == Value.type "list")=false:=by decide
 have n3:(Value.type "set" == Value.type "tuple")=false:=by decide
 simp only[n1,n2,n3,Bool.or_false,VC,VU];refine Wu (Zjf (A':=A.in1) hh S λI fp vs St h1 d1 W Q flt hl hp Y keep=>?_);have hDI:D≠I:=λz=>by rw[←z,hD]at Y;cases Y
 have loop:∀h M c1,St 0 h->(∀b o,b≠D->s.heap.get? b=some o->h.get? b=some o)->h.get? D=some {cls:=.type "list",data:=.seq #[] c1}->D∉fp->
   codeAny (model prog w) A (.builtin "list.extend.loop" ⟨[.ref D,.ref I,g],[]⟩) R {s with heap:=h,toks:=M,drawn:=d1}:=λh M c1 st hk r p=>by
  refine codeAny_extend_loopS W.toS (VM S.few) D p g es.size 0 _ #[] c1 rfl (QB _) st r (ItemsOf.nil _) λv x y N L u=>?_
  have ev:x.toList=vs:=by
   apply QZ;intro k;by_cases T:k<x.size
   ·have e1:=Q5 T;rw[Q6,e1];exact(u.2 k _ e1).symm
   ·rw[Q6,VS (by lia),Q7 (by have:=u.1;lia)]
  have e2:x=vs.toArray:=by rw[←ev]
  rw[e2]at L;rw[Moved.eq_with N];refine fin v.heap v.toks d1 vs y hp L λb o l e=>N.heap b o (λH=>?_) (hk b o l e);rcases W8.mp H with z|z
  ·exact l z
  ·rw[Wx.mp z,Y]at e;cases e
 have p:D∉fp:=λN=>by
  rcases flt D N with z|z
  ·exact G z
  ·rw[hD]at z;cases z
 have U:Shared.TypeIs {s with heap:=h1,drawn:=d1} (.ref a) "set":=⟨ob,keep _ _ C,hx.1⟩
 refine Wu (QM<|Zgn U ?_);have r:=keep _ _ hD;refine Wu (wpAny_rule<|Wu (?_:wpAny _ _ (updateSeq D (·.push .none) >>= λ_=>updateSeq D (·.pop)) _ _ _));refine Wu (wpAny_updateSeq r rfl ?_);have J:=Qo (Obj.mapSeq (·.push Value.none)) r rfl;refine wpAny_updateSeq J rfl ?_
 have B:∀b o,b≠D->h1.get? b=some o->((h1.update D<|Obj.mapSeq (·.push Value.none)).update D (Obj.mapSeq (·.pop))).get? b=some o:=λb o l e=>
  (Qs _ _<|Ne.symm l).trans ((Qs _ _<|Ne.symm l).trans e)
 exact W1 ⟨plainId_quiet F.plain_extend_loop _,loop _ _ _ (W.frame 0 _ _ Q λb l o e=>B b o (λz=>p (z▸l)) e) (λb o l e=>B b o l (keep b o e)) (Qo (Obj.mapSeq (·.pop)) J rfl) p⟩
def Zcm(G:A.handled=none)(S:X3 w s.heap a js es ep t)(u:∀g h d vs,vs.Perm (es.toList.map (·.2))->(∀b o,s.heap.get? b=some o->g.get? b=some o)->s.heap.objs.size<g.objs.size->R vs {s with heap:=g,toks:=h,drawn:=d}) :
  wpAny (model prog w) A (collect<|.ref a) R E s:=by
 obtain⟨Q,C,hx,H⟩:=S.obj;refine Wu (wpAny_runValue<|Vp entry_proto_collect' ?_);have M:=V1 (A:=A) PySem.F.plain_proto_collect ⟨[.ref a],[]⟩;refine(Wu<|Qp<|W1 ⟨plainId_quiet PySem.F.plain_list_iadd _,Vp entry_list_iadd' ?_⟩);rw[(V1 (A:=A) PySem.F.plain_list_iadd ⟨[.ref s.heap.objs.size,.ref a],[]⟩)];have J:(s.heap.push {cls:=.type "list",data:=.seq ([]:ZY).toArray}).get? s.heap.objs.size=some {cls:=.type "list",data:=.seq #[]}:=WD _ rfl
 have B:=Zhz (prog:=prog) (s:={s with heap:=s.heap.push {cls:=.type "list",data:=.seq ([]:ZY).toArray}})
  (R:=λq z=>∃g h d vs v,q=.ok (.ret<|.ref s.heap.objs.size)/\z={s with heap:=g,toks:=h,drawn:=d}/\vs.Perm (es.toList.map (·.2))/\(∀b o,s.heap.get? b=some o->g.get? b=some o)/\
   g.get? s.heap.objs.size=some {cls:=.type "list",dict:=none,data:=.seq vs.toArray v,slots:=#[]}) G (S.keep λo e=>Wz _ e) s.heap.objs.size 0 (.ref s.heap.objs.size) J (Jx<|WE C)
  λg h d vs v p l r=>⟨g,h,d,vs,v,rfl,rfl,p,λb o e=>r b o (WV<|WE e) (Wz _ e),l⟩
 refine Qv B (λf z x=>?_) λe z x=>?_
 ·cases f with
  |done f=>
   obtain⟨g,h,d,vs,v,e,rfl,p,r,l⟩:=x;cases e
   refine(Wu<|wpAny_load l<|W1 ?_);exact u g h d vs p r (WE l)
  |again T=>
   refine⟨x.1,Vu x.2 λq N y=>?_⟩;obtain⟨g,h,d,vs,v,rfl,rfl,p,r,l⟩:=y;refine(Wu<|wpAny_load l<|W1 ?_);exact u g h d vs p r (WE l)
 ·obtain⟨_,_,_,_,_,L,_⟩:=x;cases L
theorem Gx:∀{l:List (Int×Value)},(∀e∈l,Ent e)->IntsAre (l.map (·.2)) (l.map keyOf)
 |[],_=>.nil
 |e::r,h=>by
  obtain⟨k,t,rfl⟩:=h e WW;exact .cons k t (Gx λx hx=>h x (WK _ hx))
def R7{vs us}(p:vs.Perm us):∀{ns:ZS},IntsAre us ns->∃f,IntsAre vs f/\f.Perm ns:=by
 induction p with
 |cons x _ v=>
  intro ns h;cases h with
  |cons n t r=>
   obtain⟨f,B,z⟩:=v r;exact⟨n::f,.cons n t B,List.Perm.cons _ z⟩
 |swap x y l=>
  intro ns h;cases h with
  |cons n t r=>
   cases r with
   |cons g o u=>exact⟨g::n::_,.cons g o (.cons n t u),List.Perm.swap _ _ _⟩
 |_=>grind
def Zkp(L:A.handled=none)(B:SetB w s.heap a js)(x:js.length<64)
  (C:∀l y u d f ns e,IntsAre f ns->ns.Perm js->ns.Pairwise (·<=·)->s.heap.get? l=none->s.heap.objs.size<=l->y.get? l=some {cls:=.type "list",data:=.seq f.toArray e}->
   (∀b o,s.heap.get? b=some o->y.get? b=some o)->Q (.ref l) {s with heap:=y,toks:=u,drawn:=d}) :
  wpAny (model prog w) A (call (.builtin "sorted") [.ref a]) Q E s:=by
 obtain⟨es,ep,t,S⟩:=B;refine Calls.call_function_entry kind_sorted plain_sorted entry_sorted (args_sorted1 _) ?_;refine Wu (W1<|Wu (Zcm L S λp u d r H keep big=>?_));obtain⟨N,G,v⟩:=R7 H (Gx S.ent);have g:=v.trans S.per;have J:r.length<64:=by rw[IntsAre.length G,g.length_eq];exact x
 refine Wu (wpAny_newList ?_<|by have:(64:Nat)<=sizeLine:=(by decide);lia);have z:(p.push<|seqObj "list" r.toArray 0).get? p.objs.size=some (seqObj "list" r.toArray 0):=WD _ rfl;refine Wu (QM<|QS slot_list_sort ⟨_,z,rfl⟩ entry_list_sort (list_sort_tree z G J λf ns a1 a2 a3=>⟨_,rfl,?_⟩)<|args_list_sort _);obtain⟨e,M⟩:=sortedHeap_at z;refine W1 ⟨_,rfl,C p.objs.size _ u d f.toList ns e a1 (a2.trans g) a3 ?_ (V7 big) (by simpa [seqObj]using M) λb o q=>?_⟩
 ·cases q:s.heap.get? p.objs.size with
  |none=>rfl
  |some o=>exact absurd (WE<|keep _ _ q) (QA _)
 ·have h:=WE (keep b o q);rw[sortedHeap_old (WV h) (by rw[size_push'];exact VN h)];exact Wz _ (keep b o q)
end
end SetR
namespace Own
open PySem PySem.Spec PyProof.Rows L2
noncomputable def T1(w:World)(l:Addr)(f:ZS):HO:=.ext λh=>SetR.SetB w h l f
section
variable {X:Cx}
def Zjh{w H h l f}(B:SetR.SetB w h l f):ObjOk P w H h l (T1 w l f):=by
 refine⟨B,?_,λr p g k=>g.at k⟩;obtain⟨s,u,t,S⟩:=B;obtain⟨o,n,_⟩:=S.obj
 grind
def RV(y:X.calm=true):X5 X (.type "set") (λxs H Q=>∃(p:Addr) (ns:ZS),xs=[.ref p]/\SqL X.K H p (ns.map V.int)/\ns.length+1<4096/\∀l,H l=none->Q (.ref l) (upd H l<|T1 X.w l<|ns.foldl SetR.X7 [])):=by
 intro pins s A H xs C Q I f h;obtain⟨p,ns,rfl,z,x,q⟩:=h;obtain⟨u,rfl,g⟩:=f.one;obtain rfl:=g;obtain⟨v,r,n,_⟩:=I.list z;refine SetR.Ziw (I.ok.hd y) n.isList (by simpa using BK r) x λG E B keep=>?_;exact⟨.ref s.heap.objs.size,upd H s.heap.objs.size (T1 X.w s.heap.objs.size _),I.laid (λb o e=>keep b o (WE e) e) (W5 _) (Zjh B),rfl,q _ (I.hok.fresh<|W5 _)⟩
def L6(N:X.calm=true):X5 X (.builtin "sorted") (λxs H Q=>∃p g,xs=[.ref p]/\g.length<64/\(SqL X.K H p (g.map V.int)\/H p=some (T1 X.w p g))/\
  ∀l (ns:ZS),H l=none->ns.Perm g->ns.Pairwise (·<=·)->Q (.ref l) (upd H l<|.lst<|ns.map V.int)):=by
 intro pins s U H xs Y Q I G h;obtain⟨p,g,rfl,A,v,q⟩:=h;obtain⟨u,rfl,J⟩:=G.one;obtain rfl:=J
 have big:∀{ns:ZS},ns.Perm g->(ns.map V.int).length<=sizeLine:=λM=>by
  rw[Wt,M.length_eq]
  have:(64:Nat)<=sizeLine:=by decide
  lia
 rcases v with v|v
 ·obtain⟨n,r,L,_⟩:=I.list v;have E:IntsAre n g:=by simpa using BK r
  refine sorted_ints L.isList E (by rw[IntsAre.length E];exact A) λf ns a1 a2 a3=>?_;obtain⟨e,C⟩:=sortedAll_at s.heap n f;have x:=I.hok.fresh (VQ _);refine⟨.ref (s.heap.objs.size+1),upd H (s.heap.objs.size+1) (.lst<|ns.map V.int),I.laid (λb o e=>sortedAll_old e) (VQ _) ⟨big a2,f.toList,e,B0 a1,?_⟩,rfl,q _ ns x a2 a3⟩;omega
 ·have B:=(I.hok p _ v).1;refine SetR.Zkp (I.ok.hd N) B A λl T tk d f ns e a1 a2 a3 nl y C keep=>?_;have x:=I.hok.fresh y;refine⟨.ref l,upd H l (.lst<|ns.map V.int),?_,rfl,q l ns x a2 a3⟩;have ok:HOk X.prog X.w (upd H l<|.lst<|ns.map V.int) T:=I.hok.laid keep y ⟨big a2,f,e,B0 a1,C⟩;exact I.call (ch:=[]) (Un.laid keep y x) ok I.bare (λb z=>absurd z (by simp))
end
section
variable {X:Cx}{K:ZQ}
def DB(f:autoParam (X.K=K) au_0):IxR X (λx y H Q=>T3 K x y H Q\/Tg K x y H Q):=by subst f;exact Zdb
def Zmt(f:autoParam (X.K=K) au_0):X5 X (.builtin "len") (λxs H Q=>∃x n,xs=[x]/\BR K x H n/\Q (.int n) H):=by subst f;exact Zda
def Zil(f:autoParam (X.K=K) au_0):OpR X (compareOp .In) (rIn K false):=by subst f;exact Zk0
def Zi6(f:autoParam (X.K=K) au_0):OpR X (compareOp .NotIn) (rIn K true):=by subst f;exact Zgo
def SS{pos es k t n}(l:X.calm=true)(h:PGs X es t)(o:autoParam (X.K=K) au_0)(g:autoParam ((assignEach es X.env).length=n) au_0)(f:autoParam ((assignEach es X.env).findIdx? (·.1)=none) au_0):PG X (.Tuple es k pos) (Cy K n t):=by subst o;exact Zdd l h g f
end
section
variable {α:Type}{R:Hp->V->α->Prop}{φ:ZW}{g:TG}{tc:TT}{te:TE}{σ:L2.St}{H1:Hp}{F:Hp->Prop}{D:Addr}
def Zb4{K a xs}{ds:List α}(f:α->Option V)(v:SqL K H1 a xs)(E:xs.length=ds.length)(G:H1 D=none)(J:ds.length<=sizeLine)(turn:∀(i:Nat) x d l,xs[i]?=some x->ds[i]?=some d->Same H1 l->∀k:Option V->Hp->Prop,k (f d) l->g x (atStart φ σ) l λh w=>Sub (atStart φ σ) h/\tc h w λb r=>if b=true then te h r λy u=>k (some y) u else k none r)(done:F (upd H1 D<|.lst<|ds.filterMap f)) :
  ∃W:Nat->Nat->List V->Hp->Prop,(∃m,W 0 m [] (upd H1 D<|.lst []))/\
   ∀i m ys l,W i m ys l->((Itl K a).stop i l/\F l)\/((Itl K a).go i l/\∀x z,(Itl K a).yld i l x z->g x (atStart φ σ) z λh w=>Sub (atStart φ σ) h/\tc h w λb r=>
    if b=true then te h r λy u=>u D=some (.lst ys)/\ys.length<sizeLine/\∃n,n<m/\W (i+1) n (ys++[y]) (upd u D<|.lst (ys++[y]))else ∃n,n<m/\W (i+1) n ys r):=by
 refine⟨λi m ys l=>m=ds.length-i/\i<=ds.length/\ys=(ds.take i).filterMap f/\l=upd H1 D (.lst ys),⟨ds.length,by simp,QB _,by simp,rfl⟩,?_⟩;rintro i m ys l ⟨rfl,L,rfl,rfl⟩;have s:Same H1 (upd H1 D<|.lst ((ds.take i).filterMap f)):=Xq G;by_cases p:i<ds.length
 ·refine .inr ⟨⟨xs,xs[i]'(by lia),s.seq v,by simp[E,p]⟩,λx z y=>?_⟩;obtain⟨e,y⟩:=y;subst e
  refine turn i x ds[i] _ (y xs<|s.seq v) (Wv p) s (λo A=>match o with
   |some y=>A D=some (.lst ((ds.take i).filterMap f))/\((ds.take i).filterMap f).length<sizeLine/\∃n,n<ds.length-i/\(n=ds.length-(i+1)/\i+1<=ds.length/\(ds.take i).filterMap f++[y]=(ds.take (i+1)).filterMap f/\upd A D (.lst ((ds.take i).filterMap f++[y]))=upd H1 D (.lst ((ds.take i).filterMap f++[y])))
   |none=>∃n,n<ds.length-i/\(n=ds.length-(i+1)/\i+1<=ds.length/\(ds.take i).filterMap f=(ds.take (i+1)).filterMap f/\A=upd H1 D (.lst ((ds.take i).filterMap f)))) ?_
  have B:=WG p;cases C:f ds[i]with
  |some y=>
   refine⟨UZ,?_,ds.length-(i+1),by lia,rfl,p,?_,Zjd⟩
   ·have H:=List.length_filterMap_le f (ds.take i);rw[WS]at H;lia
   ·rw[B,Vw];simp[C]
  |none=>
   refine⟨ds.length-(i+1),by lia,rfl,p,?_,rfl⟩;rw[B,Vw];simp[C]
 ·have e:i=ds.length:=by lia
  subst e;refine .inl ⟨⟨xs,s.seq v,by lia⟩,?_⟩;rwa[Qe]
end
noncomputable def eqL(xs ys:List V):Bool:=decide (xs.length=ys.length)&&(List.range xs.length).all λj=>eqV (xs.getD j .non) (ys.getD j .non)
noncomputable def PR(K:ZQ)(neg:Bool):R2:=λx y H Q=>∃(p q:Addr) (xs f:List V),x=.ref p/\y=.ref q/\SqL K H p xs/\SqL K H q f/\xs.all Ks=true/\f.all Ks=true/\Q (.bl (if neg then !eqL xs f else eqL xs f)) H
section
variable {X:Cx}
def Dr{xs ys us f}(l:Vals xs us)(h:Vals ys f)(f1:xs.all Ks=true)(x:ys.all Ks=true)(j:Nat)(v:j<us.toArray.size)(r:j<f.toArray.size) :
  SeqAt.EqAt A s us.toArray[j] f.toArray[j] (eqV (xs.getD j .non)<|ys.getD j .non):=by
 have G:=l.length;have E:=h.length;have J:j<us.length:=by simpa using v
 have H:j<f.length:=by simpa using r
 have o:xs[j]?=some (xs[j]'(by lia)):=Wv _;have n:ys[j]?=some (ys[j]'(by lia)):=Wv _;obtain⟨u,M,p⟩:=l.get o;obtain⟨w,L,g⟩:=h.get n;have z:us.toArray[j]=u:=by grind
 have y:f.toArray[j]=w:=by grind
 have C:xs.getD j .non=xs[j]'(by lia):=by rw[WA,o];rfl
 have B:ys.getD j .non=ys[j]'(by lia):=by rw[WA,n];rfl
 rw[z,y,C,B];exact Gz p g (QR.mp f1 _<|WL _) (QR.mp x _<|WL _)
def Zko(r:X.A.units<cLine):OpR X (compareOp .Eq) (PR X.K false):=by
 intro pins s J H x y v u Q I z w h;obtain⟨p,q,xs,f,rfl,rfl,B,hq,f1,G,k⟩:=h;obtain rfl:=z;obtain rfl:=w;obtain⟨M,l,n,_⟩:=I.list B;obtain⟨L,g,p2,_⟩:=I.list hq;have T:=l.length;have N:=g.length;have o:=k;by_cases e:xs.length=f.length
 ·refine SeqAt.eq_listAt n.isList p2.isList (by simp;lia) r (λj E C=>Dr l g f1 G j E C) ⟨.bl (eqL xs f),H,I,?_,o⟩;show _=Value.bool (eqL xs f);unfold eqL
  grind
 ·refine SeqAt.eq_list_lengthsAt n.isList p2.isList (by simp;lia) r ⟨.bl (eqL xs f),H,I,?_,o⟩;unfold eqL;rw[Qa e];rfl
def Zkh(r:X.A.units<cLine):OpR X (compareOp .NotEq) (PR X.K true):=by
 intro pins s J H x y v u Q I z w h;obtain⟨p,q,xs,f,rfl,rfl,B,hq,f1,G,k⟩:=h;obtain rfl:=z;obtain rfl:=w;obtain⟨M,l,n,_⟩:=I.list B;obtain⟨L,g,p2,_⟩:=I.list hq;have T:=l.length;have N:=g.length;have o:=k;by_cases e:xs.length=f.length
 ·refine SeqAt.RcNeAt.lists n.isList p2.isList (by simp;lia) r (λj E C=>Dr l g f1 G j E C) _ _ _ _ ⟨.bl (!eqL xs f),H,I,?_,o⟩;show _=Value.bool (!eqL xs f);unfold eqL
  grind
 ·refine SeqAt.RcNeAt.lists_lengths n.isList p2.isList (by simp;lia) r _ _ _ _ ⟨.bl (!eqL xs f),H,I,?_,o⟩;unfold eqL;rw[Qa e];rfl
def Gk{xs:ZS}{us}(r:Vals (xs.map V.int) us)(z:Int):∀j g (f:j<xs.length),Value.isInt z us[j]=(xs[j]==z):=by
 intro j g f;obtain⟨u,h,t,rfl⟩:=r.get (by rw[W6,Wv f];rfl);rw[Wv g]at h;rw[WB h];rfl
def Zc3{xs:ZS}{us}(r:Vals (xs.map V.int) us)(z:Int)(t:Tok):∀y,y∈us.toArray->MeetsSeq.EqGives y (.int z t) (Value.isInt z y):=by
 intro y h;obtain⟨j,l,rfl⟩:=WY.mp (by simpa using h:y∈us);have g:=r.length;rw[Wt]at g;obtain⟨u,f,n,rfl⟩:=r.get (by rw[W6,Wv (show j<xs.length by lia)];rfl);rw[Wv l]at f;rw[WB f];exact MeetsSeq.EqGives.int _ _ _ _
def CH(K:ZQ):V->List V->Hp->VK->Prop:=λx f H Q=>∃(l:Addr) (xs:ZS) (z:Int),x=.ref l/\f=[.int z]/\SqL K H l (xs.map V.int)/\z∈xs/\Q (.int (xs.idxOf z:Nat)) H
def Zcr:MtM X "list.index" (CH X.K):=by
 intro pins s σ H x vs v us Q I M N h;obtain⟨l,xs,z,rfl,rfl,hS,U,q⟩:=h;cases M
 obtain⟨u,rfl,t,rfl⟩:=N.one;obtain⟨f,r,T,g⟩:=I.list hS;obtain⟨o,n,G,L,p,J⟩:=T;obtain⟨c1,d1,dt1,w⟩:=o;simp only at L p J;subst L p J;have E:=r.length;rw[Wt]at E;have C:=VD.mpr U;have hb:xs.length<=2 ^ 24:=by rw[Wt]at g;exact g
 refine call_meets Vn ⟨_,G,rfl⟩ PySem.F.entry_list_index (PySem.F.args_list_index_2 _ _)
  (SeqAt.list_indexAt l f.toArray n none w (.int z t) (Value.isInt z) (xs.idxOf z) (by simpa [←E]using C) (by lia) ?_ ?_) ⟨G,λy Y=>(Zc3 r z t y Y).at _ _,⟨.int (xs.idxOf z:Nat),H,I.tok _,⟨_,rfl⟩,q⟩⟩
 ·have e:=Gk r z (xs.idxOf z) (by lia) C;show Value.isInt z f[xs.idxOf z]=true;rw[e];simpa using Jo C
 ·intro m hm B;have A:m<f.length:=by simpa using hm
  show Value.isInt z f[m]=false;rw[(Gk r z m A<|by lia)]
  have:=List.not_of_lt_findIdx B
  simpa using this
end
section
variable {X:Cx}{K:ZQ}
def BY(f:autoParam (X.K=K) au_0):MtM X "list.index" (CH K):=by subst f;exact Zcr
def B6{p t name apos cpos T id r}(s:PlainAttrs T)(slot:Slot T name id)(n:typeOf (.builtin id)=pure (.type "method_descriptor"))(v:MtM X id r)(u:PE X o p)(w:PA X (e::es) t)(y:autoParam (X.K=K) au_0)(h:autoParam (attributeBase o name X.env (eval o X.env)=eval o X.env) au_0)
  (l:autoParam (((backTo cpos<|starEach (e::es) X.env).all (λx=>!x.1)&&(backToKw cpos<|keywordEach [] X.env).all (λx=>x.1.isSome)
   && decide ((e::es).length+([]:List Keyword).length+(if ([]:List Keyword).isEmpty then 0 else 1)<30))=true) au_0)
  (g:autoParam ((apos.endLine==cpos.line)=true) au_0) (hs:autoParam (starEach (e::es) X.env=(false,eval e X.env)::starEach es X.env) au_0) (f:autoParam ((backTo cpos<|starEach es X.env).any (·.1)=false) au_0) :
  PE X (.Call (.Attribute o name apos) (e::es) [] cpos) (tBM K T r p t):=by
 subst y;exact Sw s slot n v u w h l g hs f
end
def Dy(xs ys:ZS):eqL (xs.map V.int) (ys.map V.int)=decide (xs=ys):=by
 unfold eqL;rw[Wt,Wt];by_cases e:xs=ys
 ·subst e;rw[Ww rfl,Ww rfl,Js,QR];intro j n;have g:j<xs.length:=by simpa using n
  rw[WA,W6,Wv g];show(xs[j]==xs[j])=true;simp
 ·rw[Qa e];by_cases h:xs.length=ys.length
  ·rw[Ww h,Js,Vs];intro f;apply e;apply List.ext_getElem h;intro j l p
   have:=QR.mp f j (by simpa using l)
   rw[WA,W6,Wv l,WA,W6,Wv p]at this;have o:(xs[j]==ys[j])=true:=this;simpa using o
  ·grind
def P8(xs:ZS):(xs.map V.int).all Ks=true:=by
 rw[List.all_map];exact QR.mpr λ_ _=>rfl
end Own
namespace M
open PySem PySem.Spec PyProof.Rows L2 Own
def LV{f:Type}(R:Hp->V->f->Prop)(H:Hp)(vs:List V)(xs:List f):Prop:=
 vs.length=xs.length/\∀(i:Nat) (x:f),xs[i]?=some x->∃v,vs[i]?=some v/\R H v x
def LAt{f:Type}(R:Hp->V->f->Prop)(H:Hp)(l:Addr)(xs:List f):Prop:=∃g,H l=some (.lst g)/\LV R H g xs
def Kg(H:Hp)(v:V)(q:Int×Int):Prop:=∃a,v=.ref a/\H a=some (.tup [.int q.1,.int q.2])
section
variable {α:Type}{R:Hp->V->α->Prop}{H H':Hp}{vs:List V}{xs:List α}{l:Addr}
def LV.get {i:Nat}{v} (h:LV R H vs xs) (e:vs[i]?=some v):∃x,xs[i]?=some x/\R H v x:=by
 have g:i<xs.length:=by rw[←h.1];exact(WH.mp e).1
 obtain⟨f,n,r⟩:=h.2 i xs[i] (by simp)
 grind
end
def P7(m:ZS):Prop:=∃a b c d e:Int,m=[a,b,c,d,e]/\(1<=a/\a<=10)/\(1<=b/\b<=9/\(b=1\/b=3\/b=7\/b=9))/\(0<=c/\c<=9)/\(1<=d/\d<=1000)/\(1<=e/\e+d<=1001)
def Field(ps:ZR):Prop:=∀q∈ps,1<=q.1/\q.1<=10/\1<=q.2/\q.2<=1000
def OT(f:ZS)(k z:Int):z∈SetR.X7 f k↔z∈f\/z=k:=by
 unfold SetR.X7;split
 ·grind
 ·simp
theorem Lm:∀(ns f:ZS) z,z∈ns.foldl SetR.X7 f↔z∈f\/z∈ns
 |[],f,z=>by simp
 |n::r,f,z=>by
  rw[List.foldl_cons,Lm r,OT,W8];constructor
  ·grind
  ·grind
def Zh4(k:Int)(h:f.Nodup):(SetR.X7 f k).Nodup:=by
 unfold SetR.X7;split
 ·lia
 ·grind
theorem EK:∀(ns:ZS) {f:ZS},f.Nodup->(ns.foldl SetR.X7 f).Nodup
 |[],_,h=>h
 |n::r,f,h=>EK r (Zh4 n h)
theorem Eo:∀(ns f:ZS),(ns.foldl SetR.X7 f).length<=f.length+ns.length
 |[],f=>by simp
 |n::r,f=>by
  have h:=Eo r (SetR.X7 f n)
  have g:(SetR.X7 f n).length<=f.length+1:=by
   unfold SetR.X7;split
   ·simp
   ·simp
  grind
def Sx{l:ZS}(h:l.Pairwise (·<=·))(n:l.Nodup):l.Pairwise (· < ·):=by
 have:=h.and n
 exact this.imp λ{a b} h=>by have:=h.1;have:=h.2;lia
def HU{g f:ZS}(n:g.Pairwise (· < ·))(l:f.Pairwise (· < ·))(h:∀z,z∈g↔z∈f):g=f:=by
 have p:g.Nodup:=n.imp λ{a b} h=>by lia
 have o:f.Nodup:=l.imp λ{a b} h=>by lia
 exact((List.perm_ext_iff_of_nodup p o).mpr h).eq_of_pairwise (λa b _ _ x y=>by lia) n l
noncomputable def tenL:ZS:=[1,2,3,4,5,6,7,8,9,10]
def Zav:z∈tenL↔1<=z/\z<=10:=by
 unfold tenL;constructor
 ·intro h;simp only[W8,VW,or_false]at h;omega
 ·rintro⟨g,f⟩;simp only[W8,VW,or_false];lia
noncomputable def UD(ps:ZR):ZS:=tenL.filter λh=>decide (h∈ps.map (·.1))
def Pp(ps:ZR):(UD ps).Pairwise (· < ·):=List.Pairwise.filter _ (by trivial)
def Il(f:Field ps){z}:z∈UD ps↔z∈ps.map (·.1):=by
 unfold UD;rw[WT,VP,Zav];constructor
 ·grind
 ·intro h;obtain⟨q,hq,rfl⟩:=WZ.mp h
  have:=f q hq
  grind
def Tr(ps:ZR):(UD ps).length<=10:=by
 have:=Q8 (λh=>decide (h∈ps.map (·.1))) tenL
 trivial
def Zk4(f:Field ps)(p:ns.Perm ((ps.map (·.1)).foldl SetR.X7 []))(h:ns.Pairwise (·<=·)):ns=UD ps:=by
 refine HU (Sx h<|p.symm.nodup<|EK _ Vd) (Pp ps) λz=>?_;rw[p.mem_iff,Lm,Il f];simp
def L8(z:Int)(xs:ZS):inV (.int z) (xs.map V.int)=decide (z∈xs):=by
 unfold inV
 induction xs with
 |nil=>rfl
 |cons x r f=>
  show((x==z) || _)=_;by_cases e:x=z
  ·grind
  ·grind
def R1:tenL=(List.range 10).map λ(i:Nat)=>(1:Int)+(i:Int):=rfl
section
variable (ps:ZR)
noncomputable def tpM(y:Int):Nat->Int
 | 0=>0
 |j+1=>tpM y j+(if (ps.getD j (0,0)).1=y then(ps.getD j (0,0)).2 else 0)
noncomputable def pcM(x y:Int):Nat->Int
 | 0=>0
 |k+1=>pcM x y k+(if x≠y/\(ps.getD k (0,0)).1=x then tpM ps y k*(ps.getD k (0,0)).2 else 0)
noncomputable def KD(n:Nat):ZS->Int
 |[]=>0
 |a::r=>(r.map λb=>pcM ps a b n).sum+KD n r
noncomputable def KL(n:Nat)(h:Int):ZS->Int
 |[]=>0
 |a::r=>if a=h then(r.map λb=>tpM ps b n).sum else KL n h r
noncomputable def rsM(os:ZS)(h:Int):Nat->Int
 | 0=>0
 |j+1=>rsM os h j+(if os.idxOf h<os.idxOf (ps.getD j (0,0)).1 then(ps.getD j (0,0)).2 else 0)
noncomputable def KS(os:ZS):Nat->Int
 | 0=>0
 |k+1=>KS os k+rsM ps os (ps.getD k (0,0)).1 k*(ps.getD k (0,0)).2
end
def DF{r:ZS}(h:a≠b):(a::r).idxOf b=r.idxOf b+1:=by grind
def GZ(f g:Int->Int)(l:ZS):(l.map λb=>f b+g b).sum=(l.map f).sum+(l.map g).sum:=by
 induction l with
 |nil=>rfl
 |cons b r h=>grind
def Nx{f g:Int->Int}{l:ZS}(h:∀b∈l,f b=g b):(l.map f).sum=(l.map g).sum:=by
 rw[Jh h]
def Lq(l:ZS):(l.map λ_=>(0:Int)).sum=0:=by
 induction l with
 |nil=>rfl
 |cons b r f=>grind
def Zfz(f:Int->Int)(w:Int)(l:ZS):(l.map λb=>f b*w).sum=(l.map f).sum*w:=by
 induction l with
 |nil=>simp
 |cons b r g=>grind
def Zms{l:ZS}(h:Int)(w:Int)(f:l.Nodup):(l.map λb=>if h=b then w else 0).sum=if h∈l then w else 0:=by
 induction l with
 |nil=>rfl
 |cons b r g=>grind
section
variable {ps:ZR}
theorem Ll:∀{os:ZS},(ps.getD n (0,0)).1∉os->KD ps (n+1) os=KD ps n os
 |[],_=>rfl
 |a::r,h=>by
  have f:(ps.getD n (0,0)).1≠a:=λz=>h (by grind);simp only[KD];rw[Ll (λz=>h (WK _ z))];congr 1;apply Nx;simp only[pcM];lia
theorem G9:∀{os:ZS},os.Nodup->(ps.getD n (0,0)).1∈os->KD ps (n+1) os=KD ps n os+KL ps n (ps.getD n (0,0)).1 os*(ps.getD n (0,0)).2
 |[],_,h=>by cases h
 |a::r,p,h=>by
  obtain⟨g,o⟩:=Qg.mp p;simp only[KD,KL];by_cases e:a=(ps.getD n (0,0)).1
  ·rw[W3 e];have f:(ps.getD n (0,0)).1∉r:=by rw[←e];exact g
   rw[Ll f,←Zfz]
   have l:(r.map λb=>pcM ps a b (n+1)).sum=(r.map λb=>pcM ps a b n+tpM ps b n*(ps.getD n (0,0)).2).sum:=by
    apply Nx;intro b s;simp only[pcM];rw[W3 ⟨λz=>g (by rw[z];exact s),e.symm⟩]
   rw[l,GZ];lia
  ·rw[W2 e];have f:(ps.getD n (0,0)).1∈r:=by grind
   rw[G9 o f]
   have l:(r.map λb=>pcM ps a b (n+1)).sum=(r.map λb=>pcM ps a b n).sum:=by
    apply Nx;simp only[pcM];lia
   lia
theorem Mv:∀{os:ZS},(ps.getD n (0,0)).1∉os->KL ps (n+1) h os=KL ps n h os
 |[],_=>rfl
 |a::r,f=>by
  simp only[KL];rw[Mv (λz=>f (WK _ z))]
  have g:(r.map λb=>tpM ps b (n+1)).sum=(r.map λb=>tpM ps b n).sum:=by
   apply Nx;simp only[tpM]
   grind
  lia
theorem LC{h}:∀{os:ZS},os.Nodup->h∈os->(ps.getD n (0,0)).1∈os->
  KL ps (n+1) h os=KL ps n h os+(if os.idxOf h<os.idxOf (ps.getD n (0,0)).1 then(ps.getD n (0,0)).2 else 0)
 |[],_,v,_=>by cases v
 |a::r,C,v,A=>by
  obtain⟨y,x⟩:=Qg.mp C;generalize o:(ps.getD n (0,0)).1=g at A ⊢;generalize B:(ps.getD n (0,0)).2=w at ⊢;simp only[KL];by_cases e:a=h
  ·subst e;rw[W3 rfl,W3 rfl]
   have H:(r.map λb=>tpM ps b (n+1)).sum=(r.map λb=>tpM ps b n+(if g=b then w else 0)).sum:=by
    apply Nx;intro b _;simp only[tpM];rw[o,B]
   rw[H,GZ,Zms g w x];have u:(a::r).idxOf a=0:=by simp
   by_cases l:g=a
   ·subst l;rw[u,W2 y,W2 (by lia)]
   ·grind
  ·rw[W2 e,W2 e]
   have E:h∈r:=by
    rcases W8.mp v with z|z
    ·exact absurd z.symm e
    ·exact z
   have s:(a::r).idxOf h=r.idxOf h+1:=DF e;by_cases l:g=a
   ·subst l;have u:(g::r).idxOf g=0:=by simp
    rw[Mv (by rw[o];exact y),u,W2 (by lia)];lia
   ·have G:g∈r:=by
     rcases W8.mp A with z|z
     ·exact absurd z l
     ·exact z
    have p:(a::r).idxOf g=r.idxOf g+1:=DF (Ne.symm l);rw[LC x E (by rw[o];exact G),o,B,s,p];by_cases f:r.idxOf h<r.idxOf g
    ·rw[W3 f,W3 (by lia)]
    ·rw[W2 f,W2 (by lia)]
theorem LI{os h}(f:os.Nodup)(o:h∈os):∀n,(∀j,j<n->(ps.getD j (0,0)).1∈os)->KL ps n h os=rsM ps os h n
 | 0,_=>by
  have:∀l,KL ps 0 h l=0:=by
   intro l
   induction l with
   |nil=>rfl
   |cons a r p=>
    simp only[KL,tpM];rw[Lq,p];simp
  rw[this];rfl
 |n+1,g=>by
  rw[LC f o (g n<|by simp),LI f o n λj s=>g j (by lia)];rfl
theorem MK{os}(g:os.Nodup):∀n,(∀j,j<n->(ps.getD j (0,0)).1∈os)->KD ps n os=KS ps os n
 | 0,_=>by
  have:∀l,KD ps 0 l=0:=by
   intro l
   induction l with
   |nil=>rfl
   |cons a r h=>
    simp only[KD,pcM];rw[Lq,h];rfl
  rw[this];rfl
 |n+1,f=>by
  rw[G9 g (f n<|by simp),MK g n (λj o=>f j (by lia)),LI g (f n<|by simp) n λj o=>f j (by lia)];rfl
end
end M
namespace ExcR
open PySem PySem.Spec PyProof.Rows L2
structure Kp (fs ex:List Addr) (h h':Heap):Prop where
 keep:∀b o,h.get? b=some o->b∉fs->b∉ex->h'.get? b=some o
 slot:∀b o,h.get? b=some o->b∉ex->∃sl,h'.get? b=some {o with slots:=sl}
 size:h.objs.size<=h'.objs.size
def Kp.trans (a:Kp fs ex l h) (b:Kp fs ex h g):Kp fs ex l g:=
 ⟨λc o e n m=>b.keep c o (a.keep c o e n m) n m,λc o e m=>by
  obtain⟨s,r⟩:=a.slot c o e m;obtain⟨f,p⟩:=b.slot c _ r m;exact⟨f,p⟩,W9 a.size b.size⟩
def Kp.mono {fs f ex g}{l h} (a:Kp fs ex l h) (p:∀b∈fs,b∈f) (hx:∀b∈ex,b∈g):Kp f g l h:=
 ⟨λc o e n m=>a.keep c o e (λz=>n (p c z)) (λz=>m (hx c z)),λc o e m=>a.slot c o e λz=>m (hx c z),a.size⟩
def Zmy(o:Obj)(f):(o.mapFields f).dict=o.dict:=by
 obtain⟨c,d,g,sl⟩:=o;cases g<;>rfl
structure Trc (h:Heap) (e T:Addr) (cls:Value×Yd) (fl:Value):Prop where
 ne:T≠e
 exc:∃oe vs,h.get? e=some oe/\(oe.cls,oe.dict)=cls/\oe.data=.fields vs/\vs[1]?=some (.ref T)
 ent:∃oT ts,h.get? T=some oT/\oT.data=.fields ts/\ts[3]?=some fl
section
variable {M:Model}{A:Around}{E:ZV}{s:Shared}{base:Heap}{env:Env}{outer:List Env}{L e:Addr}
def DS{hadNext Q}(B:A.frames=some (env::outer))(U:s.heap.FunFrames base (env::outer))(hf:env.frame=some L)(Y:s.heap.get? e=some v)(C:v.data=.fields vs)(hsz:1<vs.size)(h:∀H T,s.heap.objs.size<=T->Trc H e T (v.cls,v.dict) (rawInt L)->Kp (frs (env::outer)) [e] s.heap H->Q () {s with heap:=H}) :
  wpAny M A (do let a ←frameOf env;let u ←entryPlaceOf L hadNext;let b ←EntryCells.newEntry head a .none (rawInt L) .none u;setField (.ref e) 1 b) Q E s:=by
 have n:e∉frs (env::outer):=λhm=>by
  obtain⟨_,o,N,y⟩:=U.mem hm;rw[Y]at N;cases N
  exact y vs C
 refine Wu (wpAny_frameOf_fun B U hf λG g=>Wu (wpAny_entryPlaceOf λu x=>?_));refine Wu (Qp ?_<|x.sizeOk5 _ _ _ _ _);have r:=(g.2.1 e n).trans Y;generalize eo:({cls:=.type "traceback",dict:=none,data:=.fields ([head,.ref L,.none,rawInt L,.none]++(if u.isEmpty then List.replicate 6 Value.none else u)).toArray}:Obj)=J;have p:=Wz J r;refine QF p C hsz (h _ G.objs.size (QH g.1.symm) ?_ ?_)
 ·have l:=Jx (WE r);have d3:=Qw C (·.setIfInBounds 1 (Value.ref G.objs.size));refine⟨l,⟨_,_,Qo _ p (QG d3),by rw[VO,Zmy],d3,by simp[hsz]⟩,J,_,?_,by rw[←eo],?_⟩
  ·exact(Qs _ _<|Ne.symm l).trans (WD G<|by rw[←eo];rfl)
  ·rfl
 ·refine⟨λb o q nb w=>?_,λb o q w=>?_,?_⟩
  ·have f:b≠e:=λz=>w (by simp[z]);rw[Qs _ _ (Ne.symm f)];exact Wz _ ((g.2.1 b nb).trans q)
  ·have f:b≠e:=λz=>w (by simp[z]);obtain⟨sl,q1⟩:=g.2.2 b o q;exact⟨sl,by rw[Qs _ _ (Ne.symm f)];exact Wz _ q1⟩
  ·rw[Heap.size_update,Vc,g.1];exact VQ _
def Zkn(g:A.frames=some (env::outer))(u:s.heap.FunFrames base (env::outer))(n:env.frame=some L)(o:s.heap.get? e=some f)(p:f.data=.fields vs)(r:vs[1]?=some .none)(h:∀l T,s.heap.objs.size<=T->Trc l e T (f.cls,f.dict) (rawInt L)->Kp (frs (env::outer)) [e] s.heap l->Q () {s with heap:=l}):wpAny M A (noteFrame (.ref e) env) Q E s:=by
 unfold noteFrame;simp only[n];refine Wu (Jk o p r ?_);exact DS g u n o p (V3.mp r).1 h
def Lz(x:Trc s.heap e T cls Y)(h:∀g,Trc g e T cls .none->Kp [] [T] s.heap g->Q () {s with heap:=g}) :
  wpAny M A (setField (.ref T) 3 .none) Q E s:=by
 obtain⟨n,⟨w,v,J,H,G,C⟩,U,N,r,p,y⟩:=x;have u:=(V3.mp y).1;refine QF r p u (h _ ?_ ?_)
 ·have d3:=Qw p (·.setIfInBounds 3 Value.none);exact⟨n,⟨w,v,(Qs _ _ n).trans J,H,G,C⟩,_,_,Qo _ r (QG d3),d3,by simp[u]⟩
 ·have l:∀b,b≠T->(s.heap.update T<|Obj.mapFields (·.setIfInBounds 3 Value.none)).get? b=s.heap.get? b:=λb B=>Qs _ _ (Ne.symm B);exact⟨λb o q _ f=>(l b λz=>f (by grind)).trans q,λb o q f=>⟨o.slots,(l b λz=>f (by grind)).trans q⟩,QH (Heap.size_update ..).symm⟩
def Zf0(n:A.frames=some (env::outer))(hl:s.heap.FunFrames base (env::outer))(y:env.frame=some L)(x:Trc s.heap e T cls .none)(h:∀r f,s.heap.objs.size<=f->Trc r e f cls (rawInt L)->Kp (frs (env::outer)) [e,T] s.heap r->Q () {s with heap:=r}):wpAny M A (noteFrame (.ref e) env) Q E s:=by
 obtain⟨ne,⟨oe,vs,g1,g2,g3,g4⟩,oT,G,w,v,Y⟩:=id x;unfold noteFrame;simp only[y];refine Wu (Jk g1 g3 g4 ?_);refine Wu (Jk w v Y ?_);refine Wu (Lz x λh1 B u=>?_)
 have l:=hl.of_keeps λb o q g=>⟨o,u.keep b o q (by simp) (λz=>by
  rw[Wx.mp z,w]at q;cases q
  exact g G v),rfl⟩
 obtain⟨_,⟨U,C,N,p2,J,H⟩,_⟩:=id B;refine DS n l y N J (V3.mp H).1 λh2 f p x2 K2=>h h2 f (W9 u.size p) (by grind) ?_;exact(u.mono (by simp)<|by simp).trans (K2.mono (λ_ z=>z)<|by simp)
def Li(x:Trc s.heap e T cls v)(h:∀f,Trc f e T cls .none->Kp [] [T] s.heap f->Q () {s with heap:=f}) :
  wpAny M A (setFlight (.ref e) none) Q E s:=by
 obtain⟨r,⟨p,o,n,u,l,g⟩,_⟩:=id x;refine Wu (Jk n l g ?_);exact Lz x h
def Zc2(l:A.frames=some (env::outer))(y:s.heap.FunFrames base (env::outer))(B:env.frame=some L)(C:s.heap.get? e=some f)(G:f.data=.fields vs)(J:vs[1]?=some .none)(h:∀p T,s.heap.objs.size<=T->Trc p e T (f.cls,f.dict) .none->Kp (frs (env::outer)) [e] s.heap p->Q () {s with heap:=p}):wpAny M A (leaving env<|.ref e) Q E s:=by
 unfold leaving;refine Wu (Zkn l y B C G J λN T n x K=>Li x λH u r=>h H T n u ?_);refine⟨λb o q w g=>r.keep b o (K.keep b o q w g) (by simp) (λz=>?_),λb o q g=>?_,W9 K.size r.size⟩
 ·rw[Wx.mp z]at q;exact absurd (WE q) (Jw.mpr n)
 ·obtain⟨sl,v⟩:=K.slot b o q g;exact⟨sl,r.keep b _ v (by simp) (λz=>by rw[Wx.mp z]at q;exact absurd (WE q) (Jw.mpr n))⟩
def Zcc(l:A.frames=some (env::outer))(B:s.heap.FunFrames base (env::outer))(C:env.frame=some L)(x:Trc s.heap e T cls .none)(h:∀p f,s.heap.objs.size<=f->Trc p e f cls .none->Kp (frs (env::outer)) [e,T] s.heap p->Q () {s with heap:=p}):wpAny M A (leaving env<|.ref e) Q E s:=by
 refine Wu (Zf0 l B C x λH f n v K=>Li v λG u r=>h G f n u ?_);refine⟨λb o q y g=>r.keep b o (K.keep b o q y g) (by simp) (λz=>?_),λb o q g=>?_,W9 K.size r.size⟩
 ·rw[Wx.mp z]at q;exact absurd (WE q) (Jw.mpr n)
 ·obtain⟨sl,w⟩:=K.slot b o q g;exact⟨sl,r.keep b _ w (by simp) (λz=>by rw[Wx.mp z]at q;exact absurd (WE q) (Jw.mpr n))⟩
end
section
variable {P:Program}{w:World}{H H':Hp}{h h':Heap}{a:Addr}{o:HO}{fs ex:List Addr}
def has(x:ObjOk P w H h a o):∃u,h.get? a=some u:=by
 cases o with
 |lst xs=>exact let ⟨_,_,_,_,e⟩:=x;⟨_,e⟩
 |tup xs=>exact let ⟨_,_,_,u,e,_⟩:=x;⟨u,e⟩
 |dK f|dT f=>exact let ⟨_,_,_,_,u,_,_,e,_⟩:=x;⟨u,e⟩
 |set S n=>exact let ⟨u,_,_,_,e,_⟩:=x;⟨u,e⟩
 |ins C r fs=>exact let ⟨_,_,_,e,_⟩:=x;⟨_,e⟩
 |own y=>exact x
 |xd fs=>exact let ⟨_,⟨u,_,_,e,_⟩,_⟩:=x;⟨u,e⟩
 |rng lo p=>exact let ⟨_,_,_,e⟩:=x;⟨_,e⟩
 |frz l u=>exact⟨_,x.1⟩
 |ext g=>exact x.2.1
 |_=>exact⟨_,x⟩
def MV(ok:HOk P w H h)(e:h.get? a=none):H a=none:=by
 cases q:H a with
 |none=>rfl
 |some o=>
  obtain⟨u,z⟩:=has (ok a o q)
  grind
def Ef(ok:HOk P w H h)(k:Kp fs ex h h')(g:∀b∈fs,H b=none)(hx:∀b∈ex,H b=none):HOk P w H h':=λa o e=>by
 refine(ok a o e).stay (λb u l q=>?_) (λ_ q=>q) (λ_ _ q=>q);have f:H b≠none:=by grind
 exact k.keep b u q (λz=>f (g b z)) λz=>f (hx b z)
end
structure XAt (P:Program) (w:World) (outer:List Env) (H H':Hp) (s s':Shared) (a T C:Addr) (dx:Yd):Prop where
 os:s'.os=s.os
 bare:AllBare s'.gens
 un:Un (frs outer) [] H H' s.heap s'.heap
 hok:HOk P w H' s'.heap
 na:s.heap.get? a=none
 nT:s.heap.get? T=none
 fa:H' a=none
 fT:H' T=none
 tr:Trc s'.heap a T (.ref C,dx) .none
noncomputable def CXe(P:Program)(w:World):CXT:=λouter H s E e h=>∃a T C f g,e=.ref a/\XAt P w outer H g s h a T C f/\E (.ref C) f g
section
variable {X:Cx}{pins:ZT}{σ:L2.St}{H H':Hp}{s s':Shared}{a T C:Addr}{dx:Yd}
def Lr(I:Inv X pins σ H s)(hex:X.ex=[])(k:Kp (frs X.stack) ex s.heap v)(hx:∀b∈ex,X.s₀.heap.get? b=none):Un X.fs [] X.H₀ H X.s₀.heap v:=by
 have B:=I.base;rw[hex]at B;have f:∀b o,X.s₀.heap.get? b=some o->b∉ex:=λb o q z=>by rw[hx b z]at q;cases q
 have r:∀b o,X.s₀.heap.get? b=some o->b∉X.fs->b∉frs X.stack:=λb o q nf z=>by
  rcases W8.mp (I.stkSub b z)with e|e
  ·have x:=WE q;have w:=I.ok.above
   grind
  ·exact nf e
 refine⟨λb o q n nf g=>k.keep b o (B.keep b o q n nf g) (r b o q nf) (f b o q),λb o q n u g=>?_,λb o q n g=>B.free b o q n g,λb o q g=>?_,B.tups,B.frzs,B.tbls⟩
 ·obtain⟨sl,l⟩:=B.slot b o q n u g;obtain⟨h,p⟩:=k.slot b _ l (f b o q)
  grind
 ·obtain⟨o1,l⟩:=B.there b o q g;obtain⟨h,p⟩:=k.slot b _ l (f b o q);exact⟨_,p⟩
def B5(I:Inv X pins σ H s)(hex:X.ex=[])(e:s.heap.get? b=none):X.s₀.heap.get? b=none:=by
 cases q:X.s₀.heap.get? b with
 |none=>rfl
 |some o=>
  obtain⟨u,z⟩:=I.base.there b o q (by grind)
  grind
variable {E:ZV}
def OY(I:Inv X pins σ H s)(hex:X.ex=[])(g:X.stack=X.env::X.outer)(l:X.env.frame=some X.env.locals)(x:XAt X.prog X.w X.stack H H' s s' a T C dx) :
  wpAny (model X.prog X.w) X.A (leaving X.env<|.ref a) (λ_ u=>∃n,XAt X.prog X.w X.outer X.H₀ H' X.s₀ u a n C dx) E s':=by
 have J:=I.call' x.os x.un x.hok x.bare λb z=>absurd z (by simp);have o:=J.stack;have p:=J.ok.frames;rw[g]at o p;refine Zcc p o l x.tr λv n h r k=>⟨n,J.os,J.bare,?_,?_,B5 I hex x.na,?_,x.fa,x.hok.fresh h,r⟩
 ·exact Lr J hex (by rw[g];exact k) λb f=>by
   rcases W8.mp f with rfl|f
   ·exact B5 I hex x.na
   ·rw[Wx.mp f];exact B5 I hex x.nT
 ·refine Ef x.hok k (λb f=>J.stkFree b (by grind)) λb f=>?_;rcases W8.mp f with rfl|f
  ·exact x.fa
  ·rw[Wx.mp f];exact x.fT
 ·exact Ja (W9 J.sz h)
def Zi3(J:Inv X pins σ H s)(hex:X.ex=[])(f:X.stack=X.env::X.outer)(n:X.env.frame=some X.env.locals)(r:X.s₀.heap.get? a=none)(x:H a=none)(B:s.heap.get? a=some l)(L:l.cls=.ref C)(o:l.dict=dx)(G:l.data=.fields vs)(M:vs[1]?=some .none) :
  wpAny (model X.prog X.w) X.A (leaving X.env<|.ref a) (λ_ z=>∃p,XAt X.prog X.w X.outer X.H₀ H X.s₀ z a p C dx) E s:=by
 have u:=J.stack;have v:=J.ok.frames;rw[f]at u v;refine Zc2 v u n B G M λN p g y k=>⟨p,J.os,J.bare,?_,?_,r,?_,x,J.hok.fresh g,by rw[←L,←o];exact y⟩
 ·exact Lr J hex (by rw[f];exact k) λb h=>by rw[Wx.mp h];exact r
 ·exact Ef J.hok k (λb h=>J.stkFree b (by grind)) λb h=>by rw[Wx.mp h];exact x
 ·exact Ja (W9 J.sz g)
def Zd9{f vs}(I:Inv X pins σ H s)(hex:X.ex=[])(g:X.stack=X.env::X.outer)(h:X.env.frame=some X.env.locals)(keeps:∀b o,s.heap.get? b=some o->n.get? b=some o)(new:s.heap.get? a=none)(r:n.get? a=some f)(v:f.cls=.ref C)(l:f.dict=dx)(u:f.data=.fields vs)(x:vs[1]?=some .none) :
  wpAny (model X.prog X.w) X.A (leaving X.env<|.ref a) (λ_ p=>∃y,XAt X.prog X.w X.outer X.H₀ H X.s₀ p a y C dx) E {s with heap:=n}:=
 Zi3 (s:={s with heap:=n}) (I.call' (ch:=[]) rfl (Un.kept keeps) (I.hok.kept keeps) I.bare λb z=>absurd z (by simp)) hex g h (B5 I hex new) (MV I.hok new) r v l u x
end
structure Bm (K:ZQ) (C:Addr):Prop where
 q:PySem.W.excIn K C [.type "ValueError",.type "Exception",.type "BaseException",.type "object"] "ValueError.__new__"=true
def Bm.obj {K C h} (c:Bm K C) (k:K.In h):∃f N nm q bs hdct sn sub ab col dd k0 k1 k2 k3 k5 p,h.get? C=some (excClassObj nm q C N bs f hdct sn sub ab col dd k0 k1 k2 k3 k5 "ValueError.__new__")/\h.Ns N p/\p "__init__"=none/\
  OwnTail h [.type "ValueError",.type "Exception",.type "BaseException",.type "object"] f:=by
 have e:=c.q;unfold PySem.W.excIn at e;split at e
 next dd L sl A=>
  split at e
  next M f k0 k1 k2 k3 n k5 s r=>
   simp only[Ql,beq_iff_eq,Bool.not_eq_true']at e;obtain⟨⟨⟨⟨⟨H,G⟩,w⟩,E⟩,o⟩,v⟩:=e;subst H G;have u:=k _ _ A;cases L with
   |mk nm bs z y x B sn sub ab col J=>
    simp only at s w o v
    have g:sl=#[k0,k1,k2,k3,some (.builtin "ValueError.__new__"),k5]:=by
     cases sl with
     |mk l=>simp only at r;rw[r]
    rw[s,w,g]at u;exact⟨f,y,nm,x,bs,B,sn,sub,ab,col,dd,k0,k1,k2,k3,k5,_,u,.of_isNs (PySem.W.isNs_of_in k o),PySem.W.nsMap_none_of_in k o v,PySem.W.tail_of_in k E⟩
  next=>cases e
 next=>cases e
abbrev TF:=L2.St->Hp->Str->(Str->Hp->Prop)->Prop
def PF(X:Cx)(es:Ya)(t:TF):Prop:=
 ∀(pins:ZT) (s:Shared) (g:L2.St) (H:Hp) (f:Str) (Q:Str->Hp->Prop),Inv X pins g H s->t g H f Q->
  wpAny (model X.prog X.w) X.A (joinParts f<|evalEach es X.env) (λu l=>∃x h,Inv X pins g h l/\RelV (.str x) u/\Q x h) X.xe s
section
variable {X:Cx}{e e1 e2:Expr}{es:Ya}{t:TF}{tv:TE}{pos:Pos}
noncomputable def LM:TF:=λ_ H f Q=>f.length<=sizeLine/\Q f H
noncomputable def MF(x:Str)(t:TF):TF:=λg H f Q=>(f++x).length<=sizeLine/\t g H (f++x) Q
noncomputable def Me(tv:TE)(t:TF):TF:=λg H f Q=>tv g H λv h=>(∃i:Int,v=.int i/\i.natAbs.log2<1920/\(f++(Str.ofString<|toString i)).length<=sizeLine/\t g h (f++Str.ofString (toString i)) Q)\/
 ∃x:Str,v=.str x/\x.length<=sizeLine/\(f++x).length<=sizeLine/\t g h (f++x) Q
def T4:PF X [] LM:=λpins s g H f Q I h=>joinParts_nilE (joinParts_nil ⟨f,H,I.tok _,⟨_,rfl⟩,h.2⟩ h.1)
def KO(h:PF X es t):PF X (.Constant (.str x) j pos::es) (MF x t):=λpins s f H g Q I q=>
 joinParts_consE (joinParts_cons<|Calls.Constant_str ⟨q.1,h pins _ f H _ Q (I.tok _) q.2⟩)
def Ti(A:PE X e tv)(h:PF X es t):PF X (.FormattedValue e (-1) none pos::es) (Me tv t):=λpins s f H z Q I q=>by
 refine joinParts_consE (joinParts_cons<|FormattedValue_plain<|thn (A pins s f H _ I q) ?_);rintro u E ⟨v,o,n,r,y⟩;rcases y with⟨i,rfl,B,l,g⟩|⟨x,rfl,hx,l,g⟩
 ·obtain⟨w,rfl⟩:=r;exact formatField_int_small B ⟨l,h pins _ f o _ Q (n.tok _) g⟩
 ·obtain⟨w,rfl⟩:=r;exact formatField_str (λC p=>⟨l,h pins _ f o _ Q (n.tok _) g⟩) hx
noncomputable def tF(t:TF):TE:=λf H Q=>t f H Str.empty λx g=>Q (.str x) g
def T6(h:PF X (e1::e2::es) t):PE X (.JoinedStr (e1::e2::es) pos) (tF t):=λpins s f H Q I q=>
 JoinedStr_many (thn (h pins s f H _ _ I q) λu o ⟨x,n,l,r,g⟩=>⟨.str x,n,l,r,g⟩)
end
def FI(X:Cx)(E:XK):Prop:=∀(pins:ZT) (g:L2.St) (H:Hp) (s:Shared) (C a:Addr) (f:Heap) (args:ZY),Inv X pins g H s->Heap.MadeExcOf s.heap f a (.ref C) args->E (.ref C) none H->X.xe (.ref a) {s with heap:=f}
noncomputable def GS(C:Addr)(E:XK)(t:TA):TS:=λ_ f H=>t f H λg h=>g.length<=sizeLine/\E (.ref C) none h
section
variable {X:Cx}{x:Str}{C:Addr}{E:XK}{e:Expr}{es:Ya}{t:TA}{p cpos pos:Pos}
def Zcj(c:Bm X.K C)(L:X.mg x=some (.ref C))(U:FI X E)(Q:X.calm=true)(T:PA X (e::es) t)(M:autoParam (Gl X x) au_0)(r:autoParam ((x==("__debug__" : Str))=false) au_1)(v:autoParam (starEach (e::es) X.env=(false,eval e X.env)::starEach es X.env) au_0)(l:autoParam ((backTo cpos<|starEach es X.env).any (·.1)=false) au_0):PS X (.Raise (some<|.Call (.Name x p) (e::es) [] cpos) none pos) (GS C E t):=by
 intro pins s u H D I h;obtain⟨bm,N,nm,q,bs,hdct,sn,sub,ab,col,dd,k0,k1,k2,k3,k5,mN,hC,Y,n,w⟩:=c.obj I.ok.mod.kin
 have f:(backTo cpos<|starEach (e::es) X.env).any (·.1)=false:=by
  rw[v];show(false || (backTo cpos<|starEach es X.env).any (·.1))=false;rw[l];rfl
 refine wpAny_Raise_call_subU (nm:=nm) (q:=q) (N:=N) (bs:=bs) (hdct:=hdct) (sn:=sn) (sub:=sub) (ab:=ab) (col:=col) (dd:=dd) (k0:=k0) (k1:=k1) (k2:=k2) (k3:=k3) (k5:=k5)
  PySem.F.excBase_ValueError (by decide +kernel) PySem.F.excBase_ValueError (w.hasType<|by decide +kernel) (I.ok.hd Q) f n (BF I M L ⟨rfl,?_⟩ r)
 have y:=T cpos pins s u H _ I h;rw[v]at y ⊢;refine Calls.evalArgs_plain (thn y ?_);rintro z A ⟨vs,H2,g,B,J,G⟩;refine⟨rfl,by rw[←B.length];exact J,g.bk _ _ hC,Y.keeps g.bk,w.keeps g.bk,λh' a o=>?_⟩;exact U pins u H2 A C a h' z g o G
end
section
variable {P:Program}{w:World}{K:ZQ}{mg:ZU}{base:Heap}{N ps:ZZ}{qual x:Str}{scope:Scope}{f:Addr}{cd:Value}{A:Around}{outer:List Env}{s:Shared}{H:Hp}{E:XK}
def Km:FI (Xj (CXe P w) P w K mg base N qual scope f cd A outer s H E) E:=by
 intro pins n l p C a r args I m q;obtain⟨t,g,_,_⟩:=m.there;exact Qv (Zd9 I rfl rfl rfl m.keeps m.new g rfl rfl rfl rfl) (λ_ o ⟨h,y⟩=>⟨a,h,C,none,l,rfl,y,q⟩) λ_ _ z=>z
def Xu:K0 (CXe P w) (Xj (CXe P w) P w K mg base N qual scope f cd A outer s H E) E:=by
 rintro pins n u r e p I ⟨a,T,C,g,l,rfl,y,q⟩;exact Qv (OY I rfl rfl rfl y) (λ_ o ⟨h,z⟩=>⟨a,h,C,g,l,rfl,z,q⟩) λ_ _ z=>z
def Zmw:PassesOwn (model P w) (Xj (CXe P w) P w K mg base N qual scope f cd A outer s H E).A (Xj (CXe P w) P w K mg base N qual scope f cd A outer s H E).env (Xj (CXe P w) P w K mg base N qual scope f cd A outer s H E).xe:=PassesOwn.leaving
def Def.okX {st k sp} (D:Own.Def K mg x st ps) (S:U7 N ps (U6 st)) (len:∀vs H Q E,sp vs H Q E->vs.length=ps.length)
  (h:∀f g A outer s H vs Q E,UH k (A.deeper<|envOfC x (U6 st) s.heap.objs.size f g)->sp vs H Q E->
   ∃t,PSs (Xj (CXe P w) P w K mg base N x (U6 st) f g A outer s H E) (Xb st) t/\t {nx:=λ_ H'=>Q .non H',rt:=Q} (start N vs) H):Own.Callee P w K mg base (CXe P w) (k+1) x ps sp:=by
 obtain⟨f,C,F,u,v⟩:=D.ex;obtain⟨oc,B,kV,y,z,J,g,G,p,rfl,o,n⟩:=F.ex;exact⟨f,_,AZ o n S len λA outer s H vs Q E r l=>h f g A outer s H vs Q E r l,u,F.kp,⟨_,o,rfl⟩,v⟩
end
end ExcR
namespace ExcR
open PySem PySem.Spec PyProof.Rows L2
open Sem (wp)
structure XY (K:ZQ) (C:Addr):Prop where
 c:Bm K C
 ga:PySem.W.findIn K (.ref C) "__getattribute__"=some (some<|.builtin "BaseException.__getattribute__")
 gt:PySem.W.findIn K (.ref C) "__getattr__"=some none
 cl:PySem.W.findIn K (.ref C) "__class__"=some (some<|.builtin "object.__class__")
 is:(PySem.W.clsIn K C).isSome=true
end ExcR
namespace ExcR
open PySem PySem.Spec PyProof.Rows L2
noncomputable def Ad(a C:Addr)(g:Yd):HO:=.ext λh=>∃o,h.get? a=some o/\(o.cls,o.dict)=(.ref C,g)/\∃f,o.data=.fields f
noncomputable abbrev Zfv(a C:Addr):HO:=Ad a C none
noncomputable def Zmp(i:Nat)(D:Ends):Ends:={nx:=λf H=>D.nx (f.set i none) H,rt:=D.rt,bk:=λf H=>D.bk (f.set i none) H,ct:=λf H=>D.ct (f.set i none) H}
noncomputable def hx(K:ZQ)(l:Addr)(i:Nat)(g:TS)(D:Ends):L2.St->XK:=λf c h H=>∃C,c=.ref C/\PySem.W.exmOne K (.ref C) (.ref l)=some true/\
 ∀a,H a=none->g (Zmp i D) (f.set i<|some<|.ref a) (upd H a<|Ad a C h)
noncomputable def UC(f:ZU)(x:Str):Addr:=match f x with
 |some (.ref C)=>C
 |_=>0
def GJ(h:f x=some (.ref C)):UC f x=C:=by unfold UC;rw[h]
def Kz{v pos}(h:∃u,X.mg x=some u/\RelV v u)(f:autoParam (Gl X x) au_0)(g:autoParam ((x==("__debug__" : Str))=false) au_1):PE X (.Name x pos) (tC v):=by
 obtain⟨u,n,l⟩:=h;exact Zg5 f n l g
end ExcR
namespace Own
open PySem PySem.Spec PyProof.Rows L2 M
section
variable {X:Cx}{pins:ZT}{σ:L2.St}{H:Hp}{s:Shared}
def EN{p:Int×Int}{its}(r:Vals [V.int p.1,V.int p.2] its):∃g f,its=[.int p.1 g,.int p.2 f]:=by
 cases r with
 |cons o h=>
  cases h with
  |cons n l=>
   cases l
   obtain⟨g,rfl⟩:=o;obtain⟨f,rfl⟩:=n
   grind
def EH{x y p q u v}(I:Inv X pins σ H s)(U:A.units<cLine)(L:RelV x u)(J:RelV y v)(Y:Kg H x p)(hq:Kg H y q):SeqAt.EqAt A s u v (decide (p=q)):=by
 obtain⟨a,rfl,C⟩:=Y;obtain⟨b,rfl,l⟩:=hq;obtain rfl:=L;obtain rfl:=J;by_cases n:a=b
 ·subst n;rw[C]at l
  have e:p=q:=by
   injection l with l;injection l with l;injection l with g f;injection f with f _;exact Prod.ext (V.int.inj g) (V.int.inj f)
  rw[Ww e];exact SeqAt.EqAt.same _
 ·obtain⟨_,T,N,G⟩:=(I.hok a _ C);obtain⟨_,Q,M,E⟩:=(I.hok b _ l);obtain⟨B,w,rfl⟩:=EN N;obtain⟨r,o,rfl⟩:=EN M
  have h:=SeqAt.RcAt.tuples (e:=λj=>if j=0 then p.1==q.1 else p.2==q.2) G E U (λj g f=>by
   have hj:j=0\/j=1:=by
    have h1':j<2:=g;lia
   rcases hj with rfl|rfl
   ·exact SeqAt.EqAt.int_int _ _ _ _
   ·exact SeqAt.EqAt.int_int _ _ _ _)
  have e:((List.range (min ([Value.int p.1 B,Value.int p.2 w].toArray).size ([Value.int q.1 r,Value.int q.2 o].toArray).size)).all (λj=>if j=0 then p.1==q.1 else p.2==q.2)&&([Value.int p.1 B,Value.int p.2 w].toArray).size==([Value.int q.1 r,Value.int q.2 o].toArray).size)=decide (p=q):=by
   show((List.range 2).all (λj=>if j=0 then p.1==q.1 else p.2==q.2)&&true)=decide (p=q);rw[Bool.and_true];have e2:(List.range 2).all (λj=>if j=0 then p.1==q.1 else p.2==q.2)=((p.1==q.1)&&(p.2==q.2)):=by simp[List.range,List.range.loop]
   rw[e2];by_cases g:p.1=q.1
   ·by_cases f:p.2=q.2
    ·rw[Ww (Prod.ext g f)];simp[g,f]
    ·rw[Qa (λz=>f (by rw[z]))];simp[f]
   ·rw[Qa (λz=>g (by rw[z]))];simp[g]
  rw[e]at h;exact SeqAt.EqAt.of_refs n h
noncomputable def eP(H:Hp)(q:Int×Int)(u:Value):Bool:=match u with
 | .ref a=>(match H a with
  |some (.tup [.int i,.int j])=>decide ((i,j)=q)
  |_=>false)
 |_=>false
def E6{p q}(h:Kg H v p)(r:RelV v u):eP H q u=decide (p=q):=by
 obtain⟨a,rfl,f⟩:=h;obtain rfl:=r;unfold eP;simp_all
theorem CL:∀{vs us}{ps:ZR},Vals vs us->LV Kg H vs ps->us.any (eP H q)=decide (q∈ps)
 |_,_,[],.nil,_=>rfl
 |_,_,_::_,.nil,h|v::vs,u::us,[],.cons _ _,h=>absurd h.1 (by simp)
 |v::vs,u::us,p::ps,.cons r t,h=>by
  obtain⟨l,e,f⟩:=h.2 0 p rfl;cases e
  have g:LV Kg H vs ps:=⟨by simpa using h.1,λi x e=>h.2 (i+1) x e⟩;rw[V2,E6 f r,CL t g];by_cases n:p=q
  ·grind
  ·grind
noncomputable def NX(neg:Bool):R2:=λx y H Q=>∃(l:Addr) (f:ZR) (q:Int×Int),y=.ref l/\Kg H x q/\LAt Kg H l f/\Q (.bl (if neg then !decide (q∈f)else decide (q∈f))) H
theorem Fe{x v q}(I:Inv X pins σ H s)(l:A.units<cLine)(g:RelV x v)(hx:Kg H x q):∀{vs us}{ps:ZR},Vals vs us->LV Kg H vs ps->∀u∈us,SeqAt.EqAt A s u v (eP H q u)
 |_,_,_,.nil,_,u,f=>by cases f
 |w::vs,u::us,[],.cons _ _,h,_,_=>absurd h.1 (by simp)
 |w::vs,u::us,p::ps,.cons r t,h,n,f=>by
  obtain⟨y,e,hw⟩:=h.2 0 p rfl;cases e
  have o:LV Kg H vs ps:=⟨by simpa using h.1,λi x e=>h.2 (i+1) x e⟩;rcases W8.mp f with rfl|f
  ·rw[E6 hw r];exact EH I l r g hw hx
  ·exact Fe I l g hx t o n f
def Ze6(z:X.A.in1.units<cLine):OpR X (compareOp .In) (NX false):=by
 intro pins s σ H x y v u Q I o n h;obtain⟨l,E,q,rfl,hx,⟨C,B,g⟩,k⟩:=h;cases n
 obtain⟨f,r,p,G⟩:=I.list (SqL.of B);refine SeqAt.in_listAt (eP H q) p.isList (λw hw=>Fe I z o hx r g w (by grind)) ⟨.bl _,H,I,rfl,?_⟩;rwa[show f.toArray.any (eP H q)=f.any (eP H q) by simp,CL r g]
def Za6(z:X.A.in1.units<cLine):OpR X (compareOp .NotIn) (NX true):=by
 intro pins s σ H x y v u Q I o n h;obtain⟨l,E,q,rfl,hx,⟨C,B,g⟩,k⟩:=h;cases n
 obtain⟨f,r,p,G⟩:=I.list (SqL.of B);refine SeqAt.notIn_listAt (eP H q) p.isList (λw hw=>Fe I z o hx r g w (by grind)) ⟨.bl _,H,I,rfl,?_⟩;rwa[show f.toArray.any (eP H q)=f.any (eP H q) by simp,CL r g]
end
end Own
namespace M
open PySem PySem.Spec PyProof.Rows L2 Own
section
variable {α:Type}{R:Hp->V->α->Prop}{H:Hp}
noncomputable def pick(c:α->Bool)(d:V×α):Option V:=if c d.2=true then some d.1 else none
end
end M
namespace Own
open PySem PySem.Spec PyProof.Rows L2
section
variable {X:Cx}{K:ZQ}
def Ms(y:X.calm=true)(A:autoParam (X.K=K) au_0):X5 X (.builtin "sum") (λxs H Q=>∃(p:Addr) (ns:ZS),xs=[.ref p]/\SqL K H p (ns.map V.int)/\Q (.int ns.sum) H):=by
 subst A;intro pins s E H xs G Q I o h;obtain⟨p,ns,rfl,z,q⟩:=h;obtain⟨u,rfl,v⟩:=o.one;obtain rfl:=v;obtain⟨g,r,w,_⟩:=I.list z;have n:IntsAre g ns:=by simpa using BK r
 obtain⟨f,hx⟩:=n.allInts.items;have l:=w.isList;rw[hx]at l;refine sum_intListG (I.ok.hd y) l λM J L x=>?_
 have C:ns=f.toList.map (·.1):=by
  rw[←nums_intItems,←hx];exact n.numsOf.symm
 have B:preSum (numAt f) f.size=ns.sum:=by
  rw[preSum_eq,List.take_of_length_le (by simp),C]
 rw[B];exact⟨.int ns.sum,H,I.kept x,⟨_,rfl⟩,q⟩
def On(L:X.calm=true)(T:autoParam (X.K=K) au_0):X5 X (.builtin "min") (λxs H Q=>∃(p:Addr) (ns:ZS),xs=[.ref p]/\SqL K H p (ns.map V.int)/\0<ns.length/\∀M,M∈ns->(∀a∈ns,M<=a)->Q (.int M) H):=by
 subst T;intro pins s Y H xs us Q I A h;obtain⟨p,ns,rfl,N,o,q⟩:=h;obtain⟨u,rfl,B⟩:=A.one;obtain rfl:=B;obtain⟨l,r,C,_⟩:=I.list N;have x:IntsAre l ns:=by simpa using BK r
 obtain⟨g,e⟩:=x.allInts.items;have w:=C.isList;rw[e]at w;have f:ns=g.toList.map (·.1):=by rw[←x.numsOf,←nums_intItems,←e]
 have n:0<g.size:=by
  have z:=o;rw[f,Wt,Qt]at z;exact z
 refine min_intList (I.ok.hd L) w n λv h' tk E G=>?_;obtain⟨t,rfl⟩:=intItems_at E;obtain⟨h1,U⟩:=argBest_lt (numAt g) (g.size-1);refine⟨.int _,H,I.kept G,⟨_,rfl⟩,q _ ?_ λa y=>?_⟩
 ·rw[f,numAt_eq];exact getD_mem (by rw[Wt,Qt];lia)
 ·rw[f]at y;obtain⟨j,J,rfl⟩:=WY.mp y;rw[Wt,Qt]at J
  have:=U j (by lia)
  rw[numAt_eq g j]at this
  grind
theorem Ew:∀{bs}{us:ZY},Vals (bs.map V.bl) us->LSm.BoolsAre us bs
 |[],_,.nil=>.nil
 |b::r,_,.cons h t=>by
  cases h
  exact .cons b (Ew t)
def Mq(B:X.calm=true)(E:autoParam (X.K=K) au_0):X5 X (.builtin "any") (λxs H Q=>∃(p:Addr) (bs:List Bool),xs=[.ref p]/\SqL K H p (bs.map V.bl)/\Q (.bl<|bs.any id) H):=by
 subst E;intro pins s G H xs J Q I w h;obtain⟨p,bs,rfl,C,q⟩:=h;obtain⟨u,rfl,x⟩:=w.one;obtain rfl:=x;obtain⟨f,r,y,_⟩:=I.list C;have n:=Ew r;have l:=y.isList;have g:p<s.heap.objs.size:=by obtain⟨_,e,_⟩:=l;exact WE e
 refine call_any_walk (wpAny_pyIter_list l ?_)
 refine⟨s.heap.objs.size,[s.heap.objs.size,p],[s.heap.objs.size],f.toArray.size,_,_,λi=>(bs[i]?).getD false,rfl,Walks.list (A:=X.A.in1) (I.ok.hd B) _ p (WV g) f.toArray,
  ⟨⟨_,WD _ rfl,rfl,rfl⟩,l.push _⟩,λi v M U Y N o=>?_,λT L z=>?_⟩
 ·obtain⟨b,e,rfl⟩:=n.get i v (by grind);simp only[e,Option.getD_some]at o;exact QW o
 ·have e:((List.range f.toArray.size).any λi=>(bs[i]?).getD false)=bs.any id:=by
   rw[WX,n.length];exact LSm.range_any bs
  rw[e];exact⟨.bl (bs.any id),H,I.kept (LSm.kept_iter z),rfl,q⟩
noncomputable def FC(K:ZQ)(neg:Bool):R2:=λx y H Q=>∃(p q:Addr) (xs:List V),x=.ref p/\y=.ref q/\SqL K H p xs/\SqL K H q []/\Q (.bl (if neg then !xs.isEmpty else xs.isEmpty)) H
def IA(l:X.A.units<cLine)(E:autoParam (X.K=K) au_0):OpR X (compareOp .Eq) (FC K false):=by
 subst E;intro pins s J H x y v u Q I w o h;obtain⟨p,q,xs,rfl,rfl,C,hq,k⟩:=h;obtain rfl:=w;obtain rfl:=o;obtain⟨L,B,f,_⟩:=I.list C;obtain⟨n,z,p2,_⟩:=I.list hq;have N:=B.length;have M:0=n.length:=z.length;have g:=k;by_cases e:xs.length=0
 ·refine SeqAt.eq_listAt (e:=λ_=>true) f.isList p2.isList (by simp;lia) l (λj T G=>by simp at G;lia) ⟨.bl xs.isEmpty,H,I,?_,g⟩;show _=Value.bool xs.isEmpty
  grind
 ·refine SeqAt.eq_list_lengthsAt f.isList p2.isList (by simp;lia) l ⟨.bl xs.isEmpty,H,I,?_,g⟩;cases xs with
  |nil=>exact absurd rfl e
  |cons a r=>rfl
def Fl(l:X.A.units<cLine)(E:autoParam (X.K=K) au_0):OpR X (compareOp .NotEq) (FC K true):=by
 subst E;intro pins s J H x y v u Q I w o h;obtain⟨p,q,xs,rfl,rfl,C,hq,k⟩:=h;obtain rfl:=w;obtain rfl:=o;obtain⟨L,B,f,_⟩:=I.list C;obtain⟨n,z,p2,_⟩:=I.list hq;have N:=B.length;have M:0=n.length:=z.length;have g:=k;by_cases e:xs.length=0
 ·refine SeqAt.RcNeAt.lists (e:=λ_=>true) f.isList p2.isList (by simp;lia) l (λj T G=>by simp at G;lia) _ _ _ _ ⟨.bl (!xs.isEmpty),H,I,?_,g⟩;show _=Value.bool (!xs.isEmpty)
  grind
 ·refine SeqAt.RcNeAt.lists_lengths f.isList p2.isList (by simp;lia) l _ _ _ _ ⟨.bl (!xs.isEmpty),H,I,?_,g⟩;cases xs with
  |nil=>exact absurd rfl e
  |cons a r=>rfl
end
end Own
namespace M
open PySem PySem.Spec PyProof.Rows L2 Own
def NR(f:ZR)(r:ZS):Prop:=∀(i:Nat) (x y:Int),r[i]?=some x->r[i+1]?=some y->(x,y)∈f
structure Ring (hs:ZS) (ws:ZR) (r:ZS):Prop where
 two:2<=r.length
 nodup:r.Nodup
 sub:∀x∈r,x∈hs
 chain:NR ws r
 last:∀x y,r[0]?=some x->r[r.length-1]?=some y->(y,x)∈ws
theorem TZ:∀{xs ys:ZS},xs.Nodup->(∀x∈xs,x∈ys)->xs.length<=ys.length
 |[],_,_,_=>QB _
 |x::xs,ys,g,h=>by
  obtain⟨n,l⟩:=Qg.mp g;have o:=TZ l λz f=>(List.mem_erase_of_ne (λe:z=x=>n (e▸f))).mpr (h z<|WK _ f)
  grind
def GD(G:∀q∈s,q.1≠q.2)(w:g≠[])(h:∀x∈g,∃y∈g,(y,x)∈s):∃r,Ring g s r:=by
 have grow:∀n r,r≠[]->r.Nodup->(∀x∈r,x∈g)->NR s r->g.length<r.length+n->∃r,Ring g s r:=by
  intro n
  induction n with
  |zero=>
   intro r B u sub A H
   have:=TZ u sub
   lia
  |succ n E=>
   intro r B u sub A H;cases r with
   |nil=>exact absurd rfl B
   |cons x t=>
    obtain⟨y,v,hw⟩:=h x (sub x (WW ..));by_cases C:y∈x::t
    ·obtain⟨i,M,e⟩:=WY.mp C
     have L:i≠0:=λz=>by
      subst z;exact G _ hw e.symm
     have p:((x::t).take (i+1)).length=i+1:=by
      rw[WS];lia
     refine⟨(x::t).take (i+1),by lia,u.sublist (QX _ _),λz o=>sub z (Vb o),λk a b l f=>?_,λa b l f=>?_⟩
     ·have J:k+1<i+1:=by
       have:=(WH.mp f).1
       lia
      rw[QI (by lia)]at l;rw[QI J]at f;exact A k a b l f
     ·rw[p,VE,QI (by lia),Wv M,e]at f;cases l
      cases f
      exact hw
    ·refine E (y::x::t) (by simp) (Qg.mpr ⟨C,u⟩) (λz o=>?_) (λk a b l f=>?_) (by rw[WM];lia)
     ·rcases W8.mp o with rfl|o
      ·exact v
      ·exact sub z o
     ·cases k with
      |zero=>
       cases l
       cases f
       exact hw
      |succ k=>exact A k a b l f
 obtain⟨x,hx⟩:=V6 g w;exact grow (g.length+1) [x] (by simp) (by simp) (λy v=>by rw[Wx.mp v];exact hx) (λi a b l f=>by simp at f) (by show g.length<1+(g.length+1);lia)
end M
namespace M
def sl:ZS->ZS->Prop
 |x::xs,y::f=>x<y\/(x=y/\sl xs f)
 |_,_=>False
def sl_cons:sl (l::a) (l::b)↔sl a b:=by
 show(l<l\/(l=l/\sl a b))↔sl a b;constructor
 ·simp
 ·simp
theorem SQ:∀{a b} x y,sl a b->sl (a++[x]) (b++[y])
 |[],[],_,_,h|[],_::_,_,_,h|_::_,[],_,_,h=>by unfold sl at h;exact h.elim
 |p::a,q::b,x,y,h=>by
  rw[QP,QP];unfold sl at h ⊢;rcases h with h|⟨g,f⟩
  ·lia
  ·exact .inr ⟨g,SQ x y f⟩
theorem FX:∀{a}{x y:Int},x<y->sl (a++[x]) (a++[y])
 |[],x,y,h=>.inl h
 |p::a,x,y,h=>by
  exact .inr ⟨rfl,FX h⟩
theorem BG:∀{a b c:ZS},sl a b->sl b c->sl a c
 |[],b,c,h,_|_::_,[],_,h,_|_::_,_::_,[],_,h=>by unfold sl at h;exact h.elim
 |x::a,y::b,z::c,g,f=>by
  unfold sl at g f ⊢;rcases g with g|⟨g,n⟩
  ·lia
  ·rcases f with f|⟨f,l⟩
   ·lia
   ·exact .inr ⟨by lia,BG n l⟩
theorem FD:∀{a:ZS},¬sl a a
 |[],h=>by unfold sl at h;exact h
 |x::a,h=>by
  rcases h with h|⟨_,h⟩
  ·lia
  ·exact FD h
noncomputable def UE(g:Int):ZS->Int
 |[]=>g
 |x::t=>UE x t
theorem Kw(g:Int):∀a b,UE g (a++b)=UE (UE g a) b
 |[],b=>rfl
 |x::a,b=>Kw x a b
theorem SJ(g:Int):∀t,(g::t)[t.length]?=some (UE g t)
 |[]=>rfl
 |x::t=>by
  exact SJ x t
def Path(C:Int->Prop)(f:ZR):Int->ZS->Prop
 |_,[]=>True
 |g,x::t=>C x/\(g,x)∈f/\Path C f x t
section
variable {C:Int->Prop}{ws:ZR}
theorem path_app:∀{g}{a b:ZS},Path C ws g (a++b)↔Path C ws g a/\Path C ws (UE g a) b
 |g,[],b=>⟨λh=>⟨trivial,h⟩,λh=>h.2⟩
 |g,x::a,b=>by
  constructor
  ·rintro⟨n,l,f⟩
   have:=path_app.mp f
   exact⟨⟨n,l,this.1⟩,this.2⟩
  ·rintro⟨⟨n,l,f⟩,o⟩;exact⟨n,l,path_app.mpr ⟨f,o⟩⟩
theorem Sr:∀{g}{t:ZS},Path C ws g t->∀x∈t,C x
 |g,[],_,x,h=>by cases h
 |g,y::t,⟨l,_,f⟩,x,h=>by
  rcases W8.mp h with rfl|h
  ·lia
  ·exact Sr f x h
theorem Em:∀{g}{t:ZS},Path C ws g t->NR ws (g::t)
 |g,[],_=>λi x y o f=>by simp at f
 |g,z::t,⟨o,f,n⟩=>λi x y l h=>by
  cases i with
  |zero=>grind
  |succ i=>exact Em n i x y l h
theorem D6:∀{g}{t:ZS},NR ws (g::t)->(∀x∈t,C x)->Path C ws g t
 |g,[],_,_=>trivial
 |g,z::t,h,f=>⟨f z WW,h 0 g z rfl rfl,D6 (λi x y n l=>h (i+1) x y n l) λx hx=>f x (WK _ hx)⟩
end
def Gr(hs:ZS)(l:Int):Int->Prop:=λx=>x∈hs/\l<x
def X1(hs:ZS)(f:ZR)(l:Int)(t:ZS):Prop:=Path (Gr hs l) f l t/\(UE l t,l)∈f
def RF(hs:ZS)(f:ZR)(l:Int)(r:ZS):Prop:=
 (r=[]/\∀t,¬X1 hs f l t)\/∃t,r=l::t/\X1 hs f l t/\∀u,X1 hs f l u->t.length<u.length\/(t.length=u.length/\(t=u\/sl t u))
structure Lev (hs:ZS) (ws:ZR) (l:Int) (k:Nat) (ps:List (ZS)) (ls:ZS):Prop where
 way:∀p∈ps,p.length=k/\Path (Gr hs l) ws l p
 srt:ps.Pairwise sl
 lin:∀h∈ls,Gr hs l h
 lsrt:ls.Pairwise (· < ·)
 cover:∀t,t.length<=k->Path (Gr hs l) ws l t->UE l t∉ls
 first:∀t,t.length=k->Path (Gr hs l) ws l t->(∃p∈ps,UE l p=UE l t/\(p=t\/sl p t))\/∃u,u.length<k/\Path (Gr hs l) ws l u/\UE l u=UE l t
 none:∀t,t.length<k->¬X1 hs ws l t
 comp:∀h,Gr hs l h->h∉ls->∃t,t.length<=k/\Path (Gr hs l) ws l t/\UE l t=h
section
variable {hs:ZS}{ws:ZR}{l:Int}{k:Nat}{ps:List (ZS)}{ls:ZS}
def Lev.start (s:ls.Pairwise (· < ·)) (g:∀h,h∈ls↔Gr hs l h):Lev hs ws l 0 [[]] ls:=by
 have nil:∀t:ZS,t.length=0->t=[]:=λt h=>Q1.mp h;refine⟨λp o=>?_,by simp,λh n=>(g h).mp n,s,λt f _ h=>?_,λt f _=>.inl ⟨[],by simp,by rw[nil t f],.inl (nil t f).symm⟩,λt f=>by lia,λh n r=>absurd ((g h).mpr n) r⟩
 ·rw[Wx.mp o];trivial
 ·rw[nil t (by lia)]at h
  have:=((g _).mp h).2
  exact absurd this (by show ¬l<l;lia)
def Lev.found (L:Lev hs ws l k ps ls) {p i} (r:i<ps.length) (s:ps[i]=p) (H:(UE l p,l)∈ws) (G:∀j n,j<i->(UE l ps[j],l)∉ws):RF hs ws l (l::p):=by
 have C:p∈ps:=by rw[←s];exact WL r
 obtain⟨Q,x⟩:=L.way p C;refine .inr ⟨p,rfl,⟨x,H⟩,λu g=>?_⟩;by_cases M:u.length<k
 ·exact absurd g (L.none u M)
 ·by_cases J:u.length=k
  ·rcases L.first u J g.1 with⟨q,hq,N,h⟩|⟨v,B,A,y⟩
   ·refine .inr ⟨by lia,?_⟩;obtain⟨j,n,w⟩:=WY.mp hq;have o:(UE l ps[j],l)∈ws:=by rw[w,N];exact g.2
    have E:=Nat.le_of_not_lt λz=>G j n z o
    have f:p=q\/sl p q:=by
     by_cases e:i=j
     ·grind
     ·have:=WU.mp L.srt i j r n (by lia)
      rw[s,w]at this;exact .inr this
    rcases f with rfl|f
    ·exact h
    ·rcases h with rfl|h
     ·exact .inr f
     ·exact .inr (BG f h)
   ·exact absurd ⟨A,by rw[y];exact g.2⟩ (L.none v B)
  ·exact .inl (by lia)
def Lev.none_here (L:Lev hs ws l k ps ls) (h:∀p∈ps,(UE l p,l)∉ws):∀t,t.length<k+1->¬X1 hs ws l t:=λt u f=>by
 by_cases r:t.length<k
 ·exact L.none t r f
 ·rcases L.first t (by lia) f.1 with⟨q,hq,s,w⟩|⟨v,o,n,g⟩
  ·exact h q hq (by rw[s];exact f.2)
  ·exact L.none v o ⟨n,by rw[g];exact f.2⟩
def Lev.over (L:Lev hs ws l k [] ls):RF hs ws l []:=by
 refine .inl ⟨rfl,?_⟩
 have early:∀n t,t.length=n->Path (Gr hs l) ws l t->∃u,u.length<k/\Path (Gr hs l) ws l u/\UE l u=UE l t:=by
  intro n
  induction n with
  |zero=>
   intro t f g;by_cases N:0<k
   ·exact⟨t,by lia,g,rfl⟩
   ·rcases L.first t (by lia) g with⟨q,hq,_⟩|⟨v,r,_⟩
    ·cases hq
    ·lia
  |succ n J=>
   intro t f g;have A:t≠[]:=λz=>by rw[z]at f;cases f
   have p:=(QC A).symm;generalize t.getLast A=x at p;generalize t.dropLast=s at p;subst p;obtain⟨H,p2⟩:=path_app.mp g;obtain⟨u,w,o,h⟩:=J s (by simpa using f) H;have y:=path_app.mpr ⟨o,by rw[h];exact p2⟩;have B:UE l (u++[x])=UE l (s++[x]):=by rw[Kw,Kw];rfl
   by_cases M:(u++[x]).length<k
   ·exact⟨_,M,y,B⟩
   ·rcases L.first (u++[x]) (by grind) y with⟨q,hq,_⟩|⟨v,r,G,E⟩
    ·cases hq
    ·exact⟨v,r,G,E.trans B⟩
 intro t C;obtain⟨u,w,o,h⟩:=early t.length t rfl C.1;exact L.none u w ⟨o,by rw[h];exact C.2⟩
structure LG (ws:ZR) (l:Int) (P:ZS->Int->Prop) (lg:List (ZS)):Prop where
 mem:∀q∈lg,∃p h,P p h/\q=p++[h]/\(UE l p,h)∈ws
 srt:lg.Pairwise sl
 has:∀p h,P p h->(UE l p,h)∈ws->∃p',p'++[h]∈lg/\(p'=p\/sl p' p)
def Lev.next (L:Lev hs ws l k ps ls) (hn:∀p∈ps,(UE l p,l)∉ws) (G:LG ws l (λp h=>p∈ps/\h∈ls) H)
  (e:A=ls.filter λh=>decide (¬h∈H.map (UE l))):Lev hs ws l (k+1) H A:=by
 have f:∀h,h∈A↔h∈ls/\¬h∈H.map (UE l):=λh=>by rw[e,WT,VP]
 have g:∀q∈H,q.length=k+1/\Path (Gr hs l) ws l q:=λq hq=>by
  obtain⟨p,h,⟨n,h2⟩,rfl,h3⟩:=G.mem q hq;obtain⟨w1,Q⟩:=L.way p n;exact⟨by simp[w1],path_app.mpr ⟨Q,L.lin h h2,h3,trivial⟩⟩
 have reach:∀s x,s.length=k->Path (Gr hs l) ws l s->Gr hs l x->(UE l s,x)∈ws->x∈ls->∃p∈ps,UE l p=UE l s/\(p=s\/sl p s):=λs x n h2 h3 h4 h5=>by
  rcases L.first s n h2 with z|⟨v,v1,v2,v3⟩
  ·exact z
  ·have:=L.cover (v++[x]) (by simp;lia) (path_app.mpr ⟨v2,h3,by rw[v3];exact h4,trivial⟩)
   rw[Kw]at this;exact absurd h5 this
 refine⟨g,G.srt,λh hh=>L.lin h ((f h).mp hh).1,?_,λt B M hl=>?_,λt B M=>?_,L.none_here hn,λh hg hnl=>?_⟩
 ·rw[e];exact L.lsrt.filter _
 ·obtain⟨E,m2⟩:=(f _).mp hl;by_cases n:t.length<=k
  ·exact L.cover t n M E
  ·have y:t≠[]:=λz=>by rw[z]at n;simp at n
   have r:=(QC y).symm;generalize t.getLast y=x at r;generalize t.dropLast=s at r;subst r;obtain⟨Y,p2,w,_⟩:=path_app.mp M;rw[Kw]at E m2;obtain⟨p,o,C,_⟩:=reach s x (by simp at B n;lia) Y p2 w E;obtain⟨p',k1,_⟩:=G.has p x ⟨o,E⟩ (by rw[C];exact w);exact m2 (WZ.mpr ⟨_,k1,by rw[Kw];rfl⟩)
 ·have y:t≠[]:=λz=>by rw[z]at B;simp at B
  have r:=(QC y).symm;generalize t.getLast y=x at r;generalize t.dropLast=s at r;subst r;obtain⟨Y,p2,w,_⟩:=path_app.mp M;have hs':s.length=k:=by simpa using B
  by_cases hx:x∈ls
  ·obtain⟨p,o,C,N⟩:=reach s x hs' Y p2 w hx;obtain⟨p',k1,J⟩:=G.has p x ⟨o,hx⟩ (by rw[C];exact w);refine .inl ⟨_,k1,by rw[Kw,Kw];rfl,?_⟩
   have:p'=s\/sl p' s:=by
    rcases J with rfl|J
    ·exact N
    ·rcases N with rfl|N
     ·exact .inr J
     ·exact .inr (BG J N)
   rcases this with rfl|h
   ·exact .inl rfl
   ·exact .inr (SQ x x h)
  ·obtain⟨u,u1,U,T⟩:=L.comp x p2 hx;exact .inr ⟨u,by lia,U,by rw[T,Kw];rfl⟩
 ·by_cases hx:h∈ls
  ·have:=WQ λz=>hnl ((f h).mpr ⟨hx,z⟩)
   obtain⟨q,hq,C⟩:=WZ.mp this;obtain⟨w1,Q⟩:=g q hq;exact⟨q,by lia,Q,C⟩
  ·obtain⟨u,u1,U,T⟩:=L.comp h hg hx;exact⟨u,by lia,U,T⟩
end
def FR(hs:ZS)(f:ZR)(r:ZS):Prop:=
 (r=[]/\∀l∈hs,∀t,¬X1 hs f l t)\/∃l t,r=l::t/\l∈hs/\X1 hs f l t/\∀m∈hs,∀u,X1 hs f m u->t.length<u.length\/(t.length=u.length/\(l<m\/(l=m/\(t=u\/sl t u))))
theorem Mj:∀(r:ZS),r≠[]->∃i,∃h:i<r.length,∀x∈r,r[i]<=x
 |[],h=>absurd rfl h
 |[a],_=>⟨0,by simp,λx hx=>by rw[Wx.mp hx];exact Int.le_refl _⟩
 |a::b::r,_=>by
  obtain⟨i,f,h⟩:=Mj (b::r) (by simp);by_cases c:a<=(b::r)[i]
  ·refine⟨0,by simp,λx hx=>?_⟩;rcases W8.mp hx with rfl|hx
   ·exact Int.le_refl _
   ·grind
  ·refine⟨i+1,by simpa using f,λx hx=>?_⟩;have e:(a::b::r)[i+1]'(by grind)=(b::r)[i]:=rfl;rcases W8.mp hx with rfl|hx
   ·lia
   ·exact h x hx
def Gf(r:ZS){i j}(f:i<=r.length):(r.drop i++r.take i)[j]?=if i+j<r.length then r[i+j]? else if j<r.length then r[i+j-r.length]? else none:=by grind
def Zck(R:Ring hs v r):∃l∈hs,∃t,X1 hs v l t/\t.length+1=r.length:=by
 have two:=R.two;obtain⟨i,s,o⟩:=Mj r (λz=>by rw[z]at two;simp at two);have erot:r.drop i++r.take i=r[i]::(r.drop (i+1)++r.take i):=by rw[V5 s];rfl
 have p:(r.drop (i+1)++r.take i).length+1=r.length:=by rw[W7,List.length_drop,WS];lia
 have G:NR v (r[i]::(r.drop (i+1)++r.take i)):=by
  rw[←erot];intro j x y h f;rw[Gf r (by lia)]at h f;by_cases C:i+(j+1)<r.length
  ·rw[W3 C]at f;rw[W3 (by lia)]at h;exact R.chain (i+j) x y h f
  ·rw[W2 C]at f;by_cases B:j+1<r.length
   ·rw[W3 B]at f;by_cases A:i+j<r.length
    ·rw[W3 A]at h;have g:i+j=r.length-1:=by lia
     have u:i+(j+1)-r.length=0:=by lia
     rw[g]at h;rw[u]at f;exact R.last y x f h
    ·rw[W2 A,W3 (by lia)]at h;have e:i+(j+1)-r.length=(i+j-r.length)+1:=by lia
     rw[e]at f;exact R.chain _ x y h f
   ·rw[W2 B]at f;cases f
 refine⟨r[i],R.sub _ (WL s),r.drop (i+1)++r.take i,⟨D6 G λx hx=>?_,?_⟩,p⟩
 ·have n:=(WC.mp hx).elim Jd Vb;refine⟨R.sub x n,Int.lt_iff_le_and_ne.mpr ⟨o x n,λz=>?_⟩⟩
  have w:(r.drop i++r.take i).Nodup:=by
   have:(r.take i++r.drop i).Perm (r.drop i++r.take i):=List.perm_append_comm
   rw[←this.nodup_iff,List.take_append_drop];exact R.nodup
  rw[erot]at w;exact(Qg.mp w).1 (by rw[z];exact hx)
 ·have g:=SJ r[i] (r.drop (i+1)++r.take i);rw[←erot,Gf r (by lia)]at g;have u:(r.drop (i+1)++r.take i).length=r.length-1:=by lia
  rw[u]at g;by_cases c:i=0
  ·subst c;rw[W3 (by lia)]at g;exact R.last _ _ (Wv s) (by simpa using g)
  ·rw[W2 (by lia),W3 (by lia)]at g;have E:i+(r.length-1)-r.length=i-1:=by lia
   rw[E]at g;exact R.chain (i-1) _ _ g (by rw[show i-1+1=i by lia];exact Wv s)
theorem Hn:∀{t:ZS},¬t.Nodup->∃a x b c,t=a++x::(b++x::c)
 |[],h=>absurd Vd h
 |y::t,h=>by
  by_cases f:y∈t
  ·obtain⟨b,c,e⟩:=List.append_of_mem f;exact⟨[],y,b,c,by rw[e];rfl⟩
  ·obtain⟨a,x,b,c,e⟩:=Hn λz=>h (Qg.mpr ⟨f,z⟩)
   grind
def A1{h l t}(v:∀q∈h,q.1≠q.2)(w:l∈hs)(f:X1 hs h l t)(p:∀u,X1 hs h l u->t.length<=u.length):Ring hs h (l::t):=by
 have o:t≠[]:=λz=>by
  have g:=f.2;rw[z]at g;exact v _ g rfl
 have r:=Sr f.1;refine⟨by have:=Vj.mpr o;simp;lia,Qg.mpr ⟨λz=>absurd (r l z).2 (by lia),?_⟩,λx hx=>?_,Em f.1,λx y n g=>?_⟩
 ·refine WQ λz=>?_;obtain⟨a,x,b,c,e⟩:=Hn z;have n:=f.1;rw[e]at n;obtain⟨s,p2⟩:=path_app.mp n
  have B:X1 hs h l (a++x::c):=by
   refine⟨path_app.mpr ⟨s,p2.1,p2.2.1,((path_app (a:=x::b)).mp p2).2.2.2⟩,?_⟩
   have A:UE l (a++x::c)=UE l t:=by
    rw[e,Kw,Kw];show UE x c=UE x (b++x::c);rw[Kw];rfl
   rw[A];exact f.2
  grind
 ·rcases W8.mp hx with rfl|hx
  ·exact w
  ·exact(r x hx).1
 ·cases n
  simp only[WM,VE]at g;rw[(SJ l t)]at g;cases g
  exact f.2
def FR.none_iff {f r} (p:∀q∈f,q.1≠q.2) (F:FR hs f r):r=[]↔¬ ∃r,Ring hs f r:=by
 constructor
 ·rintro rfl ⟨r,R⟩;obtain⟨l,g,t,n,_⟩:=Zck R;rcases F with⟨_,F⟩|⟨_,_,e,_⟩
  ·grind
  ·grind
 ·intro h;rcases F with⟨e,_⟩|⟨l,t,rfl,g,n,s⟩
  ·exact e
  ·refine absurd ⟨_,A1 p g n λu o=>?_⟩ h
   grind
def KW(f:ZR):Prop:=f.length<=20/\f.Nodup/\∀q∈f,(1<=q.1/\q.1<=10/\1<=q.2/\q.2<=10)/\q.1≠q.2
end M
namespace Pu
open PySem PySem.Spec PyProof.Rows L2 Own
inductive D where
 |int (i:Int)|bl (b:Bool)|non|str (x:Str)|ty (n:String)|tup (ds:List D)|lst (ds:List D)|scr (ns:ZS)|dK (kvs:List (Key×V))|dT (kvs:List (List Key×V))|loc (a:Addr) (d:D)|err (C:Addr)|ref (a:Addr)|ins (C:Addr) (xs:ZZ) (ds:List D)|dF (kvs:List (List Key×V))|erM (C:Addr) (r:ZS)|fL (ns:ZS)
mutual
inductive Rp (K:ZQ) (H:Hp):D->V->Prop
 |int (i:Int):Rp K H (.int i) (.int i)
 |bl (b:Bool):Rp K H (.bl b) (.bl b)
 |non:Rp K H .non .non
 |str (x:Str):Rp K H (.str x) (.str x)
 |ty (n:String):Rp K H (.ty n) (.ty n)
 |tup {ds:List D} {vs:List V} {a:Addr}:H a=some (.tup vs)->Rps K H ds vs->Rp K H (.tup ds) (.ref a)
 |lst {ds:List D} {vs:List V} {a:Addr}:H a=some (.lst vs)->Rps K H ds vs->Rp K H (.lst ds) (.ref a)
 |scr {ns:ZS} {a:Addr}:SqL K H a (ns.map V.int)->Rp K H (.scr ns) (.ref a)
 |dK {kvs:List (Key×V)} {a:Addr}:H a=some (.dK kvs)->Rp K H (.dK kvs) (.ref a)
 |dT {kvs:List (List Key×V)} {a:Addr}:H a=some (.dT kvs)->Rp K H (.dT kvs) (.ref a)
 |dF {kvs:List (List Key×V)} {o:Obj} {a:Addr}:H a=some (.frz o<|.dT kvs)->Rp K H (.dF kvs) (.ref a)
 |loc {d:D} {a:Addr}:Rp K H d (.ref a)->Rp K H (.loc a d) (.ref a)
 |err {C a:Addr}:H a=some (ExcR.Zfv a C)->Rp K H (.err C) (.ref a)
 |ref (a:Addr):Rp K H (.ref a) (.ref a)
 |erM {C a dx l:Addr} {o:Obj} {r:ZS}:H a=some (ExcR.Ad a C<|some dx)->H dx=some (.xd [("members",.ref l)])->H l=some (.frz o<|.lst<|r.map V.int)->Rp K H (.erM C r) (.ref a)
 |fL {a:Addr} {o:Obj} {ns:ZS}:H a=some (.frz o<|.lst<|ns.map V.int)->Rp K H (.fL ns) (.ref a)
 |ins {C a dx:Addr} {xs:ZZ} {ds:List D} {vs:List V}:H a=some (.ins C dx<|xs.zip vs)->xs.length=vs.length->Rps K H ds vs->Rp K H (.ins C xs ds) (.ref a)
inductive Rps (K:ZQ) (H:Hp):List D->List V->Prop
 |nil:Rps K H [] []
 |cons {d:D} {v:V} {ds:List D} {vs:List V}:Rp K H d v->Rps K H ds vs->Rps K H (d::ds) (v::vs)
end
section
variable {K:ZQ}{H H':Hp}
def Rp.mono (S:Same H H') {d:D}{v:V}:Rp K H d v->Rp K H' d v:=
 Rp.rec (motive_1:=λd v _=>Rp K H' d v) (motive_2:=λg f _=>Rps K H' g f) .int .bl .non .str .ty (λh _ r=>.tup (S _ _ h) r) (λh _ r=>.lst (S _ _ h) r) (λh=>.scr (S.seq h)) (λh=>.dK (S _ _ h)) (λh=>.dT (S _ _ h)) (λh=>.dF (S _ _ h)) (λ_ h=>.loc h) (λh=>.err (S _ _ h)) .ref (λa b c=>.erM (S _ _ a) (S _ _ b) (S _ _ c)) (λh=>.fL (S _ _ h)) (λh e _ r=>.ins (S _ _ h) e r) .nil λ_ _=>.cons
def Rps.mono (S:Same H H') {ds:List D}:∀{vs:List V},Rps K H ds vs->Rps K H' ds vs:=by
 induction ds with
 |nil=>intro _ h;cases h;exact .nil
 |cons _ _ f=>intro _ h;cases h with|cons a b=>exact .cons (Rp.mono S a) (f b)
def Rps.len:∀{ds}{vs:List V},Rps K H ds vs->vs.length=ds.length:=by
 intro ds
 induction ds with
 |nil=>
  intro _ h;cases h
  rfl
 |cons _ _ f=>
  intro _ h;cases h with
  |cons h r=>
   exact Qk (· + 1) (f r)
def Rps.get:∀{ds vs}{i:Nat}{d:D},Rps K H ds vs->ds[i]?=some d->∃v,vs[i]?=some v/\Rp K H d v:=by
 intro ds
 induction ds with
 |nil=>
  intro _ i _ h e;simp at e
 |cons _ _ f=>
  intro _ i d h e;cases h with
  |cons h r=>
   cases i with
   |zero=>
    simp at e;subst e;exact⟨_,rfl,h⟩
   |succ i=>
    obtain⟨v,l,g⟩:=f r (by simpa using e);exact⟨v,by simpa using l,g⟩
def Rps.append:∀{ds es}{vs us:List V},Rps K H ds vs->Rps K H es us->Rps K H (ds++es) (vs++us):=by
 intro ds
 induction ds with
 |nil=>
  intro _ _ _ h s;cases h
  exact s
 |cons _ _ f=>
  intro _ _ _ h s;cases h with
  |cons h r=>
   exact .cons h (f r s)
theorem Rps.drop:∀{ds vs} n,Rps K H ds vs->Rps K H (ds.drop n) (vs.drop n)
 |_,_,0,r=>r
 |_,_,_+1,.nil=>.nil
 |_,_,n+1,.cons _ r=>Rps.drop n r
theorem Rps.take:∀{ds vs} n,Rps K H ds vs->Rps K H (ds.take n) (vs.take n)
 |_,_,0,_|_,_,_+1,.nil=>.nil
 |_,_,n+1,.cons h r=>.cons h (Rps.take n r)
end
mutual
noncomputable def imm:D->Bool
 | .tup f=>X9 f
 | .lst _=>false
 | .scr _=>false
 | .dK _=>false
 | .dT _=>false
 | .loc _ _=>false
 | .err _=>false
 | .erM _ _=>false
 | .ins _ _ _=>false
 |_=>true
noncomputable def X9:List D->Bool
 |[]=>true
 |d::r=>imm d&&X9 r
end
open Classical in
noncomputable def off(Z:Addr->Prop)(H:Hp):Hp:=λb=>if Z b then none else H b
section
variable {K:ZQ}{H H':Hp}{Z Z':Addr->Prop}
def Ku(h:off Z H b=some o):H b=some o/\¬Z b:=by
 unfold off at h;by_cases z:Z b
 ·grind
 ·grind
def Xe(h:H b=some o)(z:¬Z b):off Z H b=some o:=by
 unfold off
 grind
def UF(S:Same H H')(g:∀b o,H b=some o->¬Z b->¬Z' b):Same (off Z H) (off Z' H'):=λb o h=>by
 obtain⟨f,l⟩:=Ku h;exact Xe (S b o f) (g b o f l)
def off_sub:Same (off Z H) H:=λ_ _ h=>(Ku h).1
def Rp.off (s:∀b,Z b->Mut (H b)) {d:D}{v:V}:Rp K H d v->imm d=true->Rp K (off Z H) d v:=by
 have g:∀{a o},H a=some o->¬Mut (some o)->Pu.off Z H a=some o:=λh n=>Xe h λz=>n (h▸s _ z);have f:∀{d} {P:Prop},imm d=false->imm d=true->P:=λh e=>by rw[h]at e;cases e
 exact Rp.rec (motive_1:=λd v _=>imm d=true->Rp K (Pu.off Z H) d v) (motive_2:=λl p _=>X9 l=true->Rps K (Pu.off Z H) l p) (λi _=>.int i) (λb _=>.bl b) (λ_=>.non) (λx _=>.str x) (λn _=>.ty n) (λh _ r e=>.tup (g h id) (r<|by unfold imm at e;exact e)) (λ_ _ _=>f (by unfold imm;rfl)) (λ_=>f (by unfold imm;rfl)) (λ_=>f (by unfold imm;rfl)) (λ_=>f (by unfold imm;rfl)) (λh _=>.dF (g h id)) (λ_ _=>f (by unfold imm;rfl)) (λ_=>f (by unfold imm;rfl)) (λa _=>.ref a) (λ_ _ _=>f (by unfold imm;rfl)) (λh _=>.fL (g h id)) (λ_ _ _ _=>f (by unfold imm;rfl)) (λ_=>.nil) (λ_ _ a b e=>by
  unfold X9 at e;rw[Ql]at e;exact .cons (a e.1) (b e.2))
def Rps.off (g:∀b,Z b->Mut (H b)) {ds:List D}:∀{vs:List V},Rps K H ds vs->X9 ds=true->Rps K (off Z H) ds vs:=by
 induction ds with
 |nil=>intro _ h _;cases h;exact .nil
 |cons _ _ f=>
  intro _ h e;unfold X9 at e;rw[Ql]at e;cases h with|cons a b=>exact .cons (Rp.off g a e.1) (f b e.2)
end
inductive O where
 |lst (ds:List D)|dK (kvs:List (Key×V))|dT (kvs:List (List Key×V))|ins (a C:Addr) (xs:ZZ) (cs:List (Addr×List D))|lsA (a:Addr) (ds:List D)|nst (cs:List (Addr×List D))|nsl (a:Addr) (cs:List (Addr×List D))|vls (a C:Addr) (xs:ZZ) (vs:List (Addr×List (Addr×List D)))
instance:Coe (List D) O:=⟨O.lst⟩
noncomputable def O.d:O->D
 | .lst h=>.lst h | .dK f=>.dK f | .dT f=>.dT f | .ins _ C xs g=>.ins C xs (g.map λc=>.lst c.2) | .lsA _ h=>.lst h | .nst g=>.tup (g.map λc=>.lst c.2) | .nsl _ g=>.lst (g.map λc=>.lst c.2) | .vls _ C xs l=>.lst (l.map λv=>.ins C xs (v.2.map λc=>.lst c.2))
def O.adr (a:Addr):O->Addr->Prop
 | .lst _=>λb=>b=a
 | .dK _=>λb=>b=a
 | .dT _=>λb=>b=a
 | .ins x _ _ f=>λb=>b=x\/∃c∈f,b=c.1
 | .lsA x _=>λb=>b=x
 | .nst f=>λb=>∃c∈f,b=c.1
 | .nsl x f=>λb=>b=x\/∃c∈f,b=c.1
 | .vls x _ _ g=>λb=>b=x\/∃v∈g,b=v.1\/∃c∈v.2,b=c.1
def OR(K:ZQ)(F H:Hp)(a:Addr):O->Prop
 | .lst p=>∃f,H a=some (.lst f)/\Rps K F p f
 | .dK h=>H a=some (.dK h)
 | .dT h=>H a=some (.dT h)
 | .lsA x p=>a=x/\∃f,H a=some (.lst f)/\Rps K F p f
 | .ins x C xs g=>a=x/\xs.length=g.length/\(∃o,H a=some (.ins C o<|xs.zip (g.map λc=>V.ref c.1)))/\(∀c∈g,∃f,H c.1=some (.lst f)/\Rps K F c.2 f)/\(g.map (·.1)).Nodup
 | .nsl x g=>a=x/\H a=some (.lst (g.map λc=>V.ref c.1))/\(∀c∈g,∃f,H c.1=some (.lst f)/\Rps K F c.2 f)/\(x::g.map (·.1)).Nodup
 | .vls x C xs l=>a=x/\H a=some (.lst (l.map λw=>V.ref w.1))/\(∀w∈l,xs.length=w.2.length/\(∃o,H w.1=some (.ins C o<|xs.zip (w.2.map λc=>V.ref c.1)))/\∀c∈w.2,∃f,H c.1=some (.lst f)/\Rps K F c.2 f)/\(∀w∈l,(w.2.map (·.1)).Nodup/\¬(x=w.1\/∃c∈w.2,x=c.1))/\∀(i j:Nat) (w n:Addr×List (Addr×List D)) (b:Addr),l[i]?=some w->l[j]?=some n->(b=w.1\/∃c∈w.2,b=c.1)->(b=n.1\/∃c∈n.2,b=c.1)->i=j
 | .nst g=>F a=some (.tup (g.map λc=>V.ref c.1))/\(∀c∈g,∃f,H c.1=some (.lst f)/\Rps K F c.2 f)/\(g.map (·.1)).Nodup
def OR.mono {K F B H H'}{a o} (y:Same F B) (r:∀b,o.adr a b->∀x,H b=some x->H' b=some x) (h:OR K F H a o):OR K B H' a o:=by
 cases o with
 |lst J=>obtain⟨f,p,n⟩:=h;exact⟨f,r _ rfl _ p,Rps.mono y n⟩
 |lsA x J=>obtain⟨rfl,f,p,n⟩:=h;exact⟨rfl,f,r _ rfl _ p,Rps.mono y n⟩
 |nsl x A=>
  obtain⟨e,p,n,v⟩:=h;exact⟨e,r _ (.inl e) _ p,λc g=>let ⟨f,u,s⟩:=n c g;⟨f,r _ (.inr ⟨c,g,rfl⟩) _ u,Rps.mono y s⟩,v⟩
 |vls x C xs L=>
  obtain⟨e,p,n,v⟩:=h;refine⟨e,r _ (.inl e) _ p,λw hw=>?_,v⟩;obtain⟨l,⟨z,G⟩,E⟩:=n w hw;exact⟨l,⟨z,r _ (.inr ⟨w,hw,.inl rfl⟩) _ G⟩,λc g=>let ⟨f,u,s⟩:=E c g;⟨f,r _ (.inr ⟨w,hw,.inr ⟨c,g,rfl⟩⟩) _ u,Rps.mono y s⟩⟩
 |nst A=>
  obtain⟨p,n,v⟩:=h;exact⟨y _ _ p,λc g=>let ⟨f,u,s⟩:=n c g;⟨f,r _ ⟨c,g,rfl⟩ _ u,Rps.mono y s⟩,v⟩
 |ins x C xs A=>
  obtain⟨e,l,⟨z,p⟩,n,v⟩:=h;exact⟨e,l,⟨z,r _ (.inl e) _ p⟩,λc g=>let ⟨f,u,s⟩:=n c g;⟨f,r _ (.inr ⟨c,g,rfl⟩) _ u,Rps.mono y s⟩,v⟩
 |_=>exact r _ rfl _ h
theorem Pi{K F}:∀{f:List (Addr×List D)},(∀c∈f,∃vs,F c.1=some (.lst vs)/\Rps K F c.2 vs)->Rps K F (f.map λc=>.lst c.2) (f.map λc=>V.ref c.1)
 |[],_=>.nil
 |c::f,h=>let ⟨_,l,g⟩:=h c WW;.cons (.lst l g) (Pi λo n=>h o (WK _ n))
theorem Bh{K:ZQ}{F:Hp}{C:Addr}{xs:ZZ}:∀{f:List (Addr×List (Addr×List D))},(∀w∈f,xs.length=w.2.length/\(∃p,F w.1=some (.ins C p<|xs.zip (w.2.map λc=>V.ref c.1)))/\∀c∈w.2,∃vs,F c.1=some (.lst vs)/\Rps K F c.2 vs)->Rps K F (f.map λw=>.ins C xs (w.2.map λc=>.lst c.2)) (f.map λw=>V.ref w.1)
 |[],_=>.nil
 |w::f,h=>let ⟨l,⟨_,o⟩,n⟩:=h w WW;.cons (.ins o (by rw[Wt];exact l)<|Pi n) (Bh λg hw=>h g (WK _ hw))
def OR.rpIn {K F A H a o} (v:Same F A) (f:∀b,o.adr a b->∀x,H b=some x->A b=some x) (h:OR K F H a o):Rp K A o.d (.ref a):=by
 cases o with
 |lst L=>obtain⟨r,p,n⟩:=h;exact .lst (f _ rfl _ p) (Rps.mono v n)
 |dK y=>exact .dK (f _ rfl _ h)
 |dT y=>exact .dT (f _ rfl _ h)
 |lsA x L=>obtain⟨rfl,r,p,n⟩:=h;exact .lst (f _ rfl _ p) (Rps.mono v n)
 |nsl x E=>
  obtain⟨e,p,n,z⟩:=h;exact .lst (f _ (.inl e) _ p) (Pi λc g=>let ⟨r,u,s⟩:=n c g;⟨r,f _ (.inr ⟨c,g,rfl⟩) _ u,Rps.mono v s⟩)
 |vls x C xs M=>
  obtain⟨e,p,n,z⟩:=h;refine .lst (f _ (.inl e) _ p) (Bh λw hw=>?_);obtain⟨l,⟨B,J⟩,G⟩:=n w hw;exact⟨l,⟨B,f _ (.inr ⟨w,hw,.inl rfl⟩) _ J⟩,λc g=>let ⟨r,u,s⟩:=G c g;⟨r,f _ (.inr ⟨w,hw,.inr ⟨c,g,rfl⟩⟩) _ u,Rps.mono v s⟩⟩
 |nst E=>
  obtain⟨p,n,z⟩:=h;exact .tup (v _ _ p) (Pi λc g=>let ⟨r,u,s⟩:=n c g;⟨r,f _ ⟨c,g,rfl⟩ _ u,Rps.mono v s⟩)
 |ins x C xs E=>
  obtain⟨e,l,⟨B,p⟩,n,z⟩:=h;exact .ins (f _ (.inl e) _ p) (by grind) (Pi λc g=>let ⟨r,u,s⟩:=n c g;⟨r,f _ (.inr ⟨c,g,rfl⟩) _ u,Rps.mono v s⟩)
def OR.rp {K F H a o} (f:Same F H) (h:OR K F H a o):Rp K H o.d (.ref a):=h.rpIn f λ_ _ _ e=>e
def OR.mut {K F H a o} (h:OR K F H a o):∀b,o.adr a b->Mut (H b):=by
 cases o with
 |lst E=>obtain⟨u,n,g⟩:=h;intro b e;rw[show b=a from e,n];trivial
 |dK r=>intro b e;rw[show b=a from e,show H a=some (.dK r)from h];trivial
 |dT r=>intro b e;rw[show b=a from e,show H a=some (.dT r)from h];trivial
 |lsA x E=>obtain⟨rfl,u,n,g⟩:=h;intro b e;rw[show b=a from e,n];trivial
 |nsl x y=>
  obtain⟨e,n,g,v⟩:=h;intro b f;rcases f with f|⟨c,s,f⟩
  ·rw[show b=a from f.trans e.symm,n];trivial
  ·obtain⟨u,p,_⟩:=g c s;rw[f,p];trivial
 |vls x C xs G=>
  obtain⟨e,n,g,v⟩:=h;intro b f;rcases f with f|⟨w,hw,f|⟨c,s,f⟩⟩
  ·rw[show b=a from f.trans e.symm,n];trivial
  ·obtain⟨_,⟨B,A⟩,_⟩:=g w hw;rw[f,A];trivial
  ·obtain⟨_,_,z⟩:=g w hw;obtain⟨u,p,_⟩:=z c s;rw[f,p];trivial
 |nst y=>
  obtain⟨n,g,v⟩:=h;rintro b ⟨c,s,f⟩;obtain⟨u,p,_⟩:=g c s;rw[f,p];trivial
 |ins x C xs y=>
  obtain⟨e,l,⟨B,n⟩,g,v⟩:=h;intro b f;rcases f with f|⟨c,s,f⟩
  ·rw[show b=a from f.trans e.symm,n];trivial
  ·obtain⟨u,p,_⟩:=g c s;rw[f,p];trivial
inductive S where
 |bor (d:D)|sh (d:D)|own (o:O)|view (o:O)|tmp (d:D)
abbrev Γ:=List (Option S)
noncomputable def D.strip:D->D
 | .loc _ d=>d|d=>d
def Rp.strip {K H d v} (h:Rp K H d v):Rp K H d.strip v:=by
 cases h with
 |loc h=>exact h
 |int i=>exact .int i
 |bl b=>exact .bl b
 |non=>exact .non
 |str x=>exact .str x
 |ty n=>exact .ty n
 |tup h r=>exact .tup h r
 |lst h r=>exact .lst h r
 |scr h=>exact .scr h
 |dK h=>exact .dK h
 |dT h=>exact .dT h
 |dF h=>exact .dF h
 |err h=>exact .err h
 |ref a=>exact .ref a
 |erM l g f=>exact .erM l g f
 |fL h=>exact .fL h
 |ins h e r=>exact .ins h e r
noncomputable def S.d:S->D
 | .bor d=>d.strip | .sh d=>d | .own o=>o.d | .view o=>o.d | .tmp d=>d
noncomputable def arg(d:D):S:=match imm d with|true=>.sh d|false=>.bor d
noncomputable def Kc(d:D):S:=match imm d with|true=>.sh d|false=>.tmp d
noncomputable def S.sub:S->D->S
 | .bor _,e=>arg e | .tmp _,e=>Kc e | .own (.nst _),e=>Kc e | .view (.nst _),e=>Kc e | .own (.nsl _ _),e=>Kc e | .view (.nsl _ _),e=>Kc e | .own (.vls _ _ _ _),e=>Kc e | .view (.vls _ _ _ _),e=>Kc e|_,e=>.sh e
noncomputable def S.shd:S->Option D
 | .sh d=>some d | .own o=>some o.d
 | .bor d=>match imm d with|true=>some d|false=>none
 | .tmp d=>match imm d with|true=>some d|false=>none
 | .view _=>none
noncomputable def S.slot:S->Option S
 | .view _=>none | .bor d=>some (.bor d) | .sh d=>some (.sh d) | .own f=>some (.own f)
 | .tmp d=>match imm d with|true=>some (.sh d)|false=>none
def E5(h:Γ)(g:L2.St)(b:Addr):Prop:=∃(i:Nat) (f:O) (a:Addr),h[i]?=some (some<|.own f)/\g[i]?=some (some<|.ref a)/\f.adr a b
def zof(B:Addr->Prop)(g:Γ)(f:L2.St):Addr->Prop:=λb=>B b\/E5 g f b
def SV(K:ZQ)(Z:Addr->Prop)(f H:Hp):S->V->Prop
 | .bor d,v=>Rp K f d v
 | .sh d,v=>Rp K (off Z H) d v
 | .own o,v=>∃a,v=.ref a/\(∀b,o.adr a b->f b=none)/\OR K (off Z H) H a o
 |_,_=>False
def TV(K:ZQ)(Z:Addr->Prop)(f H H':Hp):S->V->Prop
 | .bor d,v=>Rp K f d v
 | .sh d,v=>Rp K (off Z H') d v
 | .own o,v=>∃a,v=.ref a/\(∀b,o.adr a b->H b=none)/\OR K (off (λb=>Z b\/o.adr a b) H') H' a o
 | .view o,v=>∃a,v=.ref a/\OR K (off Z H') H' a o
 | .tmp d,v=>Rp K H' d v
structure U9 (K:ZQ) (H0:Hp) (B:Addr->Prop) (H:Hp) (σ:L2.St) (γ:Γ):Prop where
 same:Same H0 H
 len:σ.length=γ.length
 bm:∀b,B b->Mut (H b)
 own:∀(i j:Nat) (a a':Addr) (ds es:O) (b:Addr),γ[i]?=some (some<|.own ds)->γ[j]?=some (some<|.own es)->σ[i]?=some (some<|.ref a)->σ[j]?=some (some<|.ref a')->ds.adr a b->es.adr a' b->i=j
 slot:∀(i:Nat) (s:S),γ[i]?=some (some s)->∃v,σ[i]?=some (some v)/\SV K (zof B γ σ) H0 H s v
section
variable {K:ZQ}{H0 H H1 H':Hp}{B Z Z':Addr->Prop}{σ:L2.St}{γ:Γ}
def KQ(S:Same H H'){b}(h:Mut (H b)):Mut (H' b):=by
 cases e:H b with
 |none=>rw[e]at h;exact h.elim
 |some o=>rw[S b o e,←e];exact h
def Kr(h:Mut (H b)):∃o,H b=some o:=by
 cases e:H b with
 |none=>rw[e]at h;exact h.elim
 |some o=>grind
def U9.grow (E:U9 K H0 B H σ γ) (S:Same H H'):U9 K H0 B H' σ γ where
 same:=E.same.trans S
 len:=E.len
 bm b h:=KQ S (E.bm b h)
 own:=E.own
 slot i s h:=by
  obtain⟨v,h1,h2⟩:=E.slot i s h;refine⟨v,h1,?_⟩;cases s with
  |bor d=>trivial
  |sh d=>exact Rp.mono (UF S λ_ _ _ z=>z) h2
  |own ds=>
   obtain⟨a,e1,e3,e4⟩:=h2;exact⟨a,e1,e3,e4.mono (UF S λ_ _ _ z=>z) λb _ x=>S b x⟩
  |_=>exact h2
def U9.zm (E:U9 K H0 B H σ γ):∀b,zof B γ σ b->Mut (H b):=λb h=>by
 rcases h with h|⟨i,s,x,n,l,g⟩
 ·exact E.bm b h
 ·obtain⟨v,f,a,p,r,o⟩:=E.slot i _ n;rw[l]at f;cases f
  cases p
  exact o.mut b g
def TV.rp (f:Same H0 H') (h:TV K Z H0 H H' s v):Rp K H' s.d v:=by
 cases s with
 |bor d=>exact(Rp.mono f h).strip
 |sh d=>exact Rp.mono off_sub h
 |own g=>
  obtain⟨a,rfl,_,r⟩:=h;exact r.rp off_sub
 |view g=>
  obtain⟨a,rfl,r⟩:=h;exact r.rp off_sub
 |tmp d=>exact h
def TV.grow (f:Same H' H1) (h:TV K Z H0 H H' s v):TV K Z H0 H H1 s v:=by
 cases s with
 |bor d=>exact h
 |sh d=>exact Rp.mono (UF f λ_ _ _ z=>z) h
 |own l=>
  obtain⟨a,rfl,g,r⟩:=h;exact⟨a,rfl,g,r.mono (UF f λ_ _ _ z=>z) λb _ x=>f b x⟩
 |view l=>
  obtain⟨a,rfl,r⟩:=h;exact⟨a,rfl,r.mono (UF f λ_ _ _ z=>z) λb _ x=>f b x⟩
 |tmp d=>exact Rp.mono f h
def TV.weak (o:Same H H1) (f:∀b,Z b->Z' b) (h:TV K Z' H0 H1 H' s v):TV K Z H0 H H' s v:=by
 cases s with
 |sh d=>exact Rp.mono (UF (Same.refl _) λb _ _ z y=>z (f b y)) h
 |own n=>
  obtain⟨a,rfl,l,r⟩:=h;exact⟨a,rfl,λb g=>o.free (l b g),r.mono (UF (Same.refl _) λb _ _ z y=>z (y.imp (f b) id)) λ_ _ _ q=>q⟩
 |view n=>
  obtain⟨a,rfl,r⟩:=h;exact⟨a,rfl,r.mono (UF (Same.refl _) λb _ _ z y=>z (f b y)) λ_ _ _ q=>q⟩
 |_=>exact h
def TV.shd (o:Same H0 H') (l:∀b,Z b->Mut (H b)) (w:Same H H') (h:TV K Z H0 H H' s v) (e:s.shd=some d):Rp K (off Z H') d v:=by
 have f:=λb z=>KQ w (l b z);cases s with
 |bor g=>
  unfold S.shd at e;cases q:imm g with
  |false=>simp_all
  |true=>
   simp[q]at e;subst e;exact Rp.off f (Rp.mono o h) q
 |sh g=>cases e;exact h
 |own u=>
  cases e
  obtain⟨a,rfl,p,r⟩:=h;exact r.rpIn (UF (Same.refl _) λb _ _ z y=>z (.inl y)) λb n x e=>Xe e λz=>by have:=l _ z;rw[p b n]at this;exact this
 |view u=>cases e
 |tmp g=>
  unfold S.shd at e;cases q:imm g with
  |false=>simp[q]at e
  |true=>
   simp[q]at e;subst e;exact Rp.off f h q
def Tv(f:∀b,Z b->Mut (H' b))(g:Same H0 H')(h:Rp K H0 d v):TV K Z H0 H H' (arg d) v:=by
 unfold arg;cases q:imm d with
 |true=>exact Rp.off f (Rp.mono g h) q
 |false=>exact h
def K5(f:∀b,Z b->Mut (H' b))(h:Rp K H' d v):TV K Z H0 H H' (Kc d) v:=by
 unfold Kc;cases q:imm d with
 |true=>exact Rp.off f h q
 |false=>exact h
def Rp.lst_inv (h:Rp K H (.lst ds) v):∃a vs,v=.ref a/\H a=some (.lst vs)/\Rps K H ds vs:=by
 cases h with
 |lst h r=>grind
def Rp.tup_inv (h:Rp K H (.tup ds) v):∃a vs,v=.ref a/\H a=some (.tup vs)/\Rps K H ds vs:=by
 cases h with
 |tup h r=>grind
def TV.part (N:Same H0 H') (hm:∀b,Z b->Mut (H b)) (S1:Same H H') (h:TV K Z H0 H H' s v) :
  (∀ds,s.d=.lst ds->∃a vs,v=.ref a/\H' a=some (.lst vs)/\vs.length=ds.length/\∀(i:Nat) d,ds[i]?=some d->∃u,vs[i]?=some u/\TV K Z H0 H H' (s.sub d) u)/\
  (∀ds,s.d=.tup ds->∃a vs,v=.ref a/\H' a=some (.tup vs)/\vs.length=ds.length/\∀(i:Nat) d,ds[i]?=some d->∃u,vs[i]?=some u/\TV K Z H0 H H' (s.sub d) u):=by
 have n:=λb z=>KQ S1 (hm b z);cases s with
 |bor d=>
  have h:=Rp.strip h;refine⟨λds e=>?_,λds e=>?_⟩<;>rw[show d.strip=_ from e]at h
  ·obtain⟨a,vs,rfl,h,r⟩:=Rp.lst_inv h;exact⟨_,_,rfl,N _ _ h,r.len,λi d e=>let ⟨u,g,f⟩:=r.get e;⟨u,g,Tv n N f⟩⟩
  ·obtain⟨a,vs,rfl,h,r⟩:=Rp.tup_inv h;exact⟨_,_,rfl,N _ _ h,r.len,λi d e=>let ⟨u,g,f⟩:=r.get e;⟨u,g,Tv n N f⟩⟩
 |sh d=>
  refine⟨λds e=>?_,λds e=>?_⟩<;>(have Y:=e;subst Y)
  ·obtain⟨a,vs,rfl,h,r⟩:=Rp.lst_inv h;exact⟨_,_,rfl,off_sub _ _ h,r.len,λi d e=>r.get e⟩
  ·obtain⟨a,vs,rfl,h,r⟩:=Rp.tup_inv h;exact⟨_,_,rfl,off_sub _ _ h,r.len,λi d e=>r.get e⟩
 |own J=>
  cases J with
  |lst J=>
   refine⟨λds e=>?_,λds e=>by cases e⟩;cases e
   obtain⟨a,rfl,Q,vs,e,r⟩:=h;exact⟨a,vs,rfl,e,r.len,λi d e=>let ⟨u,g,f⟩:=r.get e;⟨u,g,Rp.mono (UF (Same.refl _) λb _ _ z y=>z (.inl y)) f⟩⟩
  |lsA x J=>
   refine⟨λds e=>?_,λds e=>by cases e⟩;cases e
   obtain⟨a,rfl,Q,_,vs,e,r⟩:=h;exact⟨a,vs,rfl,e,r.len,λi d e=>let ⟨u,g,f⟩:=r.get e;⟨u,g,Rp.mono (UF (Same.refl _) λb _ _ z y=>z (.inl y)) f⟩⟩
  |nsl x cs=>
   refine⟨λds e=>?_,λds e=>by cases e⟩;cases e
   obtain⟨a,rfl,Q,_,G,E,M⟩:=h;have r:=Pi λc A=>let ⟨vs,p,o⟩:=E c A;⟨vs,p,Rps.mono off_sub o⟩;exact⟨a,_,rfl,G,r.len,λi d e=>let ⟨u,g,f⟩:=r.get e;⟨u,g,K5 n f⟩⟩
  |vls x C xs L=>
   refine⟨λds e=>?_,λds e=>by cases e⟩;cases e
   obtain⟨a,rfl,Q,_,G,E,M⟩:=h;have r:Rps K H' (L.map λw=>D.ins C xs (w.2.map λc=>D.lst c.2)) (L.map λw=>V.ref w.1):=Bh λw hw=>let ⟨l,U,T⟩:=E w hw;⟨l,U,λc A=>let ⟨vs,p,o⟩:=T c A;⟨vs,p,Rps.mono off_sub o⟩⟩;exact⟨a,_,rfl,G,r.len,λi d e=>let ⟨u,g,f⟩:=r.get e;⟨u,g,K5 n f⟩⟩
  |nst cs=>
   refine⟨(λds e=>by cases e),λds e=>?_⟩;cases e
   obtain⟨a,rfl,Q,G,E,M⟩:=h;have r:=Pi λc A=>let ⟨vs,p,o⟩:=E c A;⟨vs,p,Rps.mono off_sub o⟩;exact⟨a,_,rfl,off_sub _ _ G,r.len,λi d e=>let ⟨u,g,f⟩:=r.get e;⟨u,g,K5 n f⟩⟩
  |_=>exact⟨(λds e=>by cases e),(λds e=>by cases e)⟩
 |view J=>
  cases J with
  |lst J=>
   refine⟨λds e=>?_,λds e=>by cases e⟩;cases e
   obtain⟨a,rfl,vs,e,r⟩:=h;exact⟨a,vs,rfl,e,r.len,λi d e=>r.get e⟩
  |lsA x J=>
   refine⟨λds e=>?_,λds e=>by cases e⟩;cases e
   obtain⟨a,rfl,_,vs,e,r⟩:=h;exact⟨a,vs,rfl,e,r.len,λi d e=>r.get e⟩
  |nsl x cs=>
   refine⟨λds e=>?_,λds e=>by cases e⟩;cases e
   obtain⟨a,rfl,_,G,E,M⟩:=h;have r:=Pi λc A=>let ⟨vs,p,o⟩:=E c A;⟨vs,p,Rps.mono off_sub o⟩;exact⟨a,_,rfl,G,r.len,λi d e=>let ⟨u,g,f⟩:=r.get e;⟨u,g,K5 n f⟩⟩
  |vls x C xs L=>
   refine⟨λds e=>?_,λds e=>by cases e⟩;cases e
   obtain⟨a,rfl,_,G,E,M⟩:=h;have r:Rps K H' (L.map λw=>D.ins C xs (w.2.map λc=>D.lst c.2)) (L.map λw=>V.ref w.1):=Bh λw hw=>let ⟨l,U,T⟩:=E w hw;⟨l,U,λc A=>let ⟨vs,p,o⟩:=T c A;⟨vs,p,Rps.mono off_sub o⟩⟩;exact⟨a,_,rfl,G,r.len,λi d e=>let ⟨u,g,f⟩:=r.get e;⟨u,g,K5 n f⟩⟩
  |nst cs=>
   refine⟨(λds e=>by cases e),λds e=>?_⟩;cases e
   obtain⟨a,rfl,G,E,M⟩:=h;have r:=Pi λc A=>let ⟨vs,p,o⟩:=E c A;⟨vs,p,Rps.mono off_sub o⟩;exact⟨a,_,rfl,off_sub _ _ G,r.len,λi d e=>let ⟨u,g,f⟩:=r.get e;⟨u,g,K5 n f⟩⟩
  |_=>exact⟨(λds e=>by cases e),(λds e=>by cases e)⟩
 |tmp d=>
  refine⟨λds e=>?_,λds e=>?_⟩<;>(have Y:=e;subst Y)
  ·obtain⟨a,vs,rfl,h,r⟩:=Rp.lst_inv h;exact⟨_,_,rfl,h,r.len,λi d e=>let ⟨u,g,f⟩:=r.get e;⟨u,g,K5 n f⟩⟩
  ·obtain⟨a,vs,rfl,h,r⟩:=Rp.tup_inv h;exact⟨_,_,rfl,h,r.len,λi d e=>let ⟨u,g,f⟩:=r.get e;⟨u,g,K5 n f⟩⟩
def Fr(B:Addr->Prop)(H:Hp)(σ:L2.St)(γ:Γ)(H':Hp)(f:L2.St)(g:Γ):Prop:=∀b o,H b=some o->¬zof B γ σ b->H' b=some o/\¬zof B g f b
def Fr.refl:Fr B H σ γ H σ γ:=λ_ _ h z=>⟨h,z⟩
def Fr.trans {H1 p g f n l} (a:Fr B H σ γ H1 g n) (b:Fr B H1 g n p f l):Fr B H σ γ p f l:=λx o h z=>let ⟨s,r⟩:=a x o h z;b x o s r
def Fr.grow (f:Same H H'):Fr B H σ γ H' σ γ:=λ_ _ h z=>⟨f _ _ h,z⟩
def Fr.off {H'}{σ'}{γ'} (f:Fr B H σ γ H' σ' γ'):Same (off (zof B γ σ) H) (Pu.off (zof B γ' σ') H'):=λb o h=>by
 obtain⟨p,n⟩:=Ku h;obtain⟨l,g⟩:=f b o p n;exact Xe l g
def UX{f:Type}{l:List f}{i j}{x y}(h:(l.set i x)[j]?=some y):(j=i/\x=y/\i<l.length)\/(j≠i/\l[j]?=some y):=by grind
def Bt{f:Type}{l:List f}{i}{x}(h:i<l.length):(l.set i x)[i]?=some x:=by grind
def To{f:Type}{l:List f}{i j}{x}(h:j≠i):(l.set i x)[j]?=l[j]?:=by grind
def U9.drop (E:U9 K H0 B H σ γ) (i:Nat):U9 K H0 B H σ (γ.set i none)/\Fr B H σ γ H σ (γ.set i none):=by
 have p:∀b,zof B (γ.set i none) σ b->zof B γ σ b:=λb z=>z.imp id λ⟨j,l,a,g,f,u⟩=>by
  rcases UX g with⟨_,e,_⟩|⟨_,e⟩
  ·grind
  ·exact⟨j,l,a,e,f,u⟩
 refine⟨⟨E.same,by rw[Q0];exact E.len,E.bm,λk j a G l w b g f=>?_,λk s h=>?_⟩,λb o h z=>⟨h,λy=>z (p b y)⟩⟩
 ·rcases UX g with⟨_,e,_⟩|⟨_,n⟩
  ·cases e
  ·rcases UX f with⟨_,e,_⟩|⟨_,C⟩
   ·cases e
   ·exact E.own k j a G l w b n C
 ·rcases UX h with⟨_,e,_⟩|⟨_,e⟩
  ·cases e
  ·obtain⟨v,g,f⟩:=E.slot k s e;refine⟨v,g,?_⟩;have r:Same (Pu.off (zof B γ σ) H) (Pu.off (zof B (γ.set i none) σ) H):=UF (Same.refl _) λb _ _ z y=>z (p b y);cases s with
   |sh d=>exact Rp.mono r f
   |own l=>
    obtain⟨a,n,A,x⟩:=f;exact⟨a,n,A,x.mono r λ_ _ _ q=>q⟩
   |_=>exact f
def U9.put {s L}{v} (E:U9 K H0 B H σ γ) (S1:Same H H') (h:TV K (zof B γ σ) H0 H H' s v) (e:s.slot=some L) (hi:i<γ.length) :
  U9 K H0 B H' (σ.set i<|some v) (γ.set i<|some L)/\Fr B H σ γ H' (σ.set i<|some v) (γ.set i<|some L):=by
 have n:i<σ.length:=by rw[E.len];exact hi
 have E':=E.grow S1
 have isown:∀f,L=.own f->s=.own f:=λf q=>by
  subst q;cases s with
  |own J=>cases e;rfl
  |tmp d=>unfold S.slot at e;cases q:imm d<;>simp[q]at e
  |_=>cases e
 have l:∀b,zof B (γ.set i<|some L) (σ.set i<|some v) b->zof B γ σ b\/∃f a,s=.own f/\v=.ref a/\f.adr a b:=λb z=>by
  rcases z with z|⟨j,f,a,h1,G,A⟩
  ·exact .inl (.inl z)
  ·rcases UX h1 with⟨Y,g,_⟩|⟨T,g⟩
   ·subst Y;rw[Bt n]at G
    have:=WB g
    exact .inr ⟨f,a,isown f this,WB (WB G),A⟩
   ·rw[To T]at G;exact .inl (.inr ⟨j,f,a,g,G,A⟩)
 have fresh:∀f a b,s=.own f->v=.ref a->f.adr a b->H b=none:=λf a b J ev p=>by
  subst J;obtain⟨a',g,e0,_⟩:=h;rw[ev]at g;cases g
  exact e0 b p
 have hz:∀b o,H b=some o->¬zof B γ σ b->¬zof B (γ.set i<|some L) (σ.set i<|some v) b:=λb o p z y=>by
  rcases l b y with y|⟨f,a,y1,y2,y3⟩
  ·exact z y
  ·rw[fresh f a b y1 y2 y3]at p;cases p
 have So:=UF S1 hz;refine⟨⟨E'.same,by rw[Q0,Q0];exact E.len,E'.bm,λk j a a' f J b h1 G A M h5 h6=>?_,λk u hk=>?_⟩,λb o p z=>⟨S1 b o p,hz b o p z⟩⟩
 ·have Q:∀(k:Nat) f a b,γ[k]?=some (some<|.own f)->σ[k]?=some (some<|.ref a)->f.adr a b->∃o,H b=some o:=λk f a b g C e3=>by
   obtain⟨u,q1,a',N,_,q3⟩:=E.slot k _ g;rw[C]at q1;cases q1
   cases N
   exact Kr (q3.mut b e3)
  rcases UX h1 with⟨ek,g,_⟩|⟨nk,g⟩
  ·rcases UX G with⟨Y,C,_⟩|⟨T,C⟩
   ·rw[ek,Y]
   ·subst ek;rw[Bt n]at A;rw[To T]at M;obtain⟨o,U⟩:=Q j J a' b C M h6;rw[fresh f a b (isown f<|WB g) (WB<|WB A) h5]at U;cases U
  ·rcases UX G with⟨Y,C,_⟩|⟨T,C⟩
   ·subst Y;rw[Bt n]at M;rw[To nk]at A;obtain⟨o,U⟩:=Q k f a b g A h5;rw[fresh J a' b (isown J<|WB C) (WB<|WB M) h6]at U;cases U
   ·rw[To nk]at A;rw[To T]at M;exact E.own k j a a' f J b g C A M h5 h6
 ·rcases UX hk with⟨ek,g,_⟩|⟨nk,g⟩
  ·subst ek
   have:=(WB g).symm
   subst this;refine⟨v,Bt n,?_⟩;cases s with
   |own f=>
    cases e
    obtain⟨a,rfl,e0,r⟩:=h;refine⟨a,rfl,λb p=>E.same.free (e0 b p),r.mono (UF (Same.refl _) λb o _ z y=>?_) λ_ _ _ q=>q⟩;rcases l b y with y|⟨_,_,y1,y,y2⟩
    ·exact z (.inl y)
    ·cases y;cases y1;exact z (.inr y2)
   |sh d=>
    cases e
    refine Rp.mono (UF (Same.refl _) λb o _ z y=>?_) h;rcases l b y with y|⟨_,_,y,_⟩
    ·exact z y
    ·cases y
   |bor d=>cases e;exact h
   |view d=>cases e
   |tmp d=>
    unfold S.slot at e;cases q:imm d with
    |false=>simp[q]at e
    |true=>
     simp[q]at e;subst e;refine Rp.off (λb y=>?_) h q;rcases l b y with y|⟨_,_,y,_⟩
     ·exact KQ S1 (E.zm b y)
     ·cases y
  ·obtain⟨w,q1,N⟩:=E.slot k u g;refine⟨w,by rw[To nk];exact q1,?_⟩;cases u with
   |sh d=>exact Rp.mono So N
   |own f=>
    obtain⟨a,g,e3,e4⟩:=N;exact⟨a,g,e3,e4.mono So λb _ x=>S1 b x⟩
   |_=>exact N
noncomputable def frz(i:Nat)(γ:Γ):Γ:=match γ[i]? with
 |some (some<|.own o)=>γ.set i (some<|.sh o.d)
 |_=>γ
def U9.frz (E:U9 K H0 B H σ γ) (hB:∀b,B b->∃o,H0 b=some o) (i:Nat):U9 K H0 B H σ (frz i γ)/\Fr B H σ γ H σ (Pu.frz i γ):=by
 unfold Pu.frz;split
 ·rename_i p J
  have G:∀b,zof B (γ.set i<|some<|.sh p.d) σ b->zof B γ σ b:=λb z=>z.imp id λ⟨j,l,a,g,f,L⟩=>by
   rcases UX g with⟨_,e,_⟩|⟨_,e⟩
   ·cases e
   ·exact⟨j,l,a,e,f,L⟩
  have C:Same (Pu.off (zof B γ σ) H) (Pu.off (zof B (γ.set i<|some<|.sh p.d) σ) H):=UF (Same.refl _) λb _ _ z y=>z (G b y);refine⟨⟨E.same,by rw[Q0];exact E.len,E.bm,λk j a A l r b g f=>?_,λk s h=>?_⟩,λb o h z=>⟨h,λy=>z (G b y)⟩⟩
  ·rcases UX g with⟨_,e,_⟩|⟨_,n⟩
   ·cases e
   ·rcases UX f with⟨_,e,_⟩|⟨_,w⟩
    ·cases e
    ·exact E.own k j a A l r b n w
  ·rcases UX h with⟨T,e,_⟩|⟨Y,e⟩
   ·subst T
    have:=WB e
    subst this;obtain⟨v,g,a,rfl,L,Q⟩:=E.slot k _ J;refine⟨_,g,Q.rpIn C λb N x f=>Xe f λz=>?_⟩;rcases z with z|⟨j,l,A,n,w,u⟩
    ·grind
    ·rcases UX n with⟨_,q,_⟩|⟨M,q⟩
     ·cases q
     ·exact M (E.own j k A a l p b q J w g u N)
   ·obtain⟨v,g,f⟩:=E.slot k s e;refine⟨v,g,?_⟩;cases s with
    |sh d=>exact Rp.mono C f
    |own p=>
     obtain⟨a,n,u,U⟩:=f;exact⟨a,n,u,U.mono C λ_ _ _ q=>q⟩
    |_=>exact f
 ·exact⟨E,Fr.refl⟩
def U9.change {o o'} (E:U9 K H0 B H σ γ) (M:γ[i]?=some (some<|.own o)) (A:σ[i]?=some (some<|.ref a))
  (N:∀b x,H b=some x->¬o.adr a b->H' b=some x) (hm:∀b,o.adr a b->Mut (H' b)) (l:∀b,o'.adr a b->o.adr a b\/H b=none) (r:OR K (Pu.off (zof B (γ.set i<|some<|.own o') σ) H') H' a o') :
  U9 K H0 B H' σ (γ.set i<|some<|.own o')/\Fr B H σ γ H' σ (γ.set i<|some<|.own o'):=by
 obtain⟨v,h1,a',rfl,h3,h4⟩:=E.slot i _ M;rw[A]at h1;cases h1
 have za:∀b,o.adr a b->zof B γ σ b:=λb C=>.inr ⟨i,o,a,M,A,C⟩
 have hz:∀b x,H b=some x->zof B (γ.set i<|some<|.own o') σ b->zof B γ σ b:=λb x hx z=>by
  rcases z with z|⟨j,fs,a',U,p,n⟩
  ·exact .inl z
  ·rcases UX U with⟨T,q,_⟩|⟨_,e⟩
   ·subst T;cases q
    rw[A]at p;cases p
    rcases l b n with k|k
    ·exact za b k
    ·rw[k]at hx;cases hx
   ·exact .inr ⟨j,fs,a',e,p,n⟩
 have S1:=λb x h=>by
  obtain⟨g,f⟩:=Ku h;exact Xe (N b x g λk=>f (za b k)) λz=>f (hz b x g z)
 have J:∀(k:Nat) ds a b,γ[k]?=some (some<|.own ds)->σ[k]?=some (some<|.ref a)->ds.adr a b->∃o,H b=some o:=λk ds a b U p n=>by
  obtain⟨u,g,a',f,_,q3⟩:=E.slot k _ U;rw[p]at g;cases g
  cases f
  exact Kr (q3.mut b n)
 refine⟨⟨λb x h=>?_,by rw[Q0];exact E.len,λb C=>?_,λk j x x' fs Q b U p n G e5 e6=>?_,λk s h=>?_⟩,λb x h z=>⟨?_,λy=>z (hz b x h y)⟩⟩
 ·exact N b x (E.same b x h) λk=>by rw[h3 b k]at h;cases h
 ·by_cases k:o.adr a b
  ·exact hm b k
  ·have:=E.bm b C
   obtain⟨x,hx⟩:=Kr this;rwa[N b x hx k,←hx]
 ·rcases UX U with⟨Y,g,_⟩|⟨nk,g⟩
  ·rcases UX p with⟨T,_,_⟩|⟨nj,f⟩
   ·rw[Y,T]
   ·subst Y;cases g
    rw[A]at n;cases n
    rcases l b e5 with w|w
    ·exact E.own k j _ _ _ _ b M f A G w e6
    ·obtain⟨u,L⟩:=J j Q x' b f G e6;rw[w]at L;cases L
  ·rcases UX p with⟨T,f,_⟩|⟨nj,f⟩
   ·subst T;cases f
    rw[A]at G;cases G
    rcases l b e6 with w|w
    ·exact E.own k j _ _ _ _ b g M n A e5 w
    ·obtain⟨u,L⟩:=J k fs x b g n e5;rw[w]at L;cases L
   ·exact E.own k j x x' fs Q b g f n G e5 e6
 ·rcases UX h with⟨Y,e,_⟩|⟨nk,e⟩
  ·subst Y
   have:=WB e
   subst this;exact⟨_,A,a,rfl,λb C=>(l b C).elim (h3 b) λw=>E.same.free w,r⟩
  ·obtain⟨v,g,f⟩:=E.slot k s e;refine⟨v,g,?_⟩;cases s with
   |sh d=>exact Rp.mono S1 f
   |own fs=>
    obtain⟨x,rfl,n,G⟩:=f;exact⟨x,rfl,n,G.mono S1 λb C y p=>N b y p λw=>nk (E.own k i x a fs o b e M g A C w)⟩
   |_=>exact f
 ·exact N b x h λk=>z (za b k)
def U9.mutate {i:Nat}{a:Addr}{ds es:O}{us:HO} (E:U9 K H0 B H σ γ) (u:γ[i]?=some (some<|.own ds)) (f:σ[i]?=some (some<|.ref a)) (w:Mut (some us)) (r:∀F H':Hp,Same (Pu.off (zof B γ σ) H) F->H' a=some us->OR K F H' a es)
  (k1:autoParam (ds.adr a=λb=>b=a) au_0) (k2:autoParam (es.adr a=λb=>b=a) au_0) :
  U9 K H0 B (upd H a us) σ (γ.set i<|some<|.own es)/\Fr B H σ γ (upd H a us) σ (γ.set i<|some<|.own es):=by
 refine E.change (o:=ds) (o':=es) u f (λb x h n=>by rw[UR (λz=>n (by rw[k1];exact z))];exact h) (λb h=>by rw[k1]at h;rw[show b=a from h,UZ];exact w) (λb h=>.inl (by rw[k1];rw[k2]at h;exact h)) (r _ _ ?_ UZ)
 intro b x h;obtain⟨v,p⟩:=Ku h;have s:b≠a:=λz=>p (.inr ⟨i,ds,a,u,f,by rw[k1];exact z⟩);refine Xe (by rw[UR s];exact v) λz=>p ?_;rcases z with z|⟨j,fs,C,A,l,g⟩
 ·exact .inl z
 ·rcases UX A with⟨y,q,_⟩|⟨_,e⟩
  ·subst y;cases q
   rw[f]at l;cases l
   rw[k2]at g;exact absurd g s
  ·exact .inr ⟨j,fs,C,e,l,g⟩
end
end Pu
namespace Pu
open PySem PySem.Spec PyProof.Rows L2 Own
abbrev XR:=Str->Prop
noncomputable def dI(n:Nat):Int:=if n % 2=0 then .ofNat (n / 2)else .negSucc (n / 2)
noncomputable def Oq:ZX->Option (ZS)
 | 0::t=>some (t.map dI)
 |_=>none
noncomputable def SC(x:Str):Option (ZS):=Oq x.cps.toList
def XE(f:ZU)(E:XK)(c:Str)(H':Hp):Prop:=match SC c with
 |none=>E (.ref<|ExcR.UC f c) none H'
 |some r=>∀(g l:Addr) (o:Obj),H' g=some (.xd [("members",.ref l)])->H' l=some (.frz o<|.lst<|r.map V.int)->E (.ref<|ExcR.UC f "Ringed") (some g) H'
def XE.plain {c H'} (g:SC c=none) (h:XE f E c H'):E (.ref<|ExcR.UC f c) none H':=by
 unfold XE at h;simp_all
abbrev PTE:=Γ->(S->Prop)->XR->Prop
abbrev PTT:=Γ->(Bool->Prop)->XR->Prop
abbrev PTA:=Γ->(List S->Prop)->XR->Prop
abbrev PTO:=Γ->(Option Int->Prop)->XR->Prop
structure P4 where
 nx:Γ->Prop
 rt:S->Prop
 ex:Γ->Str->Prop
 bk:Γ->Prop:=λ_=>False
 ct:Γ->Prop:=λ_=>False
 rv:Γ->D->Prop:=λ_ _=>False
abbrev PTS:=P4->Γ->Prop
abbrev PTG:=S->Γ->(Γ->Prop)->Prop
abbrev Nd:=List S->Γ->(Γ->Prop)->Prop
inductive TVs (K:ZQ) (Z:Addr->Prop) (H0 H H':Hp):List S->List V->Prop
 |nil:TVs K Z H0 H H' [] []
 |cons {s:S} {v:V} {ss:List S} {vs:List V}:TV K Z H0 H H' s v->TVs K Z H0 H H' ss vs->TVs K Z H0 H H' (s::ss) (v::vs)
section
variable (K:ZQ) (mg:ZU) (E:L2.St->XK)
def U5(t:TE)(p:PTE):Prop:=∀(l:Hp) (B:Addr->Prop) (H:Hp) (g:L2.St) (h:Γ) (R:S->Prop) (X:XR) (Q:VK),U9 K l B H g h->p h R X->
 (∀s v f,R s->Same H f->TV K (zof B h g) l H f s v->Q v f)->(∀c f,X c->Same H f->XE mg (E g) c f)->t g H Q
def XG(t:TT)(p:PTT):Prop:=∀(l:Hp) (B:Addr->Prop) (H:Hp) (g:L2.St) (h:Γ) (R:Bool->Prop) (X:XR) (Q:Bool->Hp->Prop),U9 K l B H g h->p h R X->
 (∀b f,R b->Same H f->Q b f)->(∀c f,X c->Same H f->XE mg (E g) c f)->t g H Q
def US(t:TA)(p:PTA):Prop:=∀(o:Hp) (B:Addr->Prop) (H:Hp) (g:L2.St) (h:Γ) (R:List S->Prop) (X:XR) (Q:List V->Hp->Prop),U9 K o B H g h->p h R X->
 (∀n l f,R n->Same H f->TVs K (zof B h g) o H f n l->Q l f)->(∀c f,X c->Same H f->XE mg (E g) c f)->t g H Q
def Pt(t:TO)(p:PTO):Prop:=∀(l:Hp) (B:Addr->Prop) (H:Hp) (g:L2.St) (h:Γ) (R:Option Int->Prop) (X:XR) (Q:Option Int->Hp->Prop),U9 K l B H g h->p h R X->
 (∀o f,R o->Same H f->Q o f)->(∀c f,X c->Same H f->XE mg (E g) c f)->t g H Q
structure SE (H0:Hp) (B:Addr->Prop) (H:Hp) (σ:L2.St) (γ:Γ) (R:P4) (D:Ends):Prop where
 nx:∀σ' γ' H',R.nx γ'->U9 K H0 B H' σ' γ'->Fr B H σ γ H' σ' γ'->D.nx σ' H'
 rt:∀s v H',R.rt s->Same H0 H'->TV K B H0 H0 H' s v->D.rt v H'
 ex:∀σ' γ' c H',R.ex γ' c->U9 K H0 B H' σ' γ'->Fr B H σ γ H' σ' γ'->XE mg (E σ') c H'
 bk:∀σ' γ' H',R.bk γ'->U9 K H0 B H' σ' γ'->Fr B H σ γ H' σ' γ'->D.bk σ' H'
 ct:∀σ' γ' H',R.ct γ'->U9 K H0 B H' σ' γ'->Fr B H σ γ H' σ' γ'->D.ct σ' H'
 rv:∀σ' γ' d v H',R.rv γ' d->U9 K H0 B H' σ' γ'->Fr B H σ γ H' σ' γ'->Rp K (off (zof B γ' σ') H') d v->D.rt v H'
def UJ(t:TS)(p:PTS):Prop:=∀(h:Hp) (B:Addr->Prop) (H:Hp) (f:L2.St) (g:Γ) (R:P4) (D:Ends),(∀b,B b->∃o,h b=some o)->U9 K h B H f g->p R g->SE K mg E h B H f g R D->t D f H
end
section
variable {K:ZQ}{mg:ZU}{E:L2.St->XK}{H0 H H1 H':Hp}{B Z Z':Addr->Prop}{σ:L2.St}{γ:Γ}
def TVs.weakG {H1 g}:∀{ss}{vs:List V},Same H H1->TVs K Z H0 H1 g ss vs->TVs K Z H0 H g ss vs:=by
 intro ss
 induction ss with
 |nil=>
  intro _ _ h;cases h
  exact .nil
 |cons _ _ l=>
  intro _ f h;cases h with
  |cons h r=>
   exact .cons (TV.weak f (λ_ z=>z) h) (l f r)
def TVs.rps (g:Same H0 H'):∀{ss}{vs:List V},TVs K Z H0 H H' ss vs->Rps K H' (ss.map S.d) vs:=by
 intro ss
 induction ss with
 |nil=>
  intro _ h;cases h
  exact .nil
 |cons _ _ f=>
  intro _ h;cases h with
  |cons h r=>
   exact .cons (h.rp g) (f r)
theorem TVs.shd {ds:List D} (l:Same H0 H') (g:∀b,Z b->Mut (H b)) (n:Same H H'):∀{f vs}{ds:List D},TVs K Z H0 H H' f vs->f.map S.shd=ds.map some->Rps K (off Z H') ds vs
 |_,_,[],.nil,_=>.nil
 |_,_,_::_,.nil,e|_,_,[],.cons _ _,e=>by cases e
 |_,_,d::ds,.cons h r,e=>by
  rw[WO,WO,Je]at e;exact .cons (h.shd l g n e.1) (TVs.shd (ds:=ds) l g n r e.2)
def Rp.int_inv (h:Rp K H (.int i) v):v=.int i:=by cases h;rfl
def Rp.bl_inv (h:Rp K H (.bl b) v):v=.bl b:=by cases h;rfl
def Rp.str_inv (h:Rp K H (.str x) v):v=.str x:=by cases h;rfl
def Rp.non_inv (h:Rp K H .non v):v=.non:=by cases h;rfl
def Rp.ty_inv (h:Rp K H (.ty n) v):v=.ty n:=by cases h;rfl
noncomputable def Cf(i:Nat):PTE:=λγ R _=>match γ[i]? with
 |some (some<|.own f)=>R (.view f)
 |some (some s)=>R s
 |_=>False
def U4(i:Nat):U5 K mg E (X6 i) (Cf i):=by
 intro H0 B H σ γ R X Q f h q _;unfold Cf at h;split at h
 ·rename_i o e;obtain⟨v,g,a,rfl,r,n⟩:=f.slot i _ e;exact⟨_,g,q _ _ H h (Same.refl _) ⟨a,rfl,n⟩⟩
 ·rename_i s p e;obtain⟨v,g,l⟩:=f.slot i _ e;refine⟨v,g,q _ _ H h (Same.refl _) ?_⟩;cases s with
  |bor d|sh d=>exact l
  |own o=>grind
  |_=>exact l.elim
 ·grind
noncomputable def pC(d:D):PTE:=λ_ R _=>R (.sh d)
def SW(h:∀H,Rp K H d v):U5 K mg E (tC v) (pC d):=by
 intro H0 B H σ γ R X Q f p q _;exact q _ _ H p (Same.refl _) (h _)
def UB:U5 K mg E (tC<|.int i) (pC<|.int i):=SW λ_=>.int i
def Nm:U5 K mg E (tC<|.bl b) (pC<|.bl b):=SW λ_=>.bl b
def Tq:U5 K mg E (tC<|.str x) (pC<|.str x):=SW λ_=>.str x
def PP:U5 K mg E (tC<|.ty n) (pC<|.ty n):=SW λ_=>.ty n
noncomputable def p2(a b:PTE)(f:S->S->(S->Prop)->Prop):PTE:=λγ R X=>a γ (λx=>b γ (λy=>f x y R) X) X
def Ky{A w a b f}(Y:U5 K mg E A a)(U:U5 K mg E w b)(N:∀H0 H h Z x y v u R Q,Same H0 h->Same H h->(∀b,Z b->Mut (H b))->TV K Z H0 H h x v->TV K Z H0 H h y u->f x y R->(∀s z H',R s->Same h H'->TV K Z H0 H H' s z->Q z H')->r v u h Q) :
  U5 K mg E (tOp r A w) (p2 a b f):=by
 intro H0 B H σ γ R X Q l p q C;refine Y H0 B H σ γ _ X _ l p (λx v H1 h1 n L=>?_) C;have g:=l.grow n;refine U H0 B H1 σ γ _ X _ g h1 (λy u h h2 o J=>?_) λc H' T S'=>C c H' T (n.trans S');exact N H0 H h _ x y v u R Q (g.same.trans o) (n.trans o) l.zm (L.grow o) (TV.weak n (λ_ z=>z) J) h2 λs z H' M S3 G=>q s z H' M ((n.trans o).trans S3) G
def fI0(g:Int->Int->D):S->S->(S->Prop)->Prop:=λx y R=>match x.d,y.d with
 | .int i,.int j=>R (.sh<|g i j)
 |_,_=>False
def fI(C:Int->Int->Prop)(g:Int->Int->D):S->S->(S->Prop)->Prop:=λx y R=>match x.d,y.d with
 | .int i,.int j=>C i j/\R (.sh<|g i j)
 |_,_=>False
def NV{g'}{l f a b}(w:∀H i j,Rp K H (g' i j) (g i j))(A:U5 K mg E l a)(z:U5 K mg E f b):U5 K mg E (tOp (rI0 g) l f) (p2 a b<|fI0 g'):=by
 refine Ky A z λH0 H J Z x y v u R Q n L M s r h q=>?_;unfold fI0 at h;have p:=s.rp n;have o:=r.rp n;split at h
 ·rename_i i j G C;rw[G]at p;rw[C]at o;exact⟨i,j,p.int_inv,o.int_inv,q _ _ J h (Same.refl _) (w _ i j)⟩
 ·grind
def S7{g r}{l f a b}(z:∀H i j,Rp K H (r i j) (g i j))(G:U5 K mg E l a)(A:U5 K mg E f b):U5 K mg E (tOp (rI C g) l f) (p2 a b<|fI C r):=by
 refine Ky G A λH0 H M Z x y v u R Q n N T w s h q=>?_;unfold fI at h;have p:=w.rp n;have o:=s.rp n;split at h
 ·rename_i i j L J;rw[L]at p;rw[J]at o;exact⟨i,j,p.int_inv,o.int_inv,h.1,q _ _ M h.2 (Same.refl _) (z _ i j)⟩
 ·grind
section
variable {ta tb tc:TE}{a b c:PTE}
def UV(g:U5 K mg E ta a)(f:U5 K mg E tb b):U5 K mg E (tOp (rI0 λi j=>.int (i+j)) ta tb) (p2 a b (fI0 λi j=>.int (i+j))):=NV (λ_ _ _=>.int _) g f
def XD(g:U5 K mg E ta a)(f:U5 K mg E tb b):U5 K mg E (tOp (rI0 λi j=>.int (i-j)) ta tb) (p2 a b (fI0 λi j=>.int (i-j))):=NV (λ_ _ _=>.int _) g f
def T9(g:U5 K mg E ta a)(f:U5 K mg E tb b):U5 K mg E (tOp (rI CMul λi j=>.int (i*j)) ta tb) (p2 a b (fI CMul λi j=>.int (i*j))):=S7 (λ_ _ _=>.int _) g f
def Xl(g:U5 K mg E ta a)(f:U5 K mg E tb b):U5 K mg E (tOp (rI Ap λi j=>.int (i / j)) ta tb) (p2 a b (fI Ap λi j=>.int (i / j))):=S7 (λ_ _ _=>.int _) g f
def UO(g:U5 K mg E ta a)(f:U5 K mg E tb b):U5 K mg E (tOp (rI (λ_ j=>0<j) λi j=>.int (i % j)) ta tb) (p2 a b (fI (λ_ j=>0<j) λi j=>.int (i % j))):=S7 (λ_ _ _=>.int _) g f
def FM(g:U5 K mg E ta a)(f:U5 K mg E tb b):U5 K mg E (tOp (rI F1 λi j=>.int (i ^ j.toNat)) ta tb) (p2 a b (fI F1 λi j=>.int (i ^ j.toNat))):=S7 (λ_ _ _=>.int _) g f
def Ko(g:U5 K mg E ta a)(f:U5 K mg E tb b):U5 K mg E (tOp (rI0 λi j=>.bl (decide (i<j))) ta tb) (p2 a b (fI0 λi j=>.bl (decide (i<j)))):=NV (λ_ _ _=>.bl _) g f
def XW(g:U5 K mg E ta a)(f:U5 K mg E tb b):U5 K mg E (tOp (rI0 λi j=>.bl (decide (j<i))) ta tb) (p2 a b (fI0 λi j=>.bl (decide (j<i)))):=NV (λ_ _ _=>.bl _) g f
def TL(g:U5 K mg E ta a)(f:U5 K mg E tb b):U5 K mg E (tOp (rI0 λi j=>.bl (decide (j<=i))) ta tb) (p2 a b (fI0 λi j=>.bl (decide (j<=i)))):=NV (λ_ _ _=>.bl _) g f
def fEq(neg:Bool):S->S->(S->Prop)->Prop:=λx y R=>match x.d,y.d with
 | .int i,.int j=>R (.sh<|.bl (if neg then !decide (i=j)else decide (i=j)))
 | .str i,.str j=>R (.sh<|.bl (if neg then !decide (i=j)else decide (i=j)))
 | .bl i,.bl j=>R (.sh<|.bl (if neg then !decide (i=j)else decide (i=j)))
 |_,_=>False
def Nw{g h:Type}[DecidableEq g][DecidableEq h]{f:g->h}(l:∀a b,f a=f b->a=b)(a b:g):decide (f a=f b)=decide (a=b):=by grind
def fIx:S->S->(S->Prop)->Prop:=λx y R=>match x.d,y.d with
 | .lst g,.int k=>∃d,atI g k=some d/\R (x.sub d)
 | .tup g,.int k=>∃d,atI g k=some d/\R (x.sub d)
 | .scr f,.int k=>∃i,atI f k=some i/\R (.sh<|.int i)
 | .fL f,.int k=>∃i,atI f k=some i/\R (.sh<|.int i)
 |_,_=>False
def Mz{P:D->V->Prop}(f:vs.length=ds.length)(h:∀(i:Nat) d,ds[i]?=some d->∃u,vs[i]?=some u/\P d u)(e:atI ds k=some d):∃u,atI vs k=some u/\P d u:=by
 unfold atI at e ⊢;cases q:ixN ds.length k with
 |_=>grind
def Xh(ha:U5 K mg E ta a)(hb:U5 K mg E tb b):U5 K mg E (tOp (λx y H Q=>T3 K x y H Q\/Tg K x y H Q) ta tb) (p2 a b fIx):=by
 refine Ky ha hb λH0 H s Z x y v u R Q r s1 hm A Y h q=>?_;unfold fIx at h;have f:=Y.rp r;obtain⟨pl,pt⟩:=A.part r hm s1;split at h
 ·rename_i U k o n;rw[n]at f;obtain⟨d,T,g⟩:=h;obtain⟨l,w,rfl,M,L,J⟩:=pl U o;obtain⟨z,C,tz⟩:=Mz L J T;exact .inl ⟨l,w,k,z,rfl,f.int_inv,SqL.of M,C,q _ _ s g (Same.refl _) tz⟩
 ·rename_i U k o n;rw[n]at f;obtain⟨d,T,g⟩:=h;obtain⟨l,w,rfl,M,L,J⟩:=pt U o;obtain⟨z,C,tz⟩:=Mz L J T;exact .inr ⟨l,w,k,z,rfl,f.int_inv,SqT.of M,C,q _ _ s g (Same.refl _) tz⟩
 ·rename_i ns k o n;rw[n]at f;obtain⟨i,N,g⟩:=h;have p:=A.rp r;rw[o]at p;cases p with
  |scr G=>exact .inl ⟨_,_,k,.int i,rfl,f.int_inv,G,Px N,q _ _ s g (Same.refl _) (.int i)⟩
 ·rename_i ns k o n;rw[n]at f;obtain⟨i,N,g⟩:=h;have p:=A.rp r;rw[o]at p;cases p with
  |fL G=>exact .inl ⟨_,_,k,.int i,rfl,f.int_inv,.inl (.inr ⟨_,G⟩),Px N,q _ _ s g (Same.refl _) (.int i)⟩
 ·exact h.elim
noncomputable def Zhp(a b:PTE):PTE:=λγ R X=>a γ (λx=>match x.d with | .bl c=>if c=true then b γ R X else R (.sh<|.bl false)|_=>False) X
noncomputable def M6(a:PTE):PTE:=λγ R X=>a γ (λx=>match x.d with | .bl c=>R (.sh<|.bl (!c))|_=>False) X
def N1(C:U5 K mg E ta a)(A:U5 K mg E tb b):U5 K mg E (Gy ta tb) (Zhp a b):=by
 intro H0 B H σ γ R X Q h p q r;refine C H0 B H σ γ _ X _ h p (λx v H1 n l w=>?_) r;have f:=h.grow l;have o:=w.rp f.same;split at n
 ·rename_i c J;rw[J]at o;refine⟨c,o.bl_inv,?_⟩;split at n
  ·rename_i g;rw[W3 g];exact A H0 B H1 σ γ _ X _ f n (λy u N G L s=>q y u N G (l.trans L) (TV.weak l (λ_ z=>z) s)) λc H' g M=>r c H' g (l.trans M)
  ·rename_i g;rw[W2 g];exact q _ _ H1 n l (.bl _)
 ·grind
def Hh(r:U5 K mg E ta a):U5 K mg E (DR ta) (M6 a):=by
 intro H0 B H σ γ R X Q f p q o;refine r H0 B H σ γ _ X _ f p (λx v H1 h l n=>?_) o;have g:=n.rp (f.grow l).same;split at h
 ·rename_i c s;rw[s]at g;exact⟨c,g.bl_inv,q _ _ H1 h l (.bl _)⟩
 ·grind
noncomputable def Zkk(a:PTE):PTE:=λγ R X=>a γ (λx=>match x.d with | .int i=>R (.sh<|.int (-i))|_=>False) X
def Kb(r:U5 K mg E ta a):U5 K mg E (tUn (rU λi=>.int (-i)) ta) (Zkk a):=by
 intro H0 B H σ γ R X Q f p q o;refine r H0 B H σ γ _ X _ f p (λx v H1 h l n=>?_) o;have g:=n.rp (f.grow l).same;split at h
 ·rename_i c s;rw[s]at g;exact⟨c,g.int_inv,q _ _ H1 h l (.int _)⟩
 ·grind
noncomputable def Tc(a:PTE):PTT:=λγ R X=>a γ (λx=>match x.d with | .bl c=>R c|_=>False) X
def XU(r:U5 K mg E ta a):XG K mg E (Bu ta) (Tc a):=by
 intro H0 B H σ γ R X Q f p q o;refine r H0 B H σ γ _ X _ f p (λx v H1 h l n=>?_) o;have g:=n.rp (f.grow l).same;split at h
 ·rename_i c s;rw[s]at g;exact⟨c,g.bl_inv,q _ H1 h l⟩
 ·grind
def Zdr(f:U5 K mg E ta a):XG K mg E (tB ta) (Tc a):=XU f
variable {sa sb:TT}{pa pb:PTT}
noncomputable def HF(a b:PTT):PTT:=λγ R X=>a γ (λc=>if c=true then b γ R X else R false) X
noncomputable def pOr(a b:PTT):PTT:=λγ R X=>a γ (λc=>if c=true then R true else b γ R X) X
noncomputable def IW(a:PTT):PTT:=λγ R X=>a γ (λc=>R (!c)) X
def Ol(r:XG K mg E sa pa)(o:XG K mg E sb pb):XG K mg E (EX sa sb) (HF pa pb):=by
 intro H0 B H σ γ R X Q f p q l;refine r H0 B H σ γ _ X _ f p (λc H1 n h=>?_) l;split at n
 ·rename_i g;rw[W3 g];exact o H0 B H1 σ γ _ X _ (f.grow h) n (λy w s u=>q y w s (h.trans u)) λc H' g v=>l c H' g (h.trans v)
 ·grind
def Zdy(r:XG K mg E sa pa)(o:XG K mg E sb pb):XG K mg E (tOr sa sb) (pOr pa pb):=by
 intro H0 B H σ γ R X Q f p q l;refine r H0 B H σ γ _ X _ f p (λc H1 n h=>?_) l;split at n
 ·grind
 ·rename_i g;rw[W2 g];exact o H0 B H1 σ γ _ X _ (f.grow h) n (λy w s u=>q y w s (h.trans u)) λc H' g v=>l c H' g (h.trans v)
def Zk8(h:XG K mg E sa pa):XG K mg E (BZ sa) (IW pa):=by
 intro H0 B H σ γ R X Q f p q g;exact h H0 B H σ γ _ X _ f p (λc H1 l n=>q _ H1 l n) g
end
noncomputable def Pm:PTA:=λ_ R _=>R []
noncomputable def Kt(a:PTE)(r:PTA):PTA:=λγ R X=>a γ (λs=>r γ (λf=>R (s::f)) X) X
def UN:US K mg E XT Pm:=by
 intro H0 B H σ γ R X Q f p q _;exact q _ _ H p (Same.refl _) .nil
def XS{a r}(y:U5 K mg E te a)(w:US K mg E n r):US K mg E (Xk te n) (Kt a r):=by
 intro H0 B H σ γ R X Q f p q h;refine y H0 B H σ γ _ X _ f p (λs v H1 A g u=>?_) h;refine w H0 B H1 σ γ _ X _ (f.grow g) A (λL J G z l o=>?_) λc H' x C=>h c H' x (g.trans C);exact q _ _ G z (g.trans l) (.cons (u.grow l)<|TVs.weakG g o)
noncomputable def Su:List S->Option (List D)
 |[]=>some []
 |s::r=>match s.shd,Su r with
  |some d,some f=>some (d::f)
  |_,_=>none
theorem CZ:∀{ss}{ds:List D},Su ss=some ds->ss.map S.shd=ds.map some
 |[],ds,h=>by cases h;rfl
 |s::r,ds,h=>by
  unfold Su at h;split at h
  ·rename_i d l g f;cases h
   rw[WO,WO,g,CZ f]
  ·grind
noncomputable def GX(r:PTA):PTE:=λγ R X=>r γ (λg=>match Su g with|some f=>f.length<=1000/\R (.sh<|.tup f)|none=>False) X
noncomputable def IG(r:PTA):PTE:=λγ R X=>r γ (λg=>match Su g with|some f=>f.length<=1000/\R (.own f)|none=>False) X
def Ff(h:n<=1000):n<=sizeLine:=V7 (Zb5 h)
def Kj(A:US K mg E w r):U5 K mg E (Mf w) (GX r):=by
 intro H0 B H σ γ R X Q g p q y;refine A H0 B H σ γ _ X _ g p (λC v H1 h n x=>?_) y;split at h
 ·rename_i ds e;have f:=g.grow n;have rp:=x.shd (ds:=ds) f.same g.zm n (CZ e);refine⟨by rw[rp.len];exact Ff h.1,λl s=>?_⟩;have u:=Xq (o:=.tup v) s;refine q _ _ _ h.2 (n.trans u) (.tup (Xe UZ λz=>?_)<|Rps.mono (UF u λ_ _ _ z=>z) rp)
  have:=f.zm l z
  rw[s]at this;exact this
 ·grind
def PU{H H1 l vs ds}(h:Same H H1)(f:H1 l=none)(rp:Rps K (off Z H1) ds vs):TV K Z H0 H (upd H1 l<|.lst vs) (.own ds) (.ref l):=
 ⟨l,rfl,(λ_ e=>e▸h.free f),vs,UZ,Rps.mono (UF (Xq f) λb o g z y=>y.elim z λe=>by rw[e,f]at g;cases g) rp⟩
def XM(v:US K mg E o r):U5 K mg E (SU o) (IG r):=by
 intro H0 B H σ γ R X Q f p q u;refine v H0 B H σ γ _ X _ f p (λx w H1 h g s=>?_) u;split at h
 ·rename_i ds e;have rp:=s.shd (ds:=ds) (f.grow g).same f.zm g (CZ e);refine⟨by rw[rp.len];exact Ff h.1,λl n=>?_⟩;exact q _ _ _ h.2 (g.trans<|Xq n) (PU g n rp)
 ·grind
abbrev Pc:=List D->(S->Prop)->XR->Prop
noncomputable def UA(mg:ZU)(c:Pc)(K:ZQ):Sp:=λg H Q E=>∃f R X,Rps K H f g/\c f R X/\(∀s v H',R s->Same H H'->TV K (λb=>Mut (H b)) H H H' s v->Q v H')/\∀e H',X e->Same H H'->XE mg E e H'
noncomputable def S.back:S->S
 | .bor d=>Kc d | .view o=>.tmp o.d|s=>s
def TV.back (env:U9 K H0 B H1 σ γ) (o:Same H H1) (f:Same H1 H') (h:TV K (λb=>Mut (H1 b)) H1 H1 H' s v):TV K (zof B γ σ) H0 H H' s.back v:=by
 cases s with
 |bor d=>exact K5 (λb z=>KQ f (env.zm b z)) (Rp.mono f h)
 |sh d=>exact Rp.mono (UF (Same.refl _) λb _ _ z y=>z (env.zm b y)) h
 |own n=>
  obtain⟨a,rfl,l,r⟩:=h;exact⟨a,rfl,(λb g=>o.free (l b g)),r.mono (UF (Same.refl _) λb _ _ z y=>z (y.imp (env.zm b) id)) λ_ _ _ q=>q⟩
 |view n=>
  obtain⟨a,rfl,r⟩:=h;exact r.rp off_sub
 |tmp d=>exact h
noncomputable def EC(c:Pc)(r:PTA):PTE:=λγ R X=>r γ (λf=>c (f.map S.d) (λs=>R s.back) λ_=>False) X
noncomputable def MO(c:Pc)(r:PTA):PTE:=λγ R X=>r γ (λf=>c (f.map S.d) (λs=>R s.back) X) X
def Pz{l r}(y:US K mg E l r):U5 K mg E (P3 (UA mg c K) [] E0 l) (EC c r):=by
 intro H0 B H σ γ R X Q g p q w;refine y H0 B H σ γ _ X _ g p (λG C H1 A h u=>?_) w;rw[Qn];have f:=g.grow h;exact⟨_,_,_,u.rps f.same,A,λs v H' x n o=>q _ _ H' x (h.trans n) (o.back f h n),λ_ _ z=>z.elim⟩
def Zba{o r n}(z:US K mg (λ_=>n) o r):U5 K mg (λ_=>n) (P3 (UA mg c K) [] n o) (MO c r):=by
 intro H0 B H σ γ R X Q g p q u;refine z H0 B H σ γ _ X _ g p (λJ G H1 C l x=>?_) u;rw[Qn];have f:=g.grow l;exact⟨_,_,X,x.rps f.same,C,λs v H' y h w=>q _ _ H' y (l.trans h) (w.back f l h),λe H' A h=>u e H' A (l.trans h)⟩
def U9.set {s f}{v} (l:U9 K H0 B H σ γ) (g:Same H H') (h:TV K (zof B γ σ) H0 H H' s v) (e:s.slot=some f) :
  U9 K H0 B H' (σ.set i<|some v) (γ.set i<|some f)/\Fr B H σ γ H' (σ.set i<|some v) (γ.set i<|some f):=by
 by_cases n:i<γ.length
 ·exact l.put g h e n
 ·rw[List.set_eq_of_length_le (by rw[l.len];lia),List.set_eq_of_length_le (by lia)];exact⟨l.grow g,Fr.grow g⟩
def Upd(g:ZX)(σ f:L2.St):Prop:=(∀j,j∉g->f[j]?=σ[j]?)/\f.length=σ.length
def P6(K:ZQ)(h:ZX)(t:TG)(p:PTG):Prop:=∀(H0:Hp) (B:Addr->Prop) (H H':Hp) (σ:L2.St) (γ:Γ) (s:S) (v:V) (R:Γ->Prop) (Q:L2.St->Hp->Prop),U9 K H0 B H σ γ->Same H H'->TV K (zof B γ σ) H0 H H' s v->p s γ R->
 (∀f g,R g->U9 K H0 B H' f g->Fr B H σ γ H' f g->Upd h σ f->Q f H')->t v σ H' Q
noncomputable def PJ(i:Nat):PTG:=λs γ R=>match s.slot with|some f=>R (γ.set i<|some f)|none=>False
def X8(i:Nat):P6 K [i] (Nn i) (PJ i):=by
 intro H0 B H H' σ γ s v R Q f n g p q;unfold PJ at p;split at p
 ·rename_i o e;obtain⟨l,f1⟩:=f.set n g e;exact q _ _ p l f1 ⟨λj h=>To λz=>h (by grind),Q0⟩
 ·grind
noncomputable def LN:Nd:=λf γ R=>match f with|[]=>R γ|_=>False
noncomputable def MP(g:PTG)(r:Nd):Nd:=λh γ R=>match h with|s::t=>g s γ λf=>r t f R|[]=>False
def TV.notown {σ'}{γ'}{Hb} (f:Fr B H σ γ H' σ' γ') (g:Same H H') (n:∀ds,s≠.own ds) (l:∀ds,s≠.view ds) (h:TV K (zof B γ σ) H0 Hb H s v):TV K (zof B γ' σ') H0 H' H' s v:=by
 cases s with
 |bor d=>exact h
 |sh d=>exact Rp.mono f.off h
 |tmp d=>exact Rp.mono g h
 |_=>grind
def TVs.notown (f:Fr B H σ γ H g l):∀{ss}{vs:List V},(∀s∈ss,∀ds,s≠.own ds/\s≠.view ds)->TVs K (zof B γ σ) H0 u H ss vs->TVs K (zof B l g) H0 H H ss vs:=by
 intro ss
 induction ss with
 |nil=>
  intro _ _ h;cases h
  exact .nil
 |cons _ _ o=>
  intro _ n h;cases h with
  |cons h r=>
   exact .cons (h.notown f (Same.refl _) (λds=>(n _ WW ds).1) λds=>(n _ WW ds).2) (o (λs p=>n s (WK _ p)) r)
def Fp(d:D):arg d=.sh d\/arg d=.bor d:=by unfold arg;cases imm d<;>simp
def Gi(d:D):Kc d=.sh d\/Kc d=.tmp d:=by unfold Kc;cases imm d<;>simp
def Lc(s:S)(d:D):∀ds,s.sub d≠.own ds/\s.sub d≠.view ds:=λds=>by
 cases s with
 |bor b=>rcases Fp d with e|e<;>(show arg d≠_/\arg d≠_;rw[e];exact⟨(λz=>by cases z),(λz=>by cases z)⟩)
 |tmp b=>rcases Gi d with e|e<;>(show Kc d≠_/\Kc d≠_;rw[e];exact⟨(λz=>by cases z),(λz=>by cases z)⟩)
 |sh b=>exact⟨(λz=>by cases z),(λz=>by cases z)⟩
 |own b|view b=>
  cases b with
  |nst f|nsl a f|vls a C xs g=>rcases Gi d with e|e<;>(show Kc d≠_/\Kc d≠_;rw[e];exact⟨(λz=>by cases z),(λz=>by cases z)⟩)
  |_=>exact⟨(λz=>by cases z),(λz=>by cases z)⟩
def N5(K:ZQ)(o:ZX)(t:TGs)(p:Nd):Prop:=∀(H0:Hp) (B:Addr->Prop) (H:Hp) (σ:L2.St) (γ:Γ) (h:List S) (l:List V) (R:Γ->Prop) (Q:L2.St->Hp->Prop),U9 K H0 B H σ γ->TVs K (zof B γ σ) H0 H H h l->(∀s∈h,∀n,s≠.own n/\s≠.view n)->p h γ R->
 (∀f g,R g->U9 K H0 B H f g->Fr B H σ γ H f g->Upd o σ f->Q f H)->t l σ H Q
def FT:N5 K [] DC LN:=by
 intro H0 B H σ γ l h R Q f g no p q;cases g with
 |nil=>exact⟨rfl,q _ _ p f Fr.refl ⟨λ_ _=>rfl,rfl⟩⟩
 |cons _ _=>exact p.elim
def NB{g r x w}(T:P6 K M g x)(N:N5 K L r w):N5 K (M++L) (Hd g r) (MP x w):=by
 intro H0 B H σ γ ss vs R Q v G no p q;cases G with
 |nil=>exact p.elim
 |cons h t=>
  refine⟨_,_,rfl,T H0 B H H σ γ _ _ _ _ v (Same.refl _) h p λl o J e1 f1 A=>?_⟩;refine N H0 B H l o _ _ _ _ e1 (TVs.notown f1 (λs u=>no s (WK _ u)) t) (λs u=>no s (WK _ u)) J λf n p2 Y U y=>?_;exact q f n p2 Y (f1.trans U) ⟨λj C=>(y.1 j λz=>C (WR _ z)).trans (A.1 j λz=>C (Qr _ z)),y.2.trans A.2⟩
noncomputable def Fy(n:Nat)(r:Nd):PTG:=λs γ R=>match s.d with | .tup f=>f.length=n/\r (f.map s.sub) γ R|_=>False
theorem TVs.of_part {ds:List D}{s:S}:∀{vs}{ds:List D},vs.length=ds.length->(∀(i:Nat) d,ds[i]?=some d->∃u,vs[i]?=some u/\TV K Z H0 H H' (s.sub d) u)->TVs K Z H0 H H' (ds.map s.sub) vs
 |[],[],_,_=>.nil
 |[],_::_,e,_|_::_,[],e,_=>by cases e
 |v::vs,d::ds,e,h=>by
  obtain⟨u,g,f⟩:=h 0 d rfl;cases g
  exact .cons f (TVs.of_part (ds:=ds) (by grind) λi l n=>by simpa using h (i+1) l (by grind))
def Fq{y r x}(J:N5 K y r x):P6 K y (Cy K n r) (Fy n x):=by
 intro H0 B H H' σ γ s v R Q g u A p q;unfold Fy at p;have f:=g.grow u;obtain⟨_,pt⟩:=A.part f.same g.zm u;split at p
 ·rename_i ds e;obtain⟨a,w,rfl,M,z,L⟩:=pt ds e;refine⟨a,w,rfl,SqT.of M,z.trans p.1,?_⟩;refine J H0 B H' σ γ _ w R Q f (TVs.notown (Fr.refl) (λC o ds=>?_)<|TVs.of_part (ds:=ds) z L) (λC o ds=>?_) p.2 λh l N T f1 G=>q h l N T (Fr.trans (Fr.grow u) f1) G
  ·obtain⟨d,_,rfl⟩:=WZ.mp o;exact Lc s d ds
  ·obtain⟨d,_,rfl⟩:=WZ.mp o;exact Lc s d ds
 ·grind
def SE.from {D p r} (e:SE K mg E H0 B H σ γ R D) (f:Fr B H σ γ H1 p r):SE K mg E H0 B H1 p r R D:=
 ⟨λg h H' o n l=>e.nx g h H' o n (f.trans l),e.rt,λg h c H' o n l=>e.ex g h c H' o n (f.trans l),λg h H' o n l=>e.bk g h H' o n (f.trans l),λg h H' o n l=>e.ct g h H' o n (f.trans l),λg h d v H' o n l=>e.rv g h d v H' o n (f.trans l)⟩
variable {te:TE}{a:PTE}{tt:TT}{c:PTT}{t u:TS}{p q:PTS}
noncomputable def MD:PTS:=λR γ=>R.nx γ
def Aw:UJ K mg E DZ MD:=λ_ _ _ _ _ _ _ _ f h e=>e.nx _ _ _ h f Fr.refl
noncomputable def G2(p q:PTS):PTS:=λR γ=>p {R with nx:=q R} γ
def Zg9(o:UJ K mg E t p)(hq:UJ K mg E u q):UJ K mg E (LA t u) (G2 p q):=by
 intro H0 B H σ γ R D n l h e;refine o H0 B H σ γ _ _ n l h ⟨λf g H' r s f1=>?_,e.rt,e.ex,e.bk,e.ct,e.rv⟩;exact hq H0 B H' f g R D n s r (e.from f1)
structure DQ (p q:PTS) (R:P4) (γ:Γ):Prop where
 w:∃J:Γ->Prop,p {R with nx:=J} γ/\∀γ',J γ'->q R γ'
noncomputable def Er(p q:PTS):PTS:=λR γ=>DQ p q R γ
def Zc7(s:UJ K mg E t p)(hq:UJ K mg E u q):UJ K mg E (E1 t u) (Er p q):=by
 intro H0 B H σ γ R D r n h e;obtain⟨J,h,k⟩:=h.w;refine⟨λg H'=>∃f,J f/\U9 K H0 B H' g f/\Fr B H σ γ H' g f,s H0 B H σ γ _ _ r n h ⟨λg f H' l o f1=>⟨f,l,o,f1⟩,e.rt,e.ex,e.bk,e.ct,e.rv⟩,?_⟩;rintro g H' ⟨f,l,o,f1⟩;exact hq H0 B H' g f R D r o (k f l) (e.from f1)
noncomputable def Iq(i:Nat)(p:PTS):PTS:=λR γ=>p R (frz i γ)
def Zdp(i:Nat)(l:UJ K mg E t p):UJ K mg E t (Iq i p):=by
 intro H0 B H σ γ R D g f h e;obtain⟨n,f1⟩:=f.frz g i;exact l H0 B H σ _ R D g n h (e.from f1)
noncomputable def Fu(a:PTE)(g:PTG):PTS:=λR γ=>a γ (λs=>g s γ R.nx) (R.ex γ)
def Th(z:U5 K mg E te a)(x:P6 K M g w):UJ K mg E (PV te g) (Fu a w):=by
 intro H0 B H σ γ R D N f h e;refine z H0 B H σ γ _ _ _ f h (λs v H1 C L r=>?_) λc H' y o=>e.ex σ γ c H' y (f.grow o) (Fr.grow o);exact x H0 B H H1 σ γ s v _ _ f L r C λl n A J G _=>e.nx l n H1 A J G
noncomputable def Fb(i:Nat)(f:Int->Int->Int)(a:PTE):PTS:=λR γ=>match γ[i]? with
 |some (some<|.sh<|.int x)=>a γ (λy=>match y.d with | .int j=>R.nx (γ.set i<|some<|.sh<|.int<|f x j)|_=>False) (R.ex γ)
 |_=>False
def Zac(A:U5 K mg E te a):UJ K mg E (IU i te<|ipI f) (Fb i f a):=by
 intro H0 B H σ γ R D M g h e;unfold Fb at h;split at h
 ·rename_i x hx;obtain⟨v,G,C⟩:=g.slot i _ hx;refine⟨v,G,A H0 B H σ γ _ _ _ g h (λy u H1 n o w=>?_) λc H' z r=>e.ex σ γ c H' z (g.grow r) (Fr.grow r)⟩;have l:=w.rp (g.grow o).same;split at n
  ·rename_i j J;rw[J]at l;refine⟨x,j,Rp.int_inv C,l.int_inv,?_⟩;obtain⟨L,f1⟩:=g.set (s:=.sh (.int<|f x j)) o (.int _) rfl;exact e.nx _ _ H1 n L f1
  ·grind
 ·grind
noncomputable def MB(a:PTE):PTS:=λR γ=>a γ R.rt (R.ex γ)
def Fk(o:U5 K mg E te a):UJ K mg E (Ng te) (MB a):=by
 intro H0 B H σ γ R D x f h e;refine o H0 B H σ γ _ _ _ f h (λs v H1 r w l=>?_) λc H' n g=>e.ex σ γ c H' n (f.grow g) (Fr.grow g);exact e.rt s v H1 r (f.same.trans w) (TV.weak f.same (λb z=>.inl z) l)
noncomputable def Ax(i:Nat):PTS:=λR γ=>match γ[i]? with|some (some s)=>R.rt s|_=>False
def Zm3(i:Nat):UJ K mg E (Ng<|X6 i) (Ax i):=by
 intro H0 B H σ γ R D C f h e;unfold Ax at h;split at h
 ·rename_i s n;obtain⟨v,o,g⟩:=f.slot i _ n;refine⟨v,o,e.rt s v H h f.same ?_⟩;cases s with
  |bor d=>exact g
  |sh d=>exact Rp.mono (UF (Same.refl _) λb _ _ z y=>z (.inl y)) g
  |own r=>
   obtain⟨l,rfl,A,x⟩:=g;exact⟨l,rfl,A,x.mono (UF (Same.refl _) λb _ _ z y=>z (y.elim .inl λw=>.inr ⟨i,r,l,n,o,w⟩)) λ_ _ _ q=>q⟩
  |view r=>exact g.elim
  |tmp d=>trivial
 ·grind
noncomputable def Lg(c:PTT)(p q:PTS):PTS:=λR γ=>c γ (λb=>if b=true then p R γ else q R γ) (R.ex γ)
def Ri(l:XG K mg E tt c)(v:UJ K mg E t p)(hq:UJ K mg E u q):UJ K mg E (Ay tt t u) (Lg c p q):=by
 intro H0 B H σ γ R D r f h e;refine l H0 B H σ γ _ _ _ f h (λb H1 o g=>?_) λc H' l s=>e.ex σ γ c H' l (f.grow s) (Fr.grow s);split at o
 ·rename_i n;rw[W3 n];exact v H0 B H1 σ γ R D r (f.grow g) o (e.from<|Fr.grow g)
 ·rename_i n;rw[W2 n];exact hq H0 B H1 σ γ R D r (f.grow g) o (e.from<|Fr.grow g)
noncomputable def He(a:PTE):PTS:=λR γ=>a γ (λ_=>R.nx γ) (R.ex γ)
def TY(o:U5 K mg E te a):UJ K mg E (Sd te) (He a):=by
 intro H0 B H σ γ R D x f h e;exact o H0 B H σ γ _ _ _ f h (λs v H1 r g w=>e.nx σ γ H1 r (f.grow g) (Fr.grow g)) λc H' n l=>e.ex σ γ c H' n (f.grow l) (Fr.grow l)
noncomputable def Zlt:PTS:=λ_ _=>False
def Oo:UJ K mg E Iy Zlt:=λ_ _ _ _ _ _ _ _ _ h _=>h
noncomputable def EW(x:Str)(r:PTA):PTS:=λR γ=>r γ (λf=>f.length<=1000/\R.ex γ x) (R.ex γ)
def TVs.len:∀{ss}{vs:List V},TVs K Z H0 H H' ss vs->vs.length=ss.length:=by
 intro ss
 induction ss with
 |nil=>
  intro _ h;cases h
  rfl
 |cons _ _ f=>
  intro _ h;cases h with
  |cons h r=>
   exact Qk (· + 1) (f r)
def Rc{l r g}(w:US K mg (λ_=>g) l r)(hx:autoParam (SC x=none) au_0):UJ K mg (λ_=>g) (ExcR.GS (ExcR.UC mg x) g l) (EW x r):=by
 intro H0 B H σ γ R D C f h e;refine w H0 B H σ γ _ _ _ f h (λA z H1 n o v=>⟨?_,?_⟩) λc H' y s=>e.ex σ γ c H' y (f.grow s) (Fr.grow s)
 ·rw[v.len];exact Ff n.1
 ·exact(e.ex σ γ x H1 n.2 (f.grow o)<|Fr.grow o).plain hx
def Znc(i j:Nat)(γ:Γ)(R:Γ->Prop):List S->Prop
 |[.sh d,.sh e]=>R ((γ.set i<|some<|.sh d).set j (some<|.sh e))
 |_=>False
noncomputable def clr:ZX->Γ->Γ
 |[],γ=>γ
 |i::r,γ=>clr r (γ.set i none)
theorem U9.clr:∀f {γ:Γ},U9 K H0 B H σ γ->U9 K H0 B H σ (clr f γ)/\Fr B H σ γ H σ (Pu.clr f γ)
 |[],_,e=>⟨e,Fr.refl⟩
 |i::r,γ,e=>by
  obtain⟨l,f1⟩:=e.drop i;obtain⟨h,g⟩:=U9.clr r l;exact⟨h,f1.trans g⟩
def Later(H0:Hp)(Z:Addr->Prop)(H1:Hp)(Z':Addr->Prop)(H':Hp):Prop:=Same H0 H'/\(∀b,Z' b->Mut (H' b))/\∀b o,H1 b=some o->¬Z b->H' b=some o/\¬Z' b
def Later.of (e:U9 K H0 B H' g h) (f:Fr B H1 σ γ H' g h):Later H0 (zof B γ σ) H1 (zof B h g) H':=⟨e.same,e.zm,f⟩
def Later.off (l:Later H0 Z H1 Z' H'):Same (off Z H1) (Pu.off Z' H'):=λb o h=>by
 obtain⟨r,n⟩:=Ku h;obtain⟨g,f⟩:=l.2.2 b o r n;exact Xe g f
structure GN (K:ZQ) (H0:Hp) (B:Addr->Prop) (H1:Hp) (σ:L2.St) (γ:Γ) (J:It) (n:Nat) (item:Nat->S):Prop where
 go:∀(i:Nat) (H':Hp) (Z':Addr->Prop),i<n->Later H0 (zof B γ σ) H1 Z' H'->J.go i H'/\∀x H'',J.yld i H' x H''->Same H' H''/\TV K Z' H0 H' H'' (item i) x
 stop:∀(H':Hp) (Z':Addr->Prop),Later H0 (zof B γ σ) H1 Z' H'->J.stop n H'
abbrev PTI:=Γ->(Nat->(Nat->S)->Prop)->XR->Prop
def SndI(K:ZQ)(mg:ZU)(E:L2.St->XK)(f:TI)(g:PTI):Prop:=∀(H0:Hp) (B:Addr->Prop) (H:Hp) (σ:L2.St) (γ:Γ) (R:Nat->(Nat->S)->Prop) (X:XR) (Q:It->Hp->Prop),U9 K H0 B H σ γ->g γ R X->
 (∀n item J H1,R n item->Same H H1->GN K H0 B H1 σ γ J n item->Q J H1)->(∀c H',X c->Same H H'->XE mg (E σ) c H')->f σ H Q
structure Ac (js:ZX) (γ:Γ) (g:PTG) (body:PTS) (R:P4) (n:Nat) (item:Nat->S):Prop where
 w:∃inv:Nat->Γ->Prop,inv 0 (clr js γ)/\
 (∀i γ',i<n->inv i γ'->g (item i) γ' λγ2=>body {R with nx:=λγ3=>inv (i+1) (clr js γ3),ct:=λγ3=>inv (i+1) (clr js γ3),bk:=R.nx} γ2)/\∀γ',inv n γ'->R.nx γ'
noncomputable def HE(f:ZX)(h:PTI)(g:PTG)(body:PTS):PTS:=λR γ=>h γ (λn item=>Ac f γ g body R n item) (R.ex γ)
def Zbp{wi g it pg}(M:ZX)(hi:SndI K mg E wi it)(hg:P6 K is g pg)(hb:UJ K mg E t p):UJ K mg E (ML wi g t) (HE M it pg p):=by
 intro H0 B H σ γ R D hB Q h e;refine hi H0 B H σ γ _ _ _ Q h (λn item J H1 h1 S1 ok=>?_) λc H' hc S'=>e.ex σ γ c H' hc (Q.grow S') (Fr.grow S');obtain⟨Y,h0,hs,hd⟩:=h1.w;have L:=Q.grow S1;refine⟨λi m z H'=>m=n-i/\i<=n/\∃f,Y i f/\U9 K H0 B H' z f/\Fr B H1 σ γ H' z f,⟨n,by simp,QB _,_,h0,(L.clr M).1,(L.clr M).2⟩,?_⟩;rintro i m z H' ⟨rfl,hin,f,hi',e',f'⟩;by_cases N:i<n
 ·obtain⟨go,yl⟩:=ok.go i H' _ N (Later.of e' f');refine .inr ⟨go,λs H2=>∃r,Y (i+1) r/\U9 K H0 B H2 s r/\Fr B H1 σ γ H2 s r,λs H2 ⟨r,a1,a2,a3⟩=>⟨n-(i+1),by lia,rfl,N,r,a1,a2,a3⟩,λx U y=>?_⟩;obtain⟨S2,tv⟩:=yl x U y;refine hg H0 B H' U z f _ _ _ _ e' S2 tv (hs i f N hi') λs r q2 e2 f2 _=>?_;have fall:=f'.trans f2;refine hb H0 B U s r _ _ hB e2 q2 ⟨λl o T C A G=>?_,e.rt,λl o c T C A G=>e.ex l o c T C A ((Fr.grow S1).trans (fall.trans G)),λl o T C A G=>e.nx l o T C A ((Fr.grow S1).trans (fall.trans G)),λl o T C A G=>?_,λl o d v T C A G=>e.rv l o d v T C A ((Fr.grow S1).trans (fall.trans G))⟩
  ·exact⟨_,C,(A.clr M).1,(fall.trans G).trans (A.clr M).2⟩
  ·exact⟨_,C,(A.clr M).1,(fall.trans G).trans (A.clr M).2⟩
 ·have:i=n:=by lia
  subst this;exact .inl ⟨ok.stop H' _ (Later.of e' f'),e.nx z f H' (hd f hi') e' ((Fr.grow S1).trans f')⟩
noncomputable def S.fix:S->Bool
 | .bor _=>true | .sh _=>true | .own (.nsl _ _)=>false | .own (.vls _ _ _ _)=>false | .own _=>true|_=>false
noncomputable def pIL(a:PTE):PTI:=λγ R X=>a γ (λs=>match s.d with
 | .lst g=>s.fix=true/\R g.length λi=>s.sub (g.getD i .non)
 | .scr f=>s.fix=true/\R f.length λi=>.sh (.int<|f.getD i 0)
 |_=>False) X
def TV.last (env:U9 K H0 B H σ γ) (L:Same H H1) (f:TV K (zof B γ σ) H0 H H1 s v) (G:s.fix=true) (o:s.d=.lst ds):∃l vs,v=.ref l/\vs.length=ds.length/\
  ∀H' Z',Later H0 (zof B γ σ) H1 Z' H'->H' l=some (.lst vs)/\∀(i:Nat) d,ds[i]?=some d->∃u,vs[i]?=some u/\TV K Z' H0 H' H' (s.sub d) u:=by
 have g:∀{s:S},(∀d,s.sub d=.sh d)->Rp K (Pu.off (zof B γ σ) H1) (.lst ds) v->∃l vs,v=.ref l/\vs.length=ds.length/\
   ∀H' Z',Later H0 (zof B γ σ) H1 Z' H'->H' l=some (.lst vs)/\∀i d,ds[i]?=some d->∃u,vs[i]?=some u/\TV K Z' H0 H' H' (s.sub d) u:=λM h=>by
  obtain⟨l,vs,rfl,z,n⟩:=Rp.lst_inv h;refine⟨l,vs,rfl,n.len,λH' Z' lt=>⟨off_sub _ _ (lt.off _ _ z),λi d r=>?_⟩⟩;obtain⟨u,y,w⟩:=n.get r;refine⟨u,y,?_⟩;rw[M];exact Rp.mono lt.off w
 cases s with
 |bor d=>
  have f:=Rp.strip f;rw[show d.strip=.lst ds from o]at f
  obtain⟨l,vs,rfl,z,n⟩:=Rp.lst_inv f;refine⟨l,vs,rfl,n.len,λH' Z' lt=>⟨lt.1 _ _ z,λi d r=>?_⟩⟩;obtain⟨u,y,w⟩:=n.get r;exact⟨u,y,Tv lt.2.1 lt.1 w⟩
 |sh d=>
  have:=o
  subst this;exact g (λ_=>rfl) f
 |own A=>
  cases A with
  |dK A|dT A|ins x C xs J|nst J=>cases o
  |nsl a J|vls a C xs N=>cases G
  |_=>
   cases o
   exact g (λ_=>rfl) (f.shd (env.grow L).same env.zm L rfl)
 |_=>cases G
def Zih(ha:U5 K mg E te a):SndI K mg E (Ny K te) (pIL a):=by
 intro H0 B H σ γ R X Q n h q qx;refine ha H0 B H σ γ _ X _ n h (λs v H1 r M o=>?_) qx;have f:=n.grow M;split at r
 ·rename_i Y C;obtain⟨l,G,rfl,hn,g⟩:=o.last n M r.1 C;obtain⟨N,_⟩:=g H1 _ (Later.of f Fr.refl);refine⟨l,rfl,⟨G,SqL.of N⟩,q _ _ _ H1 r.2 M ⟨λi H' Z' L lt=>?_,λH' Z' lt=>?_⟩⟩
  ·obtain⟨w,k2⟩:=g H' Z' lt;have hd:Y[i]?=some (Y.getD i .non):=by rw[WA,Wv L];rfl
   obtain⟨u,z,tu⟩:=k2 i _ hd;refine⟨⟨G,u,SqL.of w,z⟩,λx T y=>?_⟩;obtain⟨rfl,y⟩:=y
   have:=y G (SqL.of w)
   rw[z]at this;cases this
   exact⟨Same.refl _,tu⟩
  ·exact⟨G,SqL.of (g H' Z' lt).1,by lia⟩
 ·rename_i J C
  have A:∃l,v=.ref l/\∀H' Z',Later H0 (zof B γ σ) H1 Z' H'->SqL K H' l (J.map V.int):=by
   cases s with
   |bor d=>
    have o:=Rp.strip o;rw[show d.strip=.scr J from C]at o
    cases o with
    |scr A=>exact⟨_,rfl,λH' Z' lt=>lt.1.seq A⟩
   |sh d=>
    have:=C
    subst this;cases o with
    |scr A=>exact⟨_,rfl,λH' Z' lt=>off_sub.seq (lt.off.seq A)⟩
   |own U|view U=>cases U<;>cases C
   |tmp d=>cases r.1
  obtain⟨l,rfl,g⟩:=A;refine⟨l,rfl,⟨_,g H1 _ (Later.of f Fr.refl)⟩,q _ _ _ H1 r.2 M ⟨λi H' Z' L lt=>?_,λH' Z' lt=>?_⟩⟩
  ·have w:=g H' Z' lt
   have z:(J.map V.int)[i]?=some (.int<|J.getD i 0):=by
    rw[W6,Wv L,WA,Wv L];rfl
   refine⟨⟨_,_,w,z⟩,λx T y=>?_⟩;obtain⟨rfl,y⟩:=y
   have:=y _ w
   rw[z]at this;cases this
   exact⟨Same.refl _,.int _⟩
  ·exact⟨_,g H' Z' lt,by rw[Wt];exact W5 _⟩
 ·exact r.elim
def fR1(R:Nat->(Nat->S)->Prop):List D->Prop
 |[.int j]=>(-(2 ^ 62)<=j/\j<2 ^ 62)/\R j.toNat λi=>.sh (.int (0+(i:Int)))
 |_=>False
def fR2(R:Nat->(Nat->S)->Prop):List D->Prop
 |[.int i,.int j]=>(-(2 ^ 62)<=i/\i<2 ^ 62/\-(2 ^ 62)<=j/\j<2 ^ 62)/\R (j-i).toNat λk=>.sh (.int (i+(k:Int)))
 |_=>False
noncomputable def HN(r:PTA):PTI:=λγ R X=>r γ (λf=>fR1 R (f.map S.d)) X
noncomputable def Ii(r:PTA):PTI:=λγ R X=>r γ (λf=>fR2 R (f.map S.d)) X
def Rps.one_inv (h:Rps K H [d] vs):∃v,vs=[v]/\Rp K H d v:=by
 cases h with
 |cons h r=>cases r;exact⟨_,rfl,h⟩
def Rps.two_inv (h:Rps K H [d,e] vs):∃v u,vs=[v,u]/\Rp K H d v/\Rp K H e u:=by
 cases h with
 |cons h r=>cases r with|cons f r=>cases r;exact⟨_,_,rfl,h,f⟩
def LF{lo n}:GN K H0 B H1 σ γ (Itr lo n) n λi=>.sh (.int (lo+(i:Int))):=by
 refine⟨λi H' Z' f lt=>⟨f,λx g y=>?_⟩,λH' Z' lt=>W5 _⟩;obtain⟨e,y⟩:=y;subst e y;exact⟨Same.refl _,.int _⟩
def OF(y:US K mg E o r):SndI K mg E (M9 o) (HN r):=by
 intro H0 B H σ γ R X Q g h q x;refine y H0 B H σ γ _ X _ g h (λC A H1 f n s=>?_) x;have l:=s.rps (g.grow n).same;unfold fR1 at f;split at f
 ·rename_i j z;rw[z]at l;obtain⟨v,rfl,w⟩:=l.one_inv;rw[w.int_inv];exact⟨j,rfl,f.1.1,f.1.2,q _ _ _ H1 f.2 n LF⟩
 ·grind
def Zat(z:US K mg E o r):SndI K mg E (Lv o) (Ii r):=by
 intro H0 B H σ γ R X Q f h q y;refine z H0 B H σ γ _ X _ f h (λG C H1 g n s=>?_) y;have l:=s.rps (f.grow n).same;unfold fR2 at g;split at g
 ·rename_i i j A;rw[A]at l;obtain⟨v,u,rfl,x,w⟩:=l.two_inv;rw[x.int_inv,w.int_inv];exact⟨i,j,rfl,g.1,q _ _ _ H1 g.2 n LF⟩
 ·grind
structure G4 (js:ZX) (γ:Γ) (c:PTT) (body:PTS) (R:P4):Prop where
 w:∃(inv:Γ->Prop) (μ:Γ->Nat),inv (clr js γ)/\∀γ',inv γ'->c γ' (λb=>if b=true then
  body {R with nx:=λγ3=>inv (clr js γ3)/\μ (clr js γ3)<μ γ',ct:=λγ3=>inv (clr js γ3)/\μ (clr js γ3)<μ γ',bk:=R.nx} γ' else R.nx γ') (R.ex γ')
noncomputable def My(f:ZX)(c:PTT)(body:PTS):PTS:=λR γ=>G4 f γ c body R
def Zh7(z:ZX)(L:XG K mg E tt c)(hb:UJ K mg E t p):UJ K mg E (Gj tt t) (My z c p):=by
 intro H0 B H σ γ R D hB G h e;obtain⟨C,J,h0,hs⟩:=h.w;refine⟨λm l H'=>∃f,m=J f/\C f/\U9 K H0 B H' l f/\Fr B H σ γ H' l f,⟨_,_,rfl,h0,(G.clr z).1,(G.clr z).2⟩,?_⟩;rintro m l H' ⟨f,rfl,hi,M,U⟩;refine L H0 B H' l f _ _ _ M (hs f hi) (λb H1 T S1=>?_) λc Q L S'=>e.ex l f c Q L (M.grow S') (U.trans<|Fr.grow S');have Y:=M.grow S1;have f1:=U.trans (Fr.grow S1);cases b with
 |false=>
  exact e.nx l f H1 T Y f1
 |true=>
  refine⟨λy N=>∃o,J o<J f/\C o/\U9 K H0 B N y o/\Fr B H σ γ N y o,λy N ⟨o,k,a1,a2,a3⟩=>⟨_,k,o,rfl,a1,a2,a3⟩,?_⟩;refine hb H0 B H1 l f _ _ hB Y T ⟨λg n A r s x=>?_,e.rt,λg n c A r s x=>e.ex g n c A r s (f1.trans x),λg n A r s x=>e.nx g n A r s (f1.trans x),λg n A r s x=>?_,λg n d v A r s x=>e.rv g n d v A r s (f1.trans x)⟩
  ·exact⟨_,r.2,r.1,(s.clr z).1,(f1.trans x).trans (s.clr z).2⟩
  ·exact⟨_,r.2,r.1,(s.clr z).1,(f1.trans x).trans (s.clr z).2⟩
end
section
variable {K:ZQ}{mg:ZU}{E:L2.St->XK}{H0 H H1 H':Hp}{B Z Z':Addr->Prop}{σ:L2.St}{γ:Γ}
noncomputable def KG(N:ZZ)(ds:List D):Γ:=ds.map (λd=>some (arg d))++List.replicate (N.length-ds.length) none
def Zgy{ds vs}(r:Rps K H ds vs)(x:ds.length<=N.length):U9 K H (λb=>Mut (H b)) H (start N vs) (KG N ds):=by
 have get:∀i s,(KG N ds)[i]?=some (some s)->∃d,ds[i]?=some d/\s=arg d:=λi s h=>by
  unfold KG at h;by_cases g:i<ds.length
  ·rw[Qb (by rw[Wt];exact g),W6,Wv g]at h;exact⟨_,Wv g,(WB<|WB h).symm⟩
  ·rw[Qh (by rw[Wt];lia),Vm]at h;split at h<;>cases h
 have noown:∀(i:Nat) f,(KG N ds)[i]?≠some (some<|.own f):=λi f h=>by
  obtain⟨d,_,e⟩:=get i _ h;rcases Fp d with q|q<;>rw[q]at e<;>cases e
 refine⟨Same.refl _,?_,λb h=>h,λi j a y f w b h=>absurd h (noown i f),λi s h=>?_⟩
 ·unfold L2.start KG;simp[r.len]
 ·obtain⟨d,u,rfl⟩:=get i s h;obtain⟨v,n,o⟩:=r.get u;refine⟨v,?_,?_⟩
  ·unfold L2.start;rw[Qb (by rw[Wt];exact(WH.mp n).1),W6,n];rfl
  ·have l:=Tv (Z:=zof (λb=>Mut (H b)) (KG N ds) (start N vs)) (H:=H) (λb z=>z.elim id λ⟨k,f,_,p,_⟩=>absurd p (noown k f)) (Same.refl _) o;rcases Fp d with q|q<;>rw[q]at l ⊢<;>exact l
def Zee{t p vs Q y n}(h:UA mg c K vs H Q y)(o:UJ K mg (λ_=>y) t p)(L:n<=N.length)(u:∀ds R X,c ds R X->ds.length=n/\p {nx:=λ_=>R (.sh .non),rt:=R,ex:=λ_ e=>X e} (KG N ds)):t {nx:=λ_ H'=>Q .non H',rt:=Q} (start N vs) H:=by
 obtain⟨ds,R,X,r,C,x,G⟩:=h;obtain⟨e,u⟩:=u ds R X C;refine o H (λb=>Mut (H b)) H _ _ _ _ (λb z=>Kr z) (Zgy r<|by lia) u ⟨λg l H' f w f1=>x _ _ H' f w.same .non,λs v H' f J A=>x s v H' f J A,λg l c H' f w f1=>G c H' f w.same,λ_ _ _ z=>z.elim,λ_ _ _ z=>z.elim,λ_ _ _ _ _ z=>z.elim⟩
def Zkw(h:UA mg c K vs H Q l)(f:∀ds R X,c ds R X->ds.length=n):vs.length=n:=by
 obtain⟨ds,R,X,r,g,_⟩:=h;rw[r.len]
 grind
noncomputable def atP(φ:ZW)(γ:Γ):Γ:=φ.map λo=>o.bind λj=>(γ[j]?).join
structure Nz (φ:ZW) (γ:Γ) (g:PTG) (c:PTT) (e:PTE) (n:Nat) (item:Nat->S) (R:S->Prop):Prop where
 w:n<=100000/\∃f:Nat->Option D,(∀i,i<n->g (item i) (atP φ γ) λγ2=>c γ2 (λb=>if b=true then e γ2 (λs=>∃d,s.shd=some d/\f i=some d) (λ_=>False)else f i=none) (λ_=>False))/\R (.own ((List.range n).filterMap f))
noncomputable def De(φ:ZW)(f:PTI)(g:PTG)(c:PTT)(e:PTE):PTE:=λγ R X=>f γ (λn item=>Nz φ γ g c e n item R) X
def BM{i:Nat}{s}(h:(atP φ γ)[i]?=some (some s)):∃j,φ[i]?=some (some j)/\γ[j]?=some (some s):=by
 unfold atP at h;cases e:φ[i]? with
 |none=>grind
 |some o=>
  cases o with
  |_=>grind
theorem Dm:∀{φ:ZW},(φ.filterMap id).Nodup->∀(i j k:Nat),φ[i]?=some (some k)->φ[j]?=some (some k)->i=j
 |[],_,i,_,_,h,_=>by simp at h
 |none::r,n,i,j,k,g,f=>by
  cases i with
  |zero=>simp at g
  |succ i=>
   cases j with
   |zero=>simp at f
   |succ j=>exact Qk (· + 1) (Dm (by simpa using n) i j k (by simpa using g)<|by simpa using f)
 |some m::r,n,i,j,k,g,f=>by
  have l:m∉r.filterMap id/\(r.filterMap id).Nodup:=by simpa using n
  have o:∀{j:Nat},r[j]?=some (some k)->k∈r.filterMap id:=λh=>Jl.mpr ⟨some k,W4 h,rfl⟩;cases i with
  |zero=>
   cases j with
   |zero=>rfl
   |succ j=>simp_all
  |succ i=>
   cases j with
   |zero=>simp_all
   |succ j=>exact Qk (· + 1) (Dm l.2 i j k (by simpa using g)<|by simpa using f)
def SM{i j:Nat}(g:φ[i]?=some (some j)){v}(f:σ[j]?=some (some v)):(atStart φ σ)[i]?=some (some v):=by
 unfold atStart
 grind
def HX{L}(env:U9 K H0 B H σ γ)(s:H L=none):∀b o,H b=some o->¬zof B γ σ b->¬zof (λb=>zof B γ σ b\/b=L) (atP φ γ) (atStart φ σ) b:=λb o v z y=>by
 rcases y with(y|y)|⟨u,r,x,n,f,l⟩
 ·grind
 ·grind
 ·obtain⟨m,p,h⟩:=BM n;obtain⟨w,g,_⟩:=env.slot m _ h;rw[SM p g]at f;exact z (.inr ⟨m,r,x,h,by rw[g];exact Qk some (WB f),l⟩)
def Zf4{L}(env:U9 K H0 B H σ γ)(n:Same H H')(M:H L=none)(N:∃ys,H' L=some (.lst ys))(r:(φ.filterMap id).Nodup) :
  U9 K H0 (λb=>zof B γ σ b\/b=L) H' (atStart φ σ) (atP φ γ):=by
 refine⟨env.same.trans n,by unfold atStart atP;simp,λb z=>?_,λi j a a' G es b h1 Y U C T Q=>?_,λi s h=>?_⟩
 ·rcases z with z|rfl
  ·exact KQ n (env.zm b z)
  ·obtain⟨ys,e⟩:=N;rw[e];trivial
 ·obtain⟨k,g,f⟩:=BM h1;obtain⟨l,A,y⟩:=BM Y;obtain⟨v,p,_⟩:=env.slot k _ f;obtain⟨u,w,_⟩:=env.slot l _ y;rw[SM g p]at U;rw[SM A w]at C
  have:=env.own k l a a' G es b f y (by grind) (by rw[w];exact Qk some (WB C)) T Q
  subst this;exact Dm r i j k g A
 ·obtain⟨k,g,f⟩:=BM h;obtain⟨v,p,o⟩:=env.slot k _ f;have J:Same (off (zof B γ σ) H) (off (zof (λb=>zof B γ σ b\/b=L) (atP φ γ)<|atStart φ σ) H'):=UF n (HX env M);refine⟨v,SM g p,?_⟩;cases s with
  |sh d=>exact Rp.mono J o
  |own G=>
   obtain⟨a,e1,e3,e4⟩:=o;exact⟨a,e1,e3,e4.mono J λb _ x=>n b x⟩
  |_=>exact o
def Sub.of {g:ZX} (h:f.length=σ.length) (n:∀j,j∉g->f[j]?=σ[j]?) (o:∀j∈g,∀v,σ[j]?≠some (some v)):Sub σ f:=⟨h,λi v e=>by
 by_cases l:i∈g
 ·grind
 ·rw[n i l];exact e⟩
structure Zk9 (K:ZQ) (H0:Hp) (B:Addr->Prop) (H1:Hp) (σ:L2.St) (γ:Γ) (J:It) (n:Nat) (item:Nat->S):Prop where
 go:∀(i:Nat) (H':Hp) (Z':Addr->Prop),i<n->Same H1 H'->Later H0 (zof B γ σ) H1 Z' H'->J.go i H'/\∀x H'',J.yld i H' x H''->Same H' H''/\TV K Z' H0 H' H'' (item i) x
 stop:∀(H':Hp) (Z':Addr->Prop),Same H1 H'->Later H0 (zof B γ σ) H1 Z' H'->J.stop n H'
def TK(K:ZQ)(mg:ZU)(E:L2.St->XK)(f:TI)(g:PTI):Prop:=∀(H0:Hp) (B:Addr->Prop) (H:Hp) (σ:L2.St) (γ:Γ) (R:Nat->(Nat->S)->Prop) (X:XR) (Q:It->Hp->Prop),U9 K H0 B H σ γ->g γ R X->
 (∀n item J H1,R n item->Same H H1->Zk9 K H0 B H1 σ γ J n item->Q J H1)->(∀c H',X c->Same H H'->XE mg (E σ) c H')->f σ H Q
def SndI.c (h:SndI K mg E g o):TK K mg E g o:=λH0 B H σ γ R X Q f p q l=>
 h H0 B H σ γ R X Q f p (λn item J H1 s u ok=>q n item J H1 s u ⟨λi H' Z' r _ lt=>ok.go i H' Z' r lt,λH' Z' _ lt=>ok.stop H' Z' lt⟩) l
noncomputable def L4(a:PTE):PTI:=λγ R X=>a γ (λs=>match s.d with
 | .lst f=>R f.length λi=>s.sub (f.getD i .non)
 | .tup f=>False
 | .scr g=>R g.length λi=>.sh (.int<|g.getD i 0)
 |_=>False) X
def Nl(ha:U5 K mg E te a):TK K mg E (Ny K te) (L4 a):=by
 intro H0 B H σ γ R X Q env h q qx;refine ha H0 B H σ γ _ X _ env h (λs v H1 h1 S1 A=>?_) qx;have M:=env.grow S1;split at h1
 ·rename_i ds G;have Y:=A.rp M.same;rw[G]at Y;obtain⟨l,U,rfl,f,r1⟩:=Y.lst_inv;refine⟨l,rfl,⟨U,SqL.of f⟩,q _ _ _ H1 h1 S1 ⟨λi H' Z' hi J lt=>?_,λH' Z' J lt=>⟨U,SqL.of (J _ _ f),by rw[r1.len];exact W5 _⟩⟩⟩;have N:ds[i]?=some (ds.getD i .non):=by rw[WA,Wv hi];rfl
  have hi':∃u,U[i]?=some u/\TV K Z' H0 H' H' (s.sub<|ds.getD i .non) u:=by
   cases s with
   |bor d=>
    have A:=Rp.strip A;rw[show d.strip=.lst ds from G]at A
    obtain⟨T,o,w,r,p⟩:=Rp.lst_inv A;cases w
    rw[M.same _ _ r]at f;cases f
    obtain⟨u,n,g⟩:=p.get N;exact⟨u,n,Tv lt.2.1 lt.1 g⟩
   |sh d=>
    have:=G
    subst this;obtain⟨T,o,w,r,p⟩:=Rp.lst_inv A;cases w
    rw[off_sub _ _ r]at f;cases f
    obtain⟨u,n,g⟩:=p.get N;exact⟨u,n,Rp.mono lt.off g⟩
   |own L=>
    cases L with
    |dK L|dT L|ins x C xs cs|nst cs=>cases G
    |nsl x cs|vls x C xs ws=>
     obtain⟨u,n,g⟩:=r1.get N;exact⟨u,n,K5 lt.2.1 (Rp.mono J g)⟩
    |lsA x L=>
     cases G
     obtain⟨T,w,h0,_,o,r,p⟩:=A;cases w
     rw[r]at f;cases f
     obtain⟨u,n,g⟩:=p.get N;exact⟨u,n,Rp.mono lt.off (Rp.mono (UF (Same.refl _) λb _ _ z y=>z (.inl y)) g)⟩
    |lst L=>
    cases G
    obtain⟨T,w,h0,o,r,p⟩:=A;cases w
    rw[r]at f;cases f
    obtain⟨u,n,g⟩:=p.get N;exact⟨u,n,Rp.mono lt.off (Rp.mono (UF (Same.refl _) λb _ _ z y=>z (.inl y)) g)⟩
   |view L=>
    cases L with
    |dK L|dT L|ins x C xs cs|nst cs=>cases G
    |nsl x cs|vls x C xs ws=>
     obtain⟨u,n,g⟩:=r1.get N;exact⟨u,n,K5 lt.2.1 (Rp.mono J g)⟩
    |lsA x L=>
     cases G
     obtain⟨T,w,_,o,r,p⟩:=A;cases w
     rw[r]at f;cases f
     obtain⟨u,n,g⟩:=p.get N;exact⟨u,n,Rp.mono lt.off g⟩
    |lst L=>
    cases G
    obtain⟨T,w,o,r,p⟩:=A;cases w
    rw[r]at f;cases f
    obtain⟨u,n,g⟩:=p.get N;exact⟨u,n,Rp.mono lt.off g⟩
   |tmp d=>
    have:=G
    subst this;obtain⟨T,o,w,r,p⟩:=Rp.lst_inv A;cases w
    rw[r]at f;cases f
    obtain⟨u,n,g⟩:=p.get N;exact⟨u,n,K5 lt.2.1 (Rp.mono J g)⟩
  obtain⟨u,hu,tu⟩:=hi';refine⟨⟨U,u,SqL.of (J _ _ f),hu⟩,λx H'' y=>?_⟩;obtain⟨rfl,y⟩:=y
  have:=y U (SqL.of<|J _ _ f)
  rw[hu]at this;cases this
  exact⟨Same.refl _,tu⟩
 ·exact h1.elim
 ·rename_i ns G;have Y:=A.rp M.same;rw[G]at Y;cases Y with
  |scr hs=>
   refine⟨_,rfl,⟨_,hs⟩,q _ _ _ H1 h1 S1 ⟨λi H' Z' hi J lt=>?_,λH' Z' J lt=>⟨_,J.seq hs,by rw[Wt];exact W5 _⟩⟩⟩
   have hu:(ns.map V.int)[i]?=some (.int<|ns.getD i 0):=by
    rw[W6,Wv hi,WA,Wv hi];rfl
   refine⟨⟨_,_,J.seq hs,hu⟩,λx H'' y=>?_⟩;obtain⟨rfl,y⟩:=y
   have:=y _ (J.seq hs)
   rw[hu]at this;cases this
   exact⟨Same.refl _,.int _⟩
 ·exact h1.elim
def Pa{φ is wi g tc te it pg c a}(hi:TK K mg E wi it)(hg:P6 K is g pg)(hc:XG K mg E tc c)(he:U5 K mg E te a)(h1:autoParam ((φ.filterMap id).Nodup) au_1)(h2:autoParam (∀j∈is,φ[j]?=some none) au_1):U5 K mg E (N8 φ wi g tc te) (De φ it pg c a):=by
 intro H0 B H σ γ R X Q env h q qx;refine hi H0 B H σ γ _ X _ env h (λn item J H1 h1' S1 ok=>?_) qx;obtain⟨hn,f,hf,hR⟩:=h1'.w;have l:=env.grow S1;have hbig:n<=sizeLine:=W9 hn (by decide);intro L U;refine⟨λi m G C=>m=n-i/\i<=n/\Same H1 C/\C L=some (.lst G)/\Rps K (off (λb=>zof B γ σ b\/b=L) C) ((List.range i).filterMap f) G,⟨n,by simp,QB _,Xq U,UZ,.nil⟩,?_⟩;rintro i m G C ⟨rfl,hin,u,hL,p⟩;have A:=l.grow u;by_cases r:i<n
 ·have envI2:=Zf4 l u U ⟨G,hL⟩ h1;obtain⟨go,yl⟩:=ok.go i C _ r u ⟨A.same,envI2.zm,λb o Y z=>⟨u _ _ Y,HX l U b o Y z⟩⟩;refine .inr ⟨go,λx H3 y=>?_⟩;obtain⟨S3,tv⟩:=yl x H3 y;refine hg H0 _ C H3 _ _ _ _ _ _ envI2 S3 tv (hf i r) λN T p2 e2 f2 k2=>⟨?_,?_⟩
  ·refine Sub.of k2.2 k2.1 λj hj v z=>?_;obtain⟨k,k1,_⟩:=Hj z;rw[h2 j hj]at k1;cases k1
  ·refine hc H0 _ H3 N T _ _ _ e2 p2 (λb H5 q5 S5=>?_) λ_ _ z=>z.elim;have e5:=e2.grow S5;cases b with
   |false=>
    rw[W2 WN]at q5 ⊢;refine⟨n-(i+1),by lia,rfl,r,(u.trans S3).trans S5,(S3.trans S5) _ _ hL,?_⟩;rw[List.range_succ,Vw];simp only[Q4,q5,List.filterMap_nil,Qn];exact Rps.mono (UF (S3.trans S5) λ_ _ _ z=>z) p
   |true=>
    refine he H0 _ H5 N T _ _ _ e5 q5 (λs v H6 q6 S6 t6=>?_) λ_ _ z=>z.elim;obtain⟨d,hd,hfd⟩:=q6;have M:=(S3.trans S5).trans S6
    have hlen:G.length<=i:=by
     rw[p.len];exact W9 (List.length_filterMap_le _ _) (by rw[List.length_range];exact W5 _)
    refine⟨M _ _ hL,by lia,n-(i+1),by lia,rfl,r,λb o Y=>?_,UZ,?_⟩
    ·rw[UR (K6 Y U)];exact M _ _ (u _ _ Y)
    ·rw[List.range_succ,Vw];have ef:[i].filterMap f=[d]:=by simp[hfd]
     rw[ef]
     have So:Same (off (λb=>zof B γ σ b\/b=L) H6) (off (λb=>zof B γ σ b\/b=L)<|upd H6 L<|.lst (G++[v])):=λb o h=>by
      obtain⟨a1,a2⟩:=Ku h;refine Xe ?_ a2;rwa[UR λz=>a2 (.inr z)]
     refine Rps.append (Rps.mono So<|Rps.mono (UF M λ_ _ _ z=>z) p) (.cons (Rp.mono So<|Rp.mono (UF (Same.refl _) λb _ _ z y=>z (.inl y)) (t6.shd (e5.grow S6).same e5.zm S6 hd)) .nil)
 ·have:i=n:=by lia
  subst this;exact .inl ⟨ok.stop C _ u (Later.of A<|Fr.grow u),q _ _ C hR (S1.trans u) ⟨L,rfl,(λ_ e=>e▸S1.free U),G,hL,p⟩⟩
noncomputable def IC:PTT:=λ_ R _=>R true
def T8:XG K mg E G5 IC:=λ_ _ H _ _ _ _ _ _ p q _=>q _ H p (Same.refl _)
def Zin{g h:Type}(xs:List g)(f:g->Option h):(List.range xs.length).filterMap (λi=>(xs[i]?).bind f)=xs.filterMap f:=by
 induction xs with
 |nil=>rfl
 |cons x r l=>
  rw[WM,List.range_succ_eq_map,Q4,Jp,Q4];have e:(λi=>((x::r)[i]?).bind f)∘Nat.succ=λi=>(r[i]?).bind f:=rfl;rw[e,l];rfl
end
open M
section
variable {K:ZQ}{mg:ZU}{E:L2.St->XK}{H0 H H1 H':Hp}{B Z Z':Addr->Prop}{σ:L2.St}{γ:Γ}
noncomputable def pCB(f:List S->(S->Prop)->Prop)(r:PTA):PTE:=λγ R X=>r γ (λg=>f g R) X
def KM{f o r}(A:US K mg E o r)(h:∀H0 H H1 Z l vs R Q,Same H0 H1->Same H H1->(∀b,Z b->Mut (H b))->TVs K Z H0 H H1 l vs->f l R->(∀s z H',R s->Same H1 H'->TV K Z H0 H H' s z->Q z H')->w vs H1 Q) :
  U5 K mg E (tCB w o) (pCB f r):=by
 intro H0 B H σ γ R X Q g p q x;refine A H0 B H σ γ _ X _ g p (λl vs H1 C n v=>?_) x;exact h H0 H H1 _ l vs R Q (g.grow n).same n g.zm v C λs z H' y G u=>q s z H' y (n.trans G) u
noncomputable def S.free:S->List D->Bool
 | .bor _,f=>X9 f | .tmp _,f=>X9 f | .view (.nst _),f=>X9 f | .view (.nsl _ _),f=>X9 f | .view (.vls _ _ _ _),f=>X9 f|_,_=>true
def TVs.one_inv (h:TVs K Z H0 H H' [s] vs):∃v,vs=[v]/\TV K Z H0 H H' s v:=by
 cases h with
 |cons h r=>cases r;exact⟨_,rfl,h⟩
def TVs.two_inv (h:TVs K Z H0 H H' [s,t] vs):∃v u,vs=[v,u]/\TV K Z H0 H H' s v/\TV K Z H0 H H' t u:=by
 cases h with
 |cons h r=>cases r with|cons f r=>cases r;exact⟨_,_,rfl,h,f⟩
def TV.items (n:Same H0 H') (u:∀b,Z b->Mut (H b)) (G:Same H H') (h:TV K Z H0 H H' s v) (p:s.free ds=true) :
  (s.d=.lst ds->∃a vs,v=.ref a/\H' a=some (.lst vs)/\Rps K (off Z H') ds vs)/\(s.d=.tup ds->∃a vs,v=.ref a/\H' a=some (.tup vs)/\Rps K (off Z H') ds vs):=by
 have g:=λb z=>KQ G (u b z);cases s with
 |bor d=>
  have h:=Rp.strip h;refine⟨λe=>?_,λe=>?_⟩<;>rw[show d.strip=_ from e]at h
  ·obtain⟨a,vs,rfl,f,r⟩:=Rp.lst_inv h;exact⟨a,vs,rfl,n _ _ f,Rps.off g (Rps.mono n r) p⟩
  ·obtain⟨a,vs,rfl,f,r⟩:=Rp.tup_inv h;exact⟨a,vs,rfl,n _ _ f,Rps.off g (Rps.mono n r) p⟩
 |sh d=>
  refine⟨λe=>?_,λe=>?_⟩<;>(have w:=e;subst w)
  ·obtain⟨a,vs,rfl,f,r⟩:=Rp.lst_inv h;exact⟨a,vs,rfl,off_sub _ _ f,r⟩
  ·obtain⟨a,vs,rfl,f,r⟩:=Rp.tup_inv h;exact⟨a,vs,rfl,off_sub _ _ f,r⟩
 |own o=>
  cases o with
  |nsl x A|vls x C xs J=>
   refine⟨λe=>?_,λe=>by cases e⟩;have l:=h.shd n u G rfl;cases e
   obtain⟨a,vs,rfl,f,r⟩:=Rp.lst_inv l;exact⟨a,vs,rfl,off_sub _ _ f,r⟩
  |nst A=>
   refine⟨(λe=>by cases e),λe=>?_⟩;have l:=h.shd n u G rfl;cases e
   obtain⟨a,vs,rfl,f,r⟩:=Rp.tup_inv l;exact⟨a,vs,rfl,off_sub _ _ f,r⟩
  |lst o=>
   refine⟨λe=>?_,λe=>by cases e⟩;cases e
   obtain⟨a,rfl,L,vs,e,r⟩:=h;exact⟨a,vs,rfl,e,Rps.mono (UF (Same.refl _) λb _ _ z y=>z (.inl y)) r⟩
  |lsA x o=>
   refine⟨λe=>?_,λe=>by cases e⟩;cases e
   obtain⟨a,rfl,L,_,vs,e,r⟩:=h;exact⟨a,vs,rfl,e,Rps.mono (UF (Same.refl _) λb _ _ z y=>z (.inl y)) r⟩
  |_=>exact⟨(λe=>by cases e),(λe=>by cases e)⟩
 |view o=>
  cases o with
  |nsl x A|vls x C xs J=>
   refine⟨λe=>?_,λe=>by cases e⟩;have l:=h.rp n;rw[e]at l;obtain⟨a,vs,rfl,f,r⟩:=Rp.lst_inv l;exact⟨a,vs,rfl,f,Rps.off g r p⟩
  |nst A=>
   refine⟨(λe=>by cases e),λe=>?_⟩;have l:=h.rp n;rw[e]at l;obtain⟨a,vs,rfl,f,r⟩:=Rp.tup_inv l;exact⟨a,vs,rfl,f,Rps.off g r p⟩
  |lst o=>
   refine⟨λe=>?_,λe=>by cases e⟩;cases e
   obtain⟨a,rfl,vs,e,r⟩:=h;exact⟨a,vs,rfl,e,r⟩
  |lsA x o=>
   refine⟨λe=>?_,λe=>by cases e⟩;cases e
   obtain⟨a,rfl,_,vs,e,r⟩:=h;exact⟨a,vs,rfl,e,r⟩
  |_=>exact⟨(λe=>by cases e),(λe=>by cases e)⟩
 |tmp d=>
  refine⟨λe=>?_,λe=>?_⟩<;>(have w:=e;subst w)
  ·obtain⟨a,vs,rfl,f,r⟩:=Rp.lst_inv h;exact⟨a,vs,rfl,f,Rps.off g r p⟩
  ·obtain⟨a,vs,rfl,f,r⟩:=Rp.tup_inv h;exact⟨a,vs,rfl,f,Rps.off g r p⟩
def AM:List S->(S->Prop)->Prop
 |[s],R=>(match s.d with
  | .lst g=>R (.sh<|.int g.length) | .tup g=>R (.sh<|.int g.length) | .scr f=>R (.sh<|.int f.length) | .fL f=>R (.sh<|.int f.length) | .str x=>x.length<=sizeLine/\R (.sh<|.int x.length)|_=>False)
 |_,_=>False
def B3(C:US K mg E w r):U5 K mg E (tCB (λxs H Q=>∃x n,xs=[x]/\BR K x H n/\Q (.int n) H) w) (pCB AM r):=by
 refine KM C λH0 H H1 Z L J R Q z M N u h q=>?_;unfold AM at h;split at h
 ·rename_i s;obtain⟨v,rfl,y⟩:=u.one_inv;have f:=y.rp z;split at h
  ·rename_i G e;rw[e]at f;obtain⟨a,g,rfl,p,l⟩:=f.lst_inv;exact⟨_,_,rfl,.inl ⟨g,SqL.of p,rfl⟩,by rw[l.len];exact q _ _ H1 h (Same.refl _) (.int _)⟩
  ·rename_i G e;rw[e]at f;obtain⟨a,g,rfl,p,l⟩:=f.tup_inv;exact⟨_,_,rfl,.inr ⟨g,SqT.of p,rfl⟩,by rw[l.len];exact q _ _ H1 h (Same.refl _) (.int _)⟩
  ·rename_i A e;rw[e]at f;cases f with
   |scr o=>exact⟨_,_,rfl,.inl ⟨_,o,rfl⟩,by rw[Wt];exact q _ _ H1 h (Same.refl _) (.int _)⟩
  ·rename_i A e;rw[e]at f;cases f with
   |fL o=>exact⟨_,_,rfl,.inl ⟨_,.inl (.inr ⟨_,o⟩),rfl⟩,by rw[Wt];exact q _ _ H1 h (Same.refl _) (.int _)⟩
  ·rename_i x e;rw[e]at f;rw[f.str_inv];exact⟨_,_,rfl,⟨h.1,rfl⟩,q _ _ H1 h.2 (Same.refl _) (.int _)⟩
  ·exact h.elim
 ·exact h.elim
def Le:List S->(S->Prop)->Prop
 |[s],R=>(match s.d with
  | .lst f=>s.free f=true/\R (.own f) | .tup f=>s.free f=true/\R (.own f)|_=>False)
 |_,_=>False
def TM(C:US K mg E A r):U5 K mg E (tCB (λxs H Q=>∃p ys,xs=[.ref p]/\(SqL K H p ys\/SqT K H p ys)/\∀l,H l=none->Q (.ref l) (upd H l<|.lst ys)) A) (pCB Le r):=by
 refine KM C λH0 H H1 Z L J R Q x g y z h q=>?_;unfold Le at h;split at h
 ·rename_i s;obtain⟨v,rfl,w⟩:=z.one_inv;split at h
  ·rename_i G e;obtain⟨a,n,rfl,u,o⟩:=(w.items x y g h.1).1 e;exact⟨a,n,rfl,.inl (SqL.of u),λl f=>q _ _ _ h.2 (Xq f) (PU g f o)⟩
  ·rename_i G e;obtain⟨a,n,rfl,u,o⟩:=(w.items x y g h.1).2 e;exact⟨a,n,rfl,.inr (SqT.of u),λl f=>q _ _ _ h.2 (Xq f) (PU g f o)⟩
  ·grind
 ·grind
def IE:List S->(S->Prop)->Prop
 |[s],R=>(match s.d with
  | .lst f=>s.free f=true/\R (.sh<|.tup f) | .tup f=>s.free f=true/\R (.sh<|.tup f)|_=>False)
 |_,_=>False
def E8(J:US K mg E G r):U5 K mg E (tCB (λxs H Q=>∃p ys,xs=[.ref p]/\((SqL K H p ys/\∀l,H l=none->Q (.ref l) (upd H l<|.tup ys))\/(SqT K H p ys/\Q (.ref p) H))) G) (pCB IE r):=by
 refine KM J λH0 H H1 Z N M R Q A o x C h q=>?_;have f:=λb z=>KQ o (x b z);unfold IE at h;split at h
 ·rename_i s;obtain⟨v,rfl,y⟩:=C.one_inv;split at h
  ·rename_i L e;obtain⟨a,n,rfl,g,u⟩:=(y.items A x o h.1).1 e;refine⟨a,n,rfl,.inl ⟨SqL.of g,λl w=>q _ _ _ h.2 (Xq w) (.tup (Xe UZ λz=>?_)<|Rps.mono (UF (Xq w) λ_ _ _ z=>z) u)⟩⟩
   have:=f l z
   rw[w]at this;exact this
  ·rename_i L e;obtain⟨a,n,rfl,g,u⟩:=(y.items A x o h.1).2 e;refine⟨a,n,rfl,.inr ⟨SqT.of g,q _ _ _ h.2 (Same.refl _) (.tup (Xe g λz=>?_) u)⟩⟩
   have:=f a z
   rw[g]at this;exact this
  ·grind
 ·exact h.elim
theorem Rps.ints:∀{f:ZS}{vs:List V},Rps K H (f.map D.int) vs->vs=f.map V.int
 |[],_,.nil=>rfl
 |j::r,_,.cons h t=>by rw[Rp.int_inv h,Rps.ints t];rfl
theorem Rps.of_ints:∀(f:ZS),Rps K H (f.map D.int) (f.map V.int)
 |[]=>.nil
 |j::r=>.cons (.int j) (Rps.of_ints r)
def HI:List S->(S->Prop)->Prop
 |[s],R=>∃g:ZS,s.d=.lst (g.map D.int)/\g.length<64/\∀f:ZS,f.Perm g->f.Pairwise (·<=·)->R (.own<|f.map D.int)
 |_,_=>False
def Bw{g r}(L:US K mg E g r):U5 K mg E (tCB (λxs H Q=>∃p f,xs=[.ref p]/\f.length<64/\(SqL K H p (f.map V.int)\/H p=some (T1 w p f))/\
  ∀l (ns:ZS),H l=none->ns.Perm f->ns.Pairwise (·<=·)->Q (.ref l) (upd H l<|.lst<|ns.map V.int)) g) (pCB HI r):=by
 refine KM L λH0 H H1 Z U N R Q A z Y x h q=>?_;unfold HI at h;split at h
 ·rename_i s;obtain⟨v,rfl,y⟩:=x.one_inv;obtain⟨f,e,G,k⟩:=h;have n:=y.rp A;rw[e]at n;obtain⟨a,T,rfl,u,C⟩:=n.lst_inv;rw[C.ints]at u;exact⟨a,f,rfl,G,.inl (SqL.of u),λl ns o M J=>q _ _ _ (k ns M J) (Xq o) (PU z o<|Rps.of_ints ns)⟩
 ·grind
def EE:List S->(S->Prop)->Prop
 |[s,t],R=>(match s.d,t.d with | .int i,.int j=>R (.sh<|.int (if j>i then j else i))|_,_=>False)
 |_,_=>False
def Hz(w:US K mg E o r):U5 K mg E (tCB (λxs H Q=>∃i j,xs=[.int i,.int j]/\Q (.int (if j>i then j else i)) H) o) (pCB EE r):=by
 refine KM w λH0 H H1 Z A z R Q f C G n h q=>?_;unfold EE at h;split at h
 ·obtain⟨v,u,rfl,s,p⟩:=n.two_inv;have l:=s.rp f;have g:=p.rp f;split at h
  ·rename_i i j y x;rw[y]at l;rw[x]at g;rw[l.int_inv,g.int_inv];exact⟨i,j,rfl,q _ _ H1 h (Same.refl _) (.int _)⟩
  ·grind
 ·grind
def Zm8:List S->(S->Prop)->Prop
 |[s],R=>(match s.d with | .int i=>R (.sh<|.int (if i<0 then -i else i))|_=>False)
 |_,_=>False
noncomputable def tyD:D->Option String
 | .int _=>some "int" | .bl _=>some "bool" | .non=>some "NoneType" | .str _=>some "str" | .tup _=>some "tuple" | .lst _=>some "list" | .fL _=>some "list" | .dK _=>some "dict" | .dT _=>some "dict" |_=>none
inductive XF:String->String->Bool->Prop
 |same (n:String):XF n n true
 |ib:XF "int" "bool" false
 |bi:XF "bool" "int" true
 |tl:XF "tuple" "list" false
 |lt:XF "list" "tuple" false
 |it:XF "int" "tuple" false
 |il:XF "int" "list" false
 |bt:XF "bool" "tuple" false
 |bL:XF "bool" "list" false
 |ti:XF "tuple" "int" false
 |li:XF "list" "int" false
 |si:XF "str" "int" false
 |is:XF "int" "str" false
 |ni:XF "NoneType" "int" false
 |nl:XF "NoneType" "list" false
 |nt:XF "NoneType" "tuple" false
def XF.kit (h:XF m n b):PySem.W.kitOne K (.type m) (.type n)=some b:=by
 cases h with
 |same=>exact Zbc K _
 |_=>rfl
def Hu:List S->(S->Prop)->Prop
 |[s,t],R=>(match tyD s.d,t.d with|some m,.ty n=>∃b,XF m n b/\R (.sh<|.bl b)|_,_=>False)
 |_,_=>False
def Zie(h:Rp K H d v)(e:tyD d=some m):Ki K H v (.type m):=by
 cases h with
 |int i=>cases e;exact .int i
 |bl b=>cases e;exact .bl b
 |non=>cases e;exact .non
 |str x=>cases e;exact .str x
 |tup h r=>cases e;exact .tup h
 |lst h r=>cases e;exact .lst h
 |dK h=>cases e;exact .dK h
 |dT h=>cases e;exact .dT h
 |fL h=>cases e;exact .frz h
 |_=>cases e
def P5(w:US K mg E o r):U5 K mg E (tCB (λxs H Q=>∃x n t b,xs=[x,.ty n]/\Ki K H x t/\PySem.W.kitOne K t (.type n)=some b/\Q (.bl b) H) o) (pCB Hu r):=by
 refine KM w λH0 H H1 Z G C R Q f J L l h q=>?_;unfold Hu at h;split at h
 ·obtain⟨v,u,rfl,s,p⟩:=l.two_inv;have g:=p.rp f;split at h
  ·rename_i m n A z;rw[z]at g;rw[g.ty_inv];obtain⟨b,k,y⟩:=h;exact⟨v,n,_,b,rfl,Zie (s.rp f) A,k.kit,q _ _ H1 y (Same.refl _) (.bl _)⟩
  ·grind
 ·grind
noncomputable def pBM(f:S->List S->(S->Prop)->Prop)(a:PTE)(r:PTA):PTE:=λγ R X=>a γ (λs=>(∃h,s.d=.lst h)/\r γ (λg=>f s g R) X) X
def Zjv{f te y a r}(ha:U5 K mg E te a)(U:US K mg E y r)(h:∀H0 H H1 Z s v u vs R Q,Same H0 H1->Same H H1->(∀b,Z b->Mut (H b))->TV K Z H0 H H1 s v->TVs K Z H0 H H1 u vs->f s u R->(∀s z H',R s->Same H1 H'->TV K Z H0 H H' s z->Q z H')->N v vs H1 Q) :
  U5 K mg E (tBM K "list" N te y) (pBM f a r):=by
 intro H0 B H σ γ R X Q n p q G;refine ha H0 B H σ γ _ X _ n p (λs v H1 x o A=>?_) G;have g:=n.grow o;obtain⟨⟨ds,ed⟩,x⟩:=x;have C:=A.rp g.same;rw[ed]at C;obtain⟨l,J,rfl,Y,_⟩:=C.lst_inv;refine⟨.inl ⟨rfl,J,SqL.of Y⟩,U H0 B H1 σ γ _ X _ g x (λu vs H2 h2 w M=>?_) λc H' hc S'=>G c H' hc (o.trans S')⟩;exact h H0 H H2 _ s _ u vs R Q (g.grow w).same (o.trans w) n.zm (A.grow w) (TVs.weakG o M) h2 λs z H' T S3 L=>q s z H' T ((o.trans w).trans S3) L
def EL:S->List S->(S->Prop)->Prop:=λs f R=>match f with
 |[t]=>(match t.d with | .int z=>∃xs:ZS,s.d=.lst (xs.map D.int)/\z∈xs/\R (.sh<|.int (xs.idxOf z:Nat))|_=>False)
 |_=>False
def FB{a r}(G:U5 K mg E te a)(C:US K mg E w r):U5 K mg E (tBM K "list" (CH K) te w) (pBM EL a r):=by
 refine Zjv G C λH0 H H1 Z s v N L R Q n T U y x h q=>?_;unfold EL at h;split at h
 ·obtain⟨u,rfl,g⟩:=x.one_inv;have o:=g.rp n;split at h
  ·rename_i z e;rw[e]at o;obtain⟨xs,ex,A,J⟩:=h;have f:=y.rp n;rw[ex]at f;obtain⟨l,M,rfl,p,f⟩:=f.lst_inv;rw[f.ints]at p;exact⟨l,xs,z,rfl,by rw[o.int_inv],SqL.of p,A,q _ _ H1 J (Same.refl _) (.int _)⟩
  ·grind
 ·exact h.elim
noncomputable def prD(p:Int×Int):D:=.tup [.int p.1,.int p.2]
inductive InR:D->D->Bool->Prop
 |li (i:Int) (hs:ZS):InR (.int i) (.lst<|hs.map D.int) (decide (i∈hs))
 |ti (i:Int) (hs:ZS):InR (.int i) (.tup<|hs.map D.int) (decide (i∈hs))
 |lp (q:Int×Int) (ps:ZR):InR (prD q) (.lst<|ps.map prD) (decide (q∈ps))
def fIn(neg:Bool):S->S->(S->Prop)->Prop:=λx y R=>∃b,InR x.d y.d b/\R (.sh<|.bl (if neg then !b else b))
def Rp.pair (h:Rp K H (prD q) v):Kg H v q:=by
 obtain⟨a,n,rfl,f,r⟩:=Rp.tup_inv h;obtain⟨x,y,rfl,l,g⟩:=r.two_inv;rw[l.int_inv,g.int_inv]at f;exact⟨a,rfl,f⟩
def Rps.lv {vs} (h:Rps K H (ps.map prD) vs):LV Kg H vs ps:=by
 refine⟨by rw[h.len,Wt],λi p f=>?_⟩;obtain⟨v,l,g⟩:=h.get (by rw[W6,f];rfl);exact⟨v,l,g.pair⟩
def Sj{C A a b}(U:U5 K mg E C a)(T:U5 K mg E A b):U5 K mg E (tOp (λx y H Q=>rIn K neg x y H Q\/NX neg x y H Q) C A) (p2 a b<|fIn neg):=by
 refine Ky U T λH0 H z Z x y v u R Q G Y hm L J h q=>?_;obtain⟨k,s,w⟩:=h;have n:=L.rp G;have g:=J.rp G;generalize ex:x.d=dx at s n;generalize ey:y.d=dy at s g;cases s with
 |li i N=>
  obtain⟨l,o,rfl,f,r⟩:=g.lst_inv;rw[r.ints]at f;rw[n.int_inv];refine .inl ⟨l,_,rfl,.inl (SqL.of f),rfl,P8 _,?_⟩;rw[L8];exact q _ _ z w (Same.refl _) (.bl _)
 |ti i N=>
  obtain⟨l,o,rfl,f,r⟩:=g.tup_inv;rw[r.ints]at f;rw[n.int_inv];refine .inl ⟨l,_,rfl,.inr (SqT.of f),rfl,P8 _,?_⟩;rw[L8];exact q _ _ z w (Same.refl _) (.bl _)
 |lp p M=>
  obtain⟨l,o,rfl,f,r⟩:=g.lst_inv;exact .inr ⟨l,M,p,rfl,n.pair,⟨o,f,r.lv⟩,q _ _ z w (Same.refl _) (.bl _)⟩
def Nv(neg:Bool):S->S->(S->Prop)->Prop:=λx y R=>match x.d,y.d with
 | .lst h,.lst g=>∃xs f:ZS,h=xs.map D.int/\g=f.map D.int/\R (.sh<|.bl (if neg then !decide (xs=f)else decide (xs=f)))
 |_,_=>fEq neg x y R
def NJ{a b}(T:U5 K mg E L a)(N:U5 K mg E J b):U5 K mg E (tOp (λx y H Q=>rEq x y H Q\/PR K false x y H Q) L J) (p2 a b<|Nv false):=by
 refine Ky T N λH0 H p Z x y v u R Q w s1 s G C h q=>?_;have g:=G.rp w;have f:=C.rp w;unfold Nv at h;split at h
 ·rename_i ds es o n;obtain⟨xs,Y,rfl,rfl,U⟩:=h;rw[o]at g;rw[n]at f;obtain⟨l,us,rfl,A,r⟩:=g.lst_inv;obtain⟨m,ws,rfl,s,M⟩:=f.lst_inv;rw[r.ints]at A;rw[M.ints]at s;refine .inr ⟨l,m,_,_,rfl,rfl,SqL.of A,SqL.of s,P8 _,P8 _,?_⟩;rw[Dy];exact q _ _ p U (Same.refl _) (.bl _)
 ·refine .inl ?_;unfold fEq at h;split at h
  ·rename_i i j o n;rw[o]at g;rw[n]at f;rw[g.int_inv,f.int_inv];refine⟨rfl,?_⟩;rw[Nw λ_ _ z=>V.int.inj z];exact q _ _ p h (Same.refl _) (.bl _)
  ·rename_i i j o n;rw[o]at g;rw[n]at f;rw[g.str_inv,f.str_inv];refine⟨rfl,?_⟩;rw[Nw λ_ _ z=>V.str.inj z];exact q _ _ p h (Same.refl _) (.bl _)
  ·rename_i i j o n;rw[o]at g;rw[n]at f;rw[g.bl_inv,f.bl_inv];refine⟨rfl,?_⟩;rw[Nw λ_ _ z=>V.bl.inj z];exact q _ _ p h (Same.refl _) (.bl _)
  ·exact h.elim
def Gs{a b}(T:U5 K mg E L a)(N:U5 K mg E J b):U5 K mg E (tOp (λx y H Q=>rNe x y H Q\/PR K true x y H Q) L J) (p2 a b<|Nv true):=by
 refine Ky T N λH0 H p Z x y v u R Q w s1 s G C h q=>?_;have g:=G.rp w;have f:=C.rp w;unfold Nv at h;split at h
 ·rename_i ds es o n;obtain⟨xs,Y,rfl,rfl,U⟩:=h;rw[o]at g;rw[n]at f;obtain⟨l,us,rfl,A,r⟩:=g.lst_inv;obtain⟨m,ws,rfl,s,M⟩:=f.lst_inv;rw[r.ints]at A;rw[M.ints]at s;refine .inr ⟨l,m,_,_,rfl,rfl,SqL.of A,SqL.of s,P8 _,P8 _,?_⟩;rw[Dy];exact q _ _ p U (Same.refl _) (.bl _)
 ·refine .inl ?_;unfold fEq at h;split at h
  ·rename_i i j o n;rw[o]at g;rw[n]at f;rw[g.int_inv,f.int_inv];refine⟨rfl,?_⟩;rw[Nw λ_ _ z=>V.int.inj z];exact q _ _ p h (Same.refl _) (.bl _)
  ·rename_i i j o n;rw[o]at g;rw[n]at f;rw[g.str_inv,f.str_inv];refine⟨rfl,?_⟩;rw[Nw λ_ _ z=>V.str.inj z];exact q _ _ p h (Same.refl _) (.bl _)
  ·rename_i i j o n;rw[o]at g;rw[n]at f;rw[g.bl_inv,f.bl_inv];refine⟨rfl,?_⟩;rw[Nw λ_ _ z=>V.bl.inj z];exact q _ _ p h (Same.refl _) (.bl _)
  ·exact h.elim
noncomputable abbrev AB(K:ZQ)(f:TE):TT:=λσ H Q=>f σ H λx H'=>∃k,AY K x H' k/\Q k H'
noncomputable def M5(a:PTE):PTT:=λγ R X=>a γ (λx=>match x.d with
 | .bl b=>R b | .lst f=>R (!f.isEmpty) | .tup f=>R (!f.isEmpty) | .int i=>R (i != 0) | .non=>R false|_=>False) X
def Fs{g f:Type}{l:List g}{m:List f}(h:l.length=m.length):l.isEmpty=m.isEmpty:=by
 cases l<;>cases m<;>simp at h ⊢
def Zd8(y:U5 K mg E te a):XG K mg E (AB K te) (M5 a):=by
 intro H0 B H σ γ R X Q o p q w;refine y H0 B H σ γ _ X _ o p (λx v H1 g h u=>?_) w;have f:=u.rp (o.grow h).same;split at g
 ·rename_i b e;rw[e]at f;rw[f.bl_inv];exact⟨b,rfl,q _ H1 g h⟩
 ·rename_i z e;rw[e]at f;obtain⟨l,n,rfl,s,r⟩:=f.lst_inv;exact⟨!n.isEmpty,.inl ⟨n,SqL.of s,rfl⟩,by rw[Fs r.len];exact q _ H1 g h⟩
 ·rename_i z e;rw[e]at f;obtain⟨l,n,rfl,s,r⟩:=f.tup_inv;exact⟨!n.isEmpty,.inr (.inl ⟨n,SqT.of s,rfl⟩),by rw[Fs r.len];exact q _ H1 g h⟩
 ·rename_i i e;rw[e]at f;rw[f.int_inv];exact⟨_,rfl,q _ H1 g h⟩
 ·rename_i e;rw[e]at f;rw[f.non_inv];exact⟨_,rfl,q _ H1 g h⟩
 ·exact g.elim
noncomputable def cutD{f:Type}(xs:List f)(lo g:Option Int):List f:=(xs.drop<|HT.sIx xs.length 0 lo).take (HT.sIx xs.length xs.length g-HT.sIx xs.length 0 lo)
noncomputable def Eg:PTO:=λ_ R _=>R none
noncomputable def Ia(a:PTE):PTO:=λγ R X=>a γ (λs=>match s.d with | .int i=>R (some i)|_=>False) X
def Mm:Pt K mg E EJ Eg:=λ_ _ H _ _ _ _ _ _ p q _=>q _ H p (Same.refl _)
def Bz(r:U5 K mg E te a):Pt K mg E (ME te) (Ia a):=by
 intro H0 B H σ γ R X Q f p q o;refine r H0 B H σ γ _ X _ f p (λx v H1 h l n=>?_) o;have g:=n.rp (f.grow l).same;split at h
 ·rename_i i e;rw[e]at g;exact⟨i,g.int_inv,q _ H1 h l⟩
 ·grind
noncomputable def pSl(a:PTE)(l u:PTO):PTE:=λγ R X=>a γ (λs=>l γ (λlo=>u γ (λg=>match s.d with | .lst f=>s.free f=true/\R (.own<|cutD f lo g)|_=>False) X) X) X
def Rps.cut {lo f} (r:Rps K H ds vs):Rps K H (cutD ds lo f) (Pn vs lo f):=by
 unfold cutD Pn;rw[r.len];exact Rps.take _ (Rps.drop _ r)
def Zf9{a l u}(U:U5 K mg E te a)(N:Pt K mg E G l)(M:Pt K mg E J u):U5 K mg E (tSl (N0 K) te G J) (pSl a l u):=by
 intro H0 B H σ γ R X Q f p q o;refine U H0 B H σ γ _ X _ f p (λx v H1 h1 h L=>?_) o;refine N H0 B H1 σ γ _ X _ (f.grow h) h1 (λlo H2 Y n=>?_) λc H' s y=>o c H' s (h.trans y);refine M H0 B H2 σ γ _ X _ ((f.grow h).grow n) Y (λhi H3 w A=>?_) λc H' s y=>o c H' s ((h.trans n).trans y);have g:=(h.trans n).trans A;split at w
 ·rename_i ds e;obtain⟨b,C,rfl,T,r⟩:=((L.grow<|n.trans A).items (f.grow g).same f.zm g w.1).1 e;exact⟨b,C,rfl,SqL.of T,λm z=>q _ _ _ w.2 (g.trans<|Xq z) (PU g z r.cut)⟩
 ·grind
def Hv:S->S->(S->Prop)->Prop:=λx y R=>match x.d,y.d with
 | .lst g,.lst f=>x.free g=true/\y.free f=true/\g.length+f.length<=100000/\R (.own (g++f))
 |_,_=>False
def XJ{a b}(U:U5 K mg E L a)(T:U5 K mg E J b):U5 K mg E (tOp MJ L J) (p2 a b Hv):=by
 refine Ky U T λH0 H H2 Z x y v u R Q s f A G C h q=>?_;unfold Hv at h;split at h
 ·rename_i ds es e1 Y;obtain⟨l,o,rfl,N,r⟩:=(G.items s A f h.1).1 e1;obtain⟨m,n,rfl,g,w⟩:=(C.items s A f h.2.1).1 Y;have M:o.length+n.length<=sizeLine:=by rw[r.len,w.len];exact W9 h.2.2.1 (by decide)
  exact⟨l,m,o,n,rfl,rfl,N,g,M,λp z=>q _ _ _ h.2.2.2 (Xq z) (PU f z<|r.append w)⟩
 ·grind
noncomputable def CK(i:Nat)(a:PTE):PTS:=λR γ=>match γ[i]? with
 |some (some<|.own<|.lst f)=>a γ (λs=>match s.shd with
  |some d=>f.length<10000000/\R.nx (γ.set i<|some<|.own (f++[d]))
  |none=>False) (R.ex γ)
 |some (some<|.own<|.lsA x f)=>a γ (λs=>match s.shd with
  |some d=>f.length<10000000/\R.nx (γ.set i<|some<|.own<|.lsA x (f++[d]))
  |none=>False) (R.ex γ)
 |_=>False
def Zlo(i:Nat){te a}(T:U5 K mg E te a):UJ K mg E (Sd<|tBM K "list" A0 (X6 i)<|Xk te XT) (CK i a):=by
 intro H0 B H σ γ R D U f h e;unfold CK at h;split at h
 ·rename_i N w;obtain⟨v,r,b,rfl,J,us,y,p⟩:=f.slot i _ w;refine⟨_,r,.inl ⟨rfl,us,SqL.of y⟩,T H0 B H σ γ _ _ _ f h (λs u H1 n l C=>?_) λc H' G A=>e.ex σ γ c H' G (f.grow A) (Fr.grow A)⟩;have g:=f.grow l;split at n
  ·rename_i d o;refine⟨b,us,u,rfl,rfl,l _ _ y,by rw[p.len];exact Vv n.1 (by decide),?_⟩;obtain⟨o,M⟩:=g.mutate (es:=.lst (N++[d])) (us:=.lst (us++[u])) w r trivial λF H' Q L=>⟨_,L,Rps.mono Q (Rps.append (Rps.mono (UF l λ_ _ _ z=>z) p)<|.cons (C.shd g.same f.zm l o) .nil)⟩;exact e.nx _ _ _ n.2 o ((Fr.grow l).trans M)
  ·exact n.elim
 ·rename_i x N w;obtain⟨v,r,b,rfl,J,rfl,us,y,p⟩:=f.slot i _ w;refine⟨_,r,.inl ⟨rfl,us,SqL.of y⟩,T H0 B H σ γ _ _ _ f h (λs u H1 n l C=>?_) λc H' G A=>e.ex σ γ c H' G (f.grow A) (Fr.grow A)⟩;have g:=f.grow l;split at n
  ·rename_i d o;refine⟨b,us,u,rfl,rfl,l _ _ y,by rw[p.len];exact Vv n.1 (by decide),?_⟩;obtain⟨o,M⟩:=g.mutate (es:=.lsA b (N++[d])) (us:=.lst (us++[u])) w r trivial λF H' Q L=>⟨rfl,_,L,Rps.mono Q (Rps.append (Rps.mono (UF l λ_ _ _ z=>z) p)<|.cons (C.shd g.same f.zm l o) .nil)⟩;exact e.nx _ _ _ n.2 o ((Fr.grow l).trans M)
  ·exact n.elim
 ·exact h.elim
end
section
variable {X:Cx}{K:ZQ}
def CP(f:X.A.in1.units<cLine)(g:autoParam (X.K=K) au_0):OpR X (compareOp .In) (λx y H Q=>rIn K false x y H Q\/NX false x y H Q):=(Zil g).or (Ze6 f)
def Ib(f:X.A.in1.units<cLine)(g:autoParam (X.K=K) au_0):OpR X (compareOp .NotIn) (λx y H Q=>rIn K true x y H Q\/NX true x y H Q):=(Zi6 g).or (Za6 f)
def N4(f:X.A.units<cLine)(g:autoParam (X.K=K) au_0):OpR X (compareOp .Eq) (λx y H Q=>rEq x y H Q\/PR K false x y H Q):=by subst g;exact op_eq.or (Zko f)
def Zmz(f:X.A.units<cLine)(g:autoParam (X.K=K) au_0):OpR X (compareOp .NotEq) (λx y H Q=>rNe x y H Q\/PR K true x y H Q):=by subst g;exact op_ne.or (Zkh f)
def Cg(g:PE X e te)(h:autoParam (X.K=K) au_0)(f:autoParam (∀whole,isTrue e X.env whole=(do let v ←whole;standAt e.pos;holding [v] (truthy v))) au_3):PT X e (AB K te):=by
 subst h;exact Zaw g f
def Nu(f:autoParam (X.K=K) au_0):X5 X (.type "list") (λxs H Q=>∃p ys,xs=[.ref p]/\(SqL K H p ys\/SqT K H p ys)/\∀l,H l=none->Q (.ref l) (upd H l<|.lst ys)):=by subst f;exact Zao
def GK(f:autoParam (X.K=K) au_0):X5 X (.type "tuple") (λxs H Q=>∃p ys,xs=[.ref p]/\((SqL K H p ys/\∀l,H l=none->Q (.ref l) (upd H l<|.tup ys))\/(SqT K H p ys/\Q (.ref p) H))):=by subst f;exact Zf2
def PY(f:autoParam (X.K=K) au_0):X5 X (.builtin "isinstance") (λxs H Q=>∃x n t b,xs=[x,.ty n]/\Ki K H x t/\PySem.W.kitOne K t (.type n)=some b/\Q (.bl b) H):=by subst f;exact Zex
def CC(f:autoParam (X.K=K) au_0):SlR X (N0 K):=by subst f;exact Zap
def BC(g:X.calm=true){w}(h:autoParam (X.K=K) au_0)(hw:autoParam (X.w=w) au_0):X5 X (.builtin "sorted") (λxs H Q=>∃p f,xs=[.ref p]/\f.length<64/\(SqL K H p (f.map V.int)\/H p=some (T1 w p f))/\
  ∀l (ns:ZS),H l=none->ns.Perm f->ns.Pairwise (·<=·)->Q (.ref l) (upd H l<|.lst<|ns.map V.int)):=by subst h;subst hw;exact L6 g
def P9{g l f}(h:PE X l f)(n:autoParam (X.K=K) au_0):PI X g l (Ny K f):=by subst n;exact LU h
end
section
variable {P:Program}{w:World}{K:ZQ}{mg:ZU}{base:Heap}{H H':Hp}
def R3(C:Callee P w K mg base CX k x ps sp)(h:∀ds R X vs H Q E,Rps K H ds vs->c ds R X->(∀s v H',R s->Same H H'->TV K (λb=>Mut (H b)) H H H' s v->Q v H')->(∀e H',X e->Same H H'->XE mg E e H')->sp vs H Q E) :
  Callee P w K mg base CX k x ps (UA mg c K):=by
 obtain⟨f,o,F,rest⟩:=C.ex;exact⟨f,o,F.imp λvs H Q E ⟨ds,R,X,r,g,n,l⟩=>h ds R X vs H Q E r g n l,rest⟩
def Rp.scr_inv (h:Rp K H (.scr ns) v):∃a,v=.ref a/\SqL K H a (ns.map V.int):=by
 cases h with
 |scr h=>grind
def Rp.ints_inv {ns:ZS}{v} (h:Rp K H (.lst<|ns.map D.int) v):∃a,v=.ref a/\H a=some (.lst<|ns.map V.int):=by
 obtain⟨a,g,rfl,f,r⟩:=h.lst_inv;rw[r.ints]at f
 grind
def Rp.pairs_inv {v} (h:Rp K H (.lst<|ps.map prD) v):∃a,v=.ref a/\LAt Kg H a ps:=by
 obtain⟨a,f,rfl,g,r⟩:=h.lst_inv;exact⟨a,rfl,f,g,r.lv⟩
def Zm4{ns:ZS}(n:H a=none)(h:H' a=some (.lst<|ns.map V.int)):TV K (λb=>Mut (H b)) H H H' (.own<|ns.map D.int) (.ref a):=⟨a,rfl,(λ_ e=>e▸n),_,h,Rps.of_ints ns⟩
theorem SX:∀(ns:ZS),X9 (ns.map D.int)=true
 |[]=>rfl
 |n::r=>by rw[WO];unfold X9;rw[SX r];unfold imm;rfl
def Zhm(p:Int×Int):imm (prD p)=true:=rfl
theorem Pe:∀(ps:ZR),X9 (ps.map prD)=true
 |[]=>rfl
 |p::r=>by rw[WO];unfold X9;rw[Pe r,Zhm];rfl
def Zna{g:Type}{f:g->D}{xs:List g}{i}(h:i<xs.length):(xs.map f).getD i .non=f xs[i]:=by grind
def Tz{g:Type}{f:g->D}{xs:List g}{i}(l:0<=i)(h:i<(xs.length:Int)):atI (xs.map f) i=some (f (xs[i.toNat]'(by lia))):=by
 have n:i.toNat<xs.length:=by lia
 exact Px (NT l<|Wv n)
def AN{g:Type}{f:g->D}{xs:List g}{i}(h:i<xs.length):atI (xs.map f) (i:Int)=some (f xs[i]):=Px (Sq<|Wv h)
def XA{l:Type}{φ}{γ}{g}{c}{e}{s:S}{R}{xs:List l}{emb}(f:l->Option D)(n:xs.length<=100000)(turn:∀x∈xs,g (s.sub<|emb x) (atP φ γ) λh=>c h (λb=>if b=true then e h (λs=>∃d,s.shd=some d/\f x=some d) (λ_=>False)else f x=none) λ_=>False)(done:R (.own<|xs.filterMap f)) :
  Nz φ γ g c e (xs.map emb).length (λi=>s.sub ((xs.map emb).getD i .non)) R:=by
 rw[Wt];refine⟨⟨n,λi=>(xs[i]?).bind f,λi o=>?_,by rw[Zin];exact done⟩⟩;simp_all
def Lh{g c e item R n}(f:Nat->Option D)(o:n<=100000)(turn:∀i,i<n->g (item i) (atP φ l) λh=>c h (λb=>if b=true then e h (λs=>∃d,s.shd=some d/\f i=some d) (λ_=>False)else f i=none) λ_=>False)(done:R (.own ((List.range n).filterMap f))) :
  Nz φ l g c e n item R:=⟨⟨o,f,turn,done⟩⟩
def XQ{p:Type}{js}{γ}{g}{body}{s:S}{R}{xs:List p}{emb}(l:Nat->Γ->Prop)(u:l 0 (clr js γ))(turn:∀i r f,l i f->g (s.sub (emb xs[i])) f λo=>body {R with nx:=λn=>l (i+1) (clr js n),ct:=λn=>l (i+1) (clr js n),bk:=R.nx} o)(done:∀f,l xs.length f->R.nx f) :
  Ac js γ g body R (xs.map emb).length (λi=>s.sub ((xs.map emb).getD i .non)):=by
 refine⟨⟨l,u,λi f r h=>?_,λf h=>?_⟩⟩
 ·grind
 ·grind
def Pf{n item}(f:Nat->Γ->Prop)(s:f 0 (clr p r))(turn:∀i h,i<n->f i h->g (item i) h λo=>body {R with nx:=λl=>f (i+1) (clr p l),ct:=λl=>f (i+1) (clr p l),bk:=R.nx} o)(done:∀h,f n h->R.nx h):Ac p r g body R n item:=⟨⟨f,s,turn,done⟩⟩
def Dz(h:Γ->Prop)(l:Γ->Nat)(p:h (clr n o))(turn:∀f,h f->c f (λb=>if b=true then body {R with nx:=λg=>h (clr n g)/\l (clr n g)<l f,ct:=λg=>h (clr n g)/\l (clr n g)<l f,bk:=R.nx} f else R.nx f) (R.ex f)):G4 n o c body R:=⟨⟨h,l,p,turn⟩⟩
def Nq(J:Γ->Prop)(l:p {R with nx:=J} g)(h:∀f,J f->q R f):DQ p q R g:=⟨⟨J,l,h⟩⟩
theorem KP{f:Type}(c:f->Bool)(emb:f->D):∀g:List f,g.filterMap (λq=>if c q=true then some (emb q)else none)=(g.filter c).map emb
 |[]=>rfl
 |q::r=>by
  by_cases h:c q=true
  ·rw[List.filterMap_cons_some (by rw[W3 h]),VI h,WO,KP c emb r]
  ·rw[List.filterMap_cons_none (by grind),List.filter_cons_of_neg h,KP c emb r]
def Py{f:Type}(emb:f->D)(g:List f):g.filterMap (λq=>some (emb q))=g.map emb:=by simp
def T7(f:h->D)(xs:List h)(lo g:Option Int):cutD (xs.map f) lo g=(cutD xs lo g).map f:=by
 unfold cutD;simp
def A7(xs:List f){n}(h:0<=n):cutD xs none (some n)=xs.take n.toNat:=by
 unfold cutD;have e:n=(n.toNat:Int):=by lia
 rw[HT.IJ,e,HT.BI,List.drop_zero,Nat.sub_zero,Qq];by_cases c:n.toNat<=xs.length
 ·simp
 ·simp
def Sh(xs:List f){n}(h:0<=n):cutD xs (some n) none=xs.drop n.toNat:=by
 unfold cutD;have e:n=(n.toNat:Int):=by lia
 rw[HT.IJ,e,HT.BI,Qq];by_cases c:n.toNat<=xs.length
 ·grind
 ·rw[Nat.min_eq_right (by lia),List.drop_of_length_le (W5 _),List.drop_of_length_le (by lia)];simp
noncomputable def BV(K:ZQ):Sp:=λf H Q _=>∃(a:Addr) (g:ZS),f=[.ref a]/\SqL K H a (g.map V.int)/\∀H',Q (.bl true) H'
noncomputable def Io:Pc:=λg R _=>∃f:ZS,g=[.scr f]/\R (.sh<|.bl true)
def Zmh(h:BV K vs H Q n):UA mg Io K vs H Q n:=by
 obtain⟨a,f,rfl,l,q⟩:=h;refine⟨[.scr f],λs=>s=.sh (.bl true),λ_=>False,.cons (.scr l) .nil,⟨f,rfl,rfl⟩,λs v H' e o g=>?_,λ_ _ z=>z.elim⟩;subst e;cases g
 grind
end
section
variable {K:ZQ}{mg:ZU}{E:L2.St->XK}{H0 H H1 H':Hp}{B Z Z':Addr->Prop}{σ:L2.St}{γ:Γ}
noncomputable def BB:D->Option V
 | .int i=>some (.int i) | .bl b=>some (.bl b) | .non=>some .non | .str x=>some (.str x)|_=>none
noncomputable def vD:V->D
 | .int i=>.int i | .bl b=>.bl b | .str x=>.str x|_=>.non
noncomputable def Bs:V->Bool
 | .int _=>true | .bl _=>true | .str _=>true | .non=>true|_=>false
def FV(h:Bs v=true):Rp K H (vD v) v:=by
 cases v with
 |int i=>exact .int i
 |bl b=>exact .bl b
 |str x=>exact .str x
 |non=>exact .non
 |_=>cases h
def Dp(h:Rp K H d v)(e:BB d=some u):v=u:=by
 cases h with
 |int i|bl b|non|str x=>cases e;rfl
 |_=>cases e
noncomputable def NA:D->Option Key
 | .int i=>some (.inl i) | .str x=>some (.inr x)|_=>none
noncomputable def Nk:List D->Option (List Key)
 |[]=>some []
 |d::r=>match NA d,Nk r with
  |some k,some f=>some (k::f)
  |_,_=>none
noncomputable def TN:D->Option (List Key)
 | .tup f=>Nk f
 |_=>none
def SK(h:Rp K H d v)(e:NA d=some k):v=kV k:=by
 cases h with
 |int i|str x=>cases e;rfl
 |_=>cases e
def Zb7:∀{ds vs}{f:List Key},Rps K H ds vs->Nk ds=some f->vs=f.map kV:=by
 intro ds
 induction ds with
 |nil=>
  intro _ _ h e;cases h
  cases e
  rfl
 |cons _ _ g=>
  intro _ f h e;cases h with
  |cons h r=>
   unfold Nk at e;split at e
   ·rename_i k o n l;cases e
    rw[SK h n,g r l];rfl
   ·grind
def BJ(h:Rp K H d v)(e:TN d=some f):∃b,v=.ref b/\H b=some (.tup<|f.map kV):=by
 cases h with
 |tup h r=>
  rw[Zb7 r e]at h
  grind
 |_=>cases e
def Rp.dK_inv (h:Rp K H (.dK f) v):∃a,v=.ref a/\H a=some (.dK f):=by
 cases h with
 |dK h=>grind
def Rp.dT_inv (h:Rp K H (.dT f) v):∃a,v=.ref a/\H a=some (.dT f):=by
 cases h with
 |dT h=>grind
noncomputable def Rv:PTE:=λ_ R _=>R (.own<|.dK [])
noncomputable def Zgl:PTE:=λ_ R _=>R (.own<|.dT [])
def Zk7:U5 K mg E Lb Rv:=by
 intro H0 B H σ γ R X Q g p q _ l f;exact q _ _ _ p (Xq f) ⟨l,rfl,(λ_ e=>e▸f),UZ⟩
def Zhf:U5 K mg E Mu Zgl:=by
 intro H0 B H σ γ R X Q g p q _ l f;exact q _ _ _ p (Xq f) ⟨l,rfl,(λ_ e=>e▸f),UZ⟩
def ER:S->S->(S->Prop)->Prop:=λx y R=>match x.d with
 | .dK f=>∃k v,NA y.d=some k/\UL f k=some v/\Bs v=true/\R (.sh<|vD v)
 | .dT f=>∃k v,TN y.d=some k/\UL f k=some v/\Bs v=true/\R (.sh<|vD v)
 |_=>False
def Sa{a b}(N:U5 K mg E M a)(p:U5 K mg E g b):U5 K mg E (Gp M g) (p2 a b ER):=by
 refine Ky N p λH0 H J Z x y v u R Q C T U L g h q=>?_;have f:=L.rp C;have G:=g.rp C;unfold ER at h;split at h
 ·rename_i n e;rw[e]at f;obtain⟨l,rfl,o⟩:=f.dK_inv;obtain⟨k,w,A,z,s,r⟩:=h;refine⟨l,w,rfl,?_,q _ _ J r (Same.refl _) (FV s)⟩;rw[SK G A,←z];exact DGet.k o
 ·rename_i n e;rw[e]at f;obtain⟨l,rfl,o⟩:=f.dT_inv;obtain⟨k,w,A,z,s,r⟩:=h;obtain⟨b,rfl,p⟩:=BJ G A;refine⟨l,w,rfl,?_,q _ _ J r (Same.refl _) (FV s)⟩;rw[←z];exact DGet.t o p
 ·grind
def Im(neg:Bool):S->S->(S->Prop)->Prop:=λy x R=>match x.d with
 | .dK f=>∃k,NA y.d=some k/\R (.sh<|.bl (if neg then !(UL f k).isSome else(UL f k).isSome))
 | .dT f=>∃k,TN y.d=some k/\R (.sh<|.bl (if neg then !(UL f k).isSome else(UL f k).isSome))
 |_=>False
def Zii{w f a b}(J:U5 K mg E f a)(p:U5 K mg E w b):U5 K mg E (Hx f w) (p2 a b<|Im true):=by
 refine Ky J p λH0 H C Z y x u v R Q z L M f G h q=>?_;have g:=G.rp z;have A:=f.rp z;unfold Im at h;split at h
 ·rename_i n e;rw[e]at g;obtain⟨l,rfl,o⟩:=g.dK_inv;obtain⟨k,s,r⟩:=h;refine⟨l,_,rfl,?_,q _ _ C r (Same.refl _) (.bl _)⟩;rw[SK A s];exact DGet.k o
 ·rename_i n e;rw[e]at g;obtain⟨l,rfl,o⟩:=g.dT_inv;obtain⟨k,s,r⟩:=h;obtain⟨b,rfl,p⟩:=BJ A s;exact⟨l,_,rfl,DGet.t o p,q _ _ C r (Same.refl _) (.bl _)⟩
 ·grind
noncomputable def DU(i:Nat)(b a:PTE):PTS:=λR γ=>match γ[i]? with
 |some (some<|.own<|.dK f)=>a γ (λs=>b γ (λy=>∃k u,NA y.d=some k/\BB s.d=some u/\f.length<100000/\R.nx (γ.set i<|some<|.own<|.dK<|putK f k u)) (R.ex γ)) (R.ex γ)
 |some (some<|.own<|.dT f)=>a γ (λs=>b γ (λy=>∃k u,TN y.d=some k/\BB s.d=some u/\f.length<100000/\R.nx (γ.set i<|some<|.own<|.dT<|putK f k u)) (R.ex γ)) (R.ex γ)
 |_=>False
def Cu(i:Nat){ty tv a b}(hb:U5 K mg E ty b)(ha:U5 K mg E tv a):UJ K mg E (GW (X6 i) ty tv) (DU i b a):=by
 intro H0 B H σ γ R D hB n h e;have hx:=λc H' G x=>e.ex σ γ c H' G (n.grow x) (Fr.grow x);unfold DU at h;split at h
 ·rename_i o C;obtain⟨v,A,l,rfl,Y,U⟩:=n.slot i _ C;refine ha H0 B H σ γ _ _ _ n h (λs u H1 h1 p L=>⟨_,A,?_⟩) hx;have f:=n.grow p;refine hb H0 B H1 σ γ _ _ _ f h1 (λy w H2 h2 r J=>?_) λc H' G x=>hx c H' G (p.trans x);obtain⟨k,z,T,Q,N,M⟩:=h2;have g:=f.grow r;have eu:=Dp (L.rp f.same) Q;have ew:=SK (J.rp g.same) T;subst eu ew;refine⟨l,_,rfl,DPut.k (r _ _<|p _ _ U) (Vv N<|by decide),?_⟩;obtain⟨e2,f2⟩:=g.mutate (es:=.dK (putK o k u)) (us:=.dK (putK o k u)) C A trivial λF H' SF hF=>hF;exact e.nx _ _ _ M e2 ((Fr.grow<|p.trans r).trans f2)
 ·rename_i o C;obtain⟨v,A,l,rfl,Y,U⟩:=n.slot i _ C;refine ha H0 B H σ γ _ _ _ n h (λs u H1 h1 p L=>⟨_,A,?_⟩) hx;have f:=n.grow p;refine hb H0 B H1 σ γ _ _ _ f h1 (λy w H2 h2 r J=>?_) λc H' G x=>hx c H' G (p.trans x);obtain⟨k,z,T,Q,N,M⟩:=h2;have g:=f.grow r;have eu:=Dp (L.rp f.same) Q;obtain⟨b',rfl,hb'⟩:=BJ (J.rp g.same) T;subst eu;refine⟨l,_,rfl,DPut.t (r _ _<|p _ _ U) hb' (Vv N<|by decide),?_⟩;obtain⟨e2,f2⟩:=g.mutate (es:=.dT (putK o k u)) (us:=.dT (putK o k u)) C A trivial λF H' SF hF=>hF;exact e.nx _ _ _ M e2 ((Fr.grow<|p.trans r).trans f2)
 ·exact h.elim
noncomputable def D7(a:PTE):PTS:=λR γ=>a γ (λs=>match s.shd with|some d=>R.rt (.sh d)|none=>False) (R.ex γ)
def Zan(u:U5 K mg E te a):UJ K mg E (Ng te) (D7 a):=by
 intro H0 B H σ γ R D w f h e;refine u H0 B H σ γ _ _ _ f h (λs v H1 l g o=>?_) λc H' r n=>e.ex σ γ c H' r (f.grow n) (Fr.grow n);split at l
 ·rename_i d p;exact e.rt (.sh d) v H1 l (f.same.trans g) (Rp.mono (UF (Same.refl _) λb _ _ z y=>z (.inl y)) (o.shd (f.grow g).same f.zm g p))
 ·grind
noncomputable def Mx(i:Nat)(γ:Γ):Nat:=match γ[i]? with
 |some (some<|.own<|.lst f)=>f.length
 |_=>0
def XC(d:f)(ds:List f):atI (d::ds) 0=some d:=NT (by simp) rfl
noncomputable def em(l:Int)(p:ZS):D:=.lst ((l::p).map D.int)
def Bi(l:Int)(p:ZS):atI ((l::p).map D.int) (-1)=some (.int<|UE l p):=by
 refine Px ?_;unfold atI ixN;rw[W2 (by lia),W3 (by grind)];have e:(-1+((l::p).length:Int)).toNat=p.length:=by grind
 rw[e];exact SJ l p
def Es:List S->(S->Prop)->Prop
 |[s],R=>∃f:ZS,s.d=.lst (f.map D.int)/\R (.sh<|.int f.sum)
 |_,_=>False
def LH(s:US K mg E l r):U5 K mg E (tCB (λxs H Q=>∃(p:Addr) (ns:ZS),xs=[.ref p]/\SqL K H p (ns.map V.int)/\Q (.int ns.sum) H) l) (pCB Es r):=by
 refine KM s λH0 H H1 Z y x R Q o z A g h q=>?_;unfold Es at h;split at h
 ·obtain⟨v,rfl,n⟩:=g.one_inv;obtain⟨ns,e,w⟩:=h;have f:=n.rp o;rw[e]at f;obtain⟨a,rfl,u⟩:=f.ints_inv;exact⟨a,ns,rfl,SqL.of u,q _ _ H1 w (Same.refl _) (.int _)⟩
 ·grind
def La:List S->(S->Prop)->Prop
 |[s],R=>∃f:ZS,s.d=.lst (f.map D.int)/\0<f.length/\∀m,m∈f->(∀a∈f,m<=a)->R (.sh<|.int m)
 |_,_=>False
def Zar(u:US K mg E n r):U5 K mg E (tCB (λxs H Q=>∃(p:Addr) (ns:ZS),xs=[.ref p]/\SqL K H p (ns.map V.int)/\0<ns.length/\∀M,M∈ns->(∀a∈ns,M<=a)->Q (.int M) H) n) (pCB La r):=by
 refine KM u λH0 H H1 Z C A R Q s G J l h q=>?_;unfold La at h;split at h
 ·obtain⟨v,rfl,o⟩:=l.one_inv;obtain⟨ns,e,f,x⟩:=h;have g:=o.rp s;rw[e]at g;obtain⟨a,rfl,w⟩:=g.ints_inv;exact⟨a,ns,rfl,SqL.of w,f,λm z y=>q _ _ H1 (x m z y) (Same.refl _) (.int _)⟩
 ·grind
def HH:List S->(S->Prop)->Prop
 |[s],R=>∃bs:List Bool,s.d=.lst (bs.map D.bl)/\R (.sh<|.bl<|bs.any id)
 |_,_=>False
theorem Rps.bls:∀{f:List Bool}{vs:List V},Rps K H (f.map D.bl) vs->vs=f.map V.bl
 |[],_,.nil=>rfl
 |j::r,_,.cons h t=>by rw[Rp.bl_inv h,Rps.bls t];rfl
def LJ(w:US K mg E n r):U5 K mg E (tCB (λxs H Q=>∃(p:Addr) (bs:List Bool),xs=[.ref p]/\SqL K H p (bs.map V.bl)/\Q (.bl<|bs.any id) H) n) (pCB HH r):=by
 refine KM w λH0 H H1 Z A y R Q s C G l h q=>?_;unfold HH at h;split at h
 ·obtain⟨v,rfl,o⟩:=l.one_inv;obtain⟨bs,e,x⟩:=h;have f:=o.rp s;rw[e]at f;obtain⟨a,z,rfl,g,u⟩:=f.lst_inv;rw[u.bls]at g;exact⟨a,bs,rfl,SqL.of g,q _ _ H1 x (Same.refl _) (.bl _)⟩
 ·grind
def Hr(neg:Bool):S->S->(S->Prop)->Prop:=λx y R=>match x.d,y.d with
 | .lst f,.lst []=>R (.sh<|.bl (if neg then !f.isEmpty else f.isEmpty))
 |_,_=>False
def NL{n g a b}(L:U5 K mg E n a)(J:U5 K mg E g b):U5 K mg E (tOp (FC K neg) n g) (p2 a b<|Hr neg):=by
 refine Ky L J λH0 H T Z x y v u R Q o Y hm A z h q=>?_;have s:=A.rp o;have p:=z.rp o;unfold Hr at h;split at h
 ·rename_i ds N M;rw[N]at s;rw[M]at p;obtain⟨l,w,rfl,G,r⟩:=s.lst_inv;obtain⟨m,U,rfl,f,C⟩:=p.lst_inv;cases C
  refine⟨l,m,w,rfl,rfl,SqL.of G,SqL.of f,?_⟩;rw[Fs r.len];exact q _ _ T h (Same.refl _) (.bl _)
 ·grind
def G8(x y:Int){k}(h:k=0\/k=1):atI [D.int x,D.int y] k=some (.int (if k=0 then x else y)):=by
 rcases h with rfl|rfl
 ·rfl
 ·rfl
def PH(xs:List g)(lo f:Option Int):(cutD xs lo f).Sublist xs:=(QX _ _).trans (List.drop_sublist _ _)
noncomputable def Ck(i:Nat)(b a:PTE):PTS:=λR γ=>match γ[i]? with
 |some (some<|.own<|.lst f)=>a γ (λs=>b γ (λy=>match y.d with
   | .int k=>∃j d,ixN f.length k=some j/\s.shd=some d/\R.nx (γ.set i<|some<|.own<|.lst<|f.set j d)
   |_=>False) (R.ex γ)) (R.ex γ)
 |some (some<|.own<|.lsA x f)=>a γ (λs=>b γ (λy=>match y.d with
   | .int k=>∃j d,ixN f.length k=some j/\s.shd=some d/\R.nx (γ.set i<|some<|.own<|.lsA x<|f.set j d)
   |_=>False) (R.ex γ)) (R.ex γ)
 |_=>False
theorem Rps.set (h:Rp K H d v):∀{ds vs} j,Rps K H ds vs->Rps K H (ds.set j d) (vs.set j v)
 |_,_,_,.nil=>.nil
 |_,_,0,.cons _ r=>.cons h r
 |_,_,j+1,.cons k r=>.cons k (Rps.set h j r)
def Zg0(i:Nat){tb te a b}(hb:U5 K mg E tb b)(ha:U5 K mg E te a):UJ K mg E (PV te<|Ci (X6 i) tb D3) (Ck i b a):=by
 intro H0 B H σ γ R D hB g h e;have hx:=λc H' M A=>e.ex σ γ c H' M (g.grow A) (Fr.grow A);unfold Ck at h;split at h
 ·rename_i ds L;obtain⟨v,J,l,rfl,Y,us,U,G⟩:=g.slot i _ L;refine ha H0 B H σ γ _ _ _ g h (λs u H1 h1 o Q=>⟨_,J,?_⟩) hx;have f:=g.grow o;refine hb H0 B H1 σ γ _ _ _ f h1 (λy w H2 r p N=>?_) λc H' M A=>hx c H' M (o.trans A);have n:=f.grow p;have C:=N.rp n.same;split at r
  ·rename_i k ek;rw[ek]at C;obtain⟨j,d,h3,h4,h5⟩:=r;have T:=Rp.mono (UF p λ_ _ _ z=>z) (Q.shd f.same g.zm o h4);refine⟨l,us,k,j,rfl,C.int_inv,(o.trans p) _ _ U,by rw[G.len];exact h3,?_⟩;obtain⟨e2,f2⟩:=n.mutate (es:=.lst (ds.set j d)) (us:=.lst (us.set j u)) L J trivial λF H' SF hF=>⟨_,hF,Rps.mono SF (Rps.set T j<|Rps.mono (UF (o.trans p) λ_ _ _ z=>z) G)⟩;exact e.nx _ _ _ h5 e2 ((Fr.grow<|o.trans p).trans f2)
  ·exact r.elim
 ·rename_i x ds L;obtain⟨v,J,l,rfl,Y,rfl,us,U,G⟩:=g.slot i _ L;refine ha H0 B H σ γ _ _ _ g h (λs u H1 h1 o Q=>⟨_,J,?_⟩) hx;have f:=g.grow o;refine hb H0 B H1 σ γ _ _ _ f h1 (λy w H2 r p N=>?_) λc H' M A=>hx c H' M (o.trans A);have n:=f.grow p;have C:=N.rp n.same;split at r
  ·rename_i k ek;rw[ek]at C;obtain⟨j,d,h3,h4,h5⟩:=r;have T:=Rp.mono (UF p λ_ _ _ z=>z) (Q.shd f.same g.zm o h4);refine⟨l,us,k,j,rfl,C.int_inv,(o.trans p) _ _ U,by rw[G.len];exact h3,?_⟩;obtain⟨e2,f2⟩:=n.mutate (es:=.lsA l (ds.set j d)) (us:=.lst (us.set j u)) L J trivial λF H' SF hF=>⟨rfl,_,hF,Rps.mono SF (Rps.set T j<|Rps.mono (UF (o.trans p) λ_ _ _ z=>z) G)⟩;exact e.nx _ _ _ h5 e2 ((Fr.grow<|o.trans p).trans f2)
  ·exact r.elim
 ·exact h.elim
end
end Pu
namespace PySem
open Sem (wp)
structure Zep {K:Type} (es:List DictEntry) (kvs:List (K×Value)):Prop where
 length:es.length=kvs.length
 get?:∀{i:Nat} {e:DictEntry} {k:K} {v:Value},es[i]?=some e->kvs[i]?=some (k,v)->True/\e.val=v
def VDict{K:Type}(h:Heap)(a:Addr)(f:List (K×Value))(l:Nat):Prop:=
 ∃o g,h.get? a=some o/\o.ExactDict/\o.data=.dict g l/\True/\Zep g.toList f/\True
section
variable {prog:Program}{w:World}{K:Type}{A:Around}{E:ZV}{s:Shared}
def Zch(d:Addr)(g:(d==sysModules)=false) :
  MeetsIn prog w (Builtin.«dict.values» ⟨[.ref d],[]⟩) (λ_ R s=>s.TypeIs (.ref d) "dict"/\
   R (.ok<|.ret<|.ref s.heap.objs.size) {s with heap:=s.heap.push {cls:=.type "dict_values",data:=.fields #[.ref d]}}):=
 .of_wp λA R s ⟨f,h⟩=>by
  refine Wu ?_;unfold Builtin.Dict.noArgs;refine Wu (wpAny_notOrdered_dict f ?_);show wpAny _ _ (pure d) _ _ s;refine W1 ?_;show wpAny _ _ (Builtin.Dict.showsAll d >>= _) _ _ s;unfold Builtin.Dict.showsAll;rw[W2 (by rw[g];exact WN)];refine Wu (W1 ?_);exact Wu (Qp<|W1 ⟨_,rfl,h⟩)
def Zhq{v d:Addr}{g:List (K×Value)}{y:Nat}{Q:ZV}(l:s.heap.IsValuesView v d)(B:VDict s.heap d g y)(G:Q (.ref s.heap.objs.size) {s with heap:=s.heap.push {cls:=.type "dict_valueiterator",data:=.fields #[.ref d,.int 0 0,.int g.length 0,.int y 0]}}) :
  wpAny (model prog w) A (pyIter<|.ref v) Q E s:=by
 obtain⟨J,p,C,r⟩:=id l;obtain⟨o,H,u,N,f,M,z,L⟩:=id B;refine wpAny_pyIter_slot l.typeIs F.slot_dict_values_iter (QS F.slot_dict_values_iter l.typeIs F.entry_dict_values_iter ?_<|F.args_dict_values_iter_1 _);unfold Builtin.«dict_values.__iter__»;refine Wu (W1 ?_);refine Wu ?_;unfold Builtin.Dict_items.dictOf;refine Wu (Jk p r (x:=.ref d) rfl<|W1 ?_);refine Wu ?_;unfold Builtin.Dict_items.newIterator;refine Wu (wpAny_dictEntries u f ?_);refine Wu (wpAny_dictEpoch u f ?_);have n:H.size=g.length:=by rw[←z.length];simp
 have h:Builtin.Dict_items.ownsTuple "dict_valueiterator"=false:=by decide
 simp only[h,VC,VU];refine Qp (W1 ⟨_,rfl, "dict_valueiterator",_,⟨_,WD _ rfl,rfl⟩,F.slot_dict_valueiterator_next.lookup,?_⟩);simpa [rawInt,n]using G
def Ziu{n d:Addr}{i G:Nat}{f:List (K×Value)}{k:K}{v:Value}{Q:Yc->Shared->Prop}(g:s.heap.IsValIter n d i f.length G)(N:VDict s.heap d f G)(hx:f[i]?=some (k,v))(Y:∀L,L.IsValIter n d (i+1) f.length G->Heap.SameBut n s.heap L->Q (some v) {s with heap:=L}) :
  wpAny (model prog w) A (pyNext<|.ref n) Q E s:=by
 obtain⟨o,H,U,C⟩:=id g;obtain⟨od,B,y,T,z,hk,M,hn⟩:=id N;unfold pyNext
 refine Wu (wpAny_attempt (VH (name:=Str.ofString "__next__") g.typeIs QJ
  (QS QJ g.typeIs F.entry_dict_valueiterator_next ?_<|F.args_dict_valueiterator_next_1 _)))
 refine Wu (W1 ?_);refine Wu ?_;refine Wu ?_
 first|refine Wu (QN g.typeIs<|W1 ?_)|refine Wu (Vf g.typeIs<|W1 ?_)
 refine Wu (wpAny_fieldsOf H C ?_);have x:Builtin.Dict_items.ownsTuple "dict_valueiterator"=false:=by decide
 simp only[x,VC,VU];show wpAny _ _ (if (Value.ref d==Value.none)=true then _ else _) _ _ s;rw[W2 (show ¬((Value.ref d==Value.none)=true)from WN)]
 refine Wu (W1 ?_);refine Wu (wpAny_dictEntries y z ?_);have u:B.size=f.length:=by rw[←M.length];simp
 rw[W2 (by rw[u];simp)];refine Wu (W1 ?_);refine Wu (wpAny_dictEpoch y z ?_);rw[W2 (by simp)];refine W1 ?_
 have J:i<f.length:=by
  rcases Nat.lt_or_ge i f.length with h|h
  ·exact h
  ·simp[Q7 h]at hx
 have p:i<B.size:=by rw[u];exact J
 have r:B[i].val=v:=(M.get? (e:=B[i]) (by simp[p]) hx).2;simp only[show ¬((i:Int)<0)from by omega,VU,Qq,Q5 p]
 refine Wu ?_
 first|refine Wu (QN g.typeIs<|W1 ?_)|refine Wu (Vf g.typeIs<|W1 ?_)
 refine Wu (VY g.typeIs ?_);show wpAny _ _ (setField (.ref n) 1 (rawInt ((i:Int)+1)) >>= _) _ _ s;refine Wu (QF H C (by simp) ?_)
 have l:(s.heap.update n<|Obj.mapFields (·.setIfInBounds 1 (rawInt ((i:Int)+1)))).IsValIter n d (i+1) f.length G:=
  ⟨_,Qo _ H (QG<|Qw C _),(VO ..).trans U,by rw[Qw C];simp[rawInt]⟩
 refine Wu (QM ?_);refine Wu (VY (s:={s with heap:=s.heap.update n (Obj.mapFields (·.setIfInBounds 1 (rawInt ((i:Int)+1))))}) l.typeIs ?_)
 refine Wu (VY (s:={s with heap:=s.heap.update n (Obj.mapFields (·.setIfInBounds 1 (rawInt ((i:Int)+1))))}) l.typeIs ?_)
 show wpAny _ _ (pure B[i].val) _ _ _;exact W1 (W1 ⟨_,rfl,W1 (r▸Y _ l (Qx ..))⟩)
def Ro{r d:Addr}{i B:Nat}{g:List (K×Value)}{Q:Yc->Shared->Prop}(H:A.handled=none)(f:s.heap.IsValIter r d i g.length B)(G:VDict s.heap d g B)(hx:g[i]?=none)(L:∀y,Heap.ExtBut r s.heap y->Q none {s with heap:=y}):wpAny (model prog w) A (pyNext<|.ref r) Q E s:=by
 obtain⟨o,v,Y,x⟩:=id f;obtain⟨M,z,n,J,p,U,C,N⟩:=id G;unfold pyNext
 refine Wu (wpAny_attempt (VH (name:=Str.ofString "__next__") f.typeIs QJ
  (QS QJ f.typeIs F.entry_dict_valueiterator_next ?_<|F.args_dict_valueiterator_next_1 _)))
 refine Wu (W1 ?_);refine Wu ?_;refine Wu ?_
 first|refine Wu (QN f.typeIs<|W1 ?_)|refine Wu (Vf f.typeIs<|W1 ?_)
 refine Wu (wpAny_fieldsOf v x ?_);have l:Builtin.Dict_items.ownsTuple "dict_valueiterator"=false:=by decide
 simp only[l,VC,VU];show wpAny _ _ (if (Value.ref d==Value.none)=true then _ else _) _ _ s;rw[W2 (show ¬((Value.ref d==Value.none)=true)from WN)]
 refine Wu (W1 ?_);refine Wu (wpAny_dictEntries n p ?_);have h:z.size=g.length:=by rw[←C.length];simp
 rw[W2 (by rw[h];simp)];refine Wu (W1 ?_);refine Wu (wpAny_dictEpoch n p ?_);rw[W2 (by simp)];refine W1 ?_;have u:z.size<=i:=by rw[h];simpa using hx
 simp only[show ¬((i:Int)<0)from by omega,VU,Qq,VS u]
 refine Wu ?_
 first|refine Wu (QN f.typeIs<|W1 ?_)|refine Wu (Vf f.typeIs<|W1 ?_)
 show wpAny _ _ (setField (.ref r) 0 .none >>= _) _ _ s;refine Wu (QF v x (by simp) ?_);show wpAny _ _ (newExc (.type "StopIteration") [] >>= _) _ _ _;refine Wu ?_;simp only[newExc,newTuple];refine Wu (Qp ?_<|by size_fits);refine Wu (m:=firstArgMember _ _) (wpAny_of_eq (a:=Value.none) (by first|rfl|(simp only[firstArgMember];rfl)) ?_)
 refine Qp ?_ (by size_fits);simp only[raiseNew];refine Wu (wpAny_handled ?_);rw[show A.in1.handled=none from H]
 refine Wu (W1<|wpAny_throw ?_);refine Wu (wpAny_isInstance (T:="StopIteration") (b:=true) ⟨_,WD _ rfl,rfl⟩ isSubtype_stop ?_);exact W1 (L _ (((Qx ..).extBut.push _).push _))
end
end PySem
open PySem PySem.Spec PyProof.Rows
namespace Own
open L2
noncomputable def M3(K:ZQ):R2:=λx y H Q=>∃a b xs f,x=.ref a/\y=.ref b/\SqT K H a xs/\SqT K H b f/\xs.length+f.length<=sizeLine/\
 (xs=[]->Q (.ref b) H)/\(xs≠[]->f=[]->Q (.ref a) H)/\(xs≠[]->f≠[]->∀p,H p=none->Q (.ref p) (upd H p<|.tup (xs++f)))
section
variable {X:Cx}{K:ZQ}
def Zlx(hK:autoParam (X.K=K) au_0):OpR X (binaryOp .Add) (M3 K):=by
 subst hK;intro pins s J H x y v u Q I N M h;obtain⟨a,b,xs,L,rfl,rfl,E,C,hz,q0,Y,U⟩:=h;cases N
 cases M
 by_cases hx:xs=[]
 ·obtain⟨r,T,p1,_⟩:=I.tuple E;obtain⟨f,r2,p2,_⟩:=I.tuple C;have e:=T.nil_iff.mpr hx;obtain⟨⟨cls,dd,data,sl⟩,z,B,n,A⟩:=id p1;obtain⟨⟨G,w,data2,p⟩,g,o,n2,l⟩:=id p2;simp only at B A o l;subst B A o l
  exact concat_meets ⟨_,z,rfl⟩ ⟨_,g,rfl⟩ noFill_tuple_add seq_tuple_add VR VG (V9 _ _)
   (tuple_addW0 a b r.toArray f.toArray n n2 dd w sl p<|by grind) ⟨z,g,⟨.ref b,H,I,rfl,q0 hx⟩⟩
 ·exact Zcx pins s J H (.ref a) (.ref b) _ _ Q I rfl rfl ⟨a,b,xs,L,rfl,rfl,E,C,hx,hz,Y hx,U hx⟩
def Zai(h:VV [(.ref b,x)] f):∃r,f=[(.ref b,r)]/\RelV x r:=by
 cases h with
 |cons h t=>
  cases t
  rename_i y;obtain⟨u,r⟩:=y;obtain⟨g,l⟩:=h;cases g
  grind
noncomputable def Ex(n l:TE):TE:=λg H Q=>∀p,H p=none->n g (upd H p<|.dT []) λy o=>l g o λx f=>f p=some (.dT [])/\∃b h,y=.ref b/\f b=some (.tup<|h.map kV)/\Q (.ref p) (upd f p<|.dT [(h,x)])
def Zfs{r p pos}(M:X.A.units+1<cLine)(T:PE X k r)(L:PE X v p):PE X (.Dict [some k] [v] pos) (Ex r p):=by
 intro pins s C H Q I q
 refine wpAny_Dict_any rfl rfl (by simp) (by simp) (thn ((Rj T L Oh) pins _ C _ (λw l=>match w with
  |[(y,x)]=>l s.heap.objs.size=some (.dT [])/\∃b g,y=.ref b/\l b=some (.tup<|g.map kV)/\Q (.ref s.heap.objs.size) (upd l s.heap.objs.size<|.dT [(g,x)])
  |_=>False) (I.laid (t':=s.toks) (λ_ _ q=>Wz _ q) (W5 _)<|GP s.heap I.big)<|q _<|I.hok.fresh<|W5 s.heap.objs.size) λws s2 ⟨w,l,o,rel,h⟩=>?_)
 split at h
 ·rename_i y x;obtain⟨e,b,g,ey,B,J⟩:=h;subst ey;obtain⟨E,ew,G⟩:=Zai rel;subst ew;obtain⟨z,U,xs,f,dd⟩:=Bl o.hok e;cases f
  unfold storeAll;rw[List.forIn_cons];refine Wu (Wu (wpAny_dictSet_heap (Nat.lt_of_succ_lt M) (NO o.hok B) dd λh' n N=>W1 ?_))
  dsimp only
  refine W1 ?_;obtain⟨u,es,ep,hq,h,h3,h4,_,Y⟩:=n;refine⟨.ref s.heap.objs.size,_,AD (ob:=.dT [(g,x)]) o (by rw[e];exact True.intro) N ⟨u,hq⟩ ⟨(by show 1<=sizeLine;decide),U,[(g,b,E)],?_,u,es,ep,hq,h,h3,h4,Y⟩,rfl,J⟩;refine .cons ⟨rfl,?_,G⟩ .nil;rwa[UR (Hk B e (λz=>nomatch z))]
 ·exact h.elim
end
section
variable {prog:Program}{w:World}{A:Around}{K:Type}{d r:Addr}{kvs:List (K×Value)}{ep:Nat}{h h':Heap}
def VDict.at (x:VDict h d kvs ep) (e:∀o,h.get? d=some o->h'.get? d=some o):VDict h' d kvs ep:=let ⟨o,g,f,r⟩:=x;⟨o,g,e _ f,r⟩
def VDict.lt (x:VDict h d kvs ep):d<h.objs.size:=let ⟨_,_,f,_⟩:=x;WE f
def Zi1(hh:A.handled=none)(I d:Addr)(hne:d≠I)(kvs:List (K×Value))(ep:Nat) :
  Walks prog w A I [I,d] [I] kvs.length (λi v=>∃k,kvs[i]?=some (k,v)) (λi h=>h.IsValIter I d i kvs.length ep/\VDict h d kvs ep) where
 sub:=λb hb=>by simp at hb;simp[hb]
 frame:=λ_ _ _ st hk=>⟨st.1.at λo e=>hk I (by simp) o e,VDict.at st.2 λo e=>hk d (by simp) o e⟩
 item:=λi s Q E hi st hQ=>by
  refine Ziu (k:=(kvs[i]).1) (v:=(kvs[i]).2) st.1 st.2 (by grind) λh' hit' hs'=>?_;exact hQ _ h' s.toks ⟨(kvs[i]).1,by simp[hi]⟩ ⟨hit',VDict.at st.2 λo e=>hs'.extBut d o hne e⟩ λb o hb e=>hs'.extBut b o (λh=>hb (by grind)) e
 done:=λs Q E st hQ=>Ro hh st.1 st.2 (by simp) λh' he'=>hQ h' s.toks λb o hb e=>he' b o (λh=>hb (by grind)) e
 self:=λ_ _ _ _ st hQ=>wpAny_pyIter_valiter st.1 hQ
def Zdq:PySem.W.KdlSrc prog w "dict_values" r d kvs.length (λi v=>∃k,kvs[i]?=some (k,v)) (λh=>h.IsValuesView r d/\VDict h d kvs ep) where
 type:=λ_ hm=>hm.1.typeIs
 there:=λ_ hm=>⟨let ⟨_,ho,_⟩:=hm.1;WE ho,VDict.lt hm.2⟩
 keep:=λ_ _ hm hk=>⟨let ⟨o,ho,x⟩:=hm.1;⟨o,hk r (.inl rfl) o ho,x⟩,VDict.at hm.2 λo e=>hk d (.inr rfl) o e⟩
 notList:=by decide
 notTuple:=by decide
 hint:=λ_ _ _ _ hm hq=>PySem.W.kdl_hint_values hm.1.typeIs hq
 iter:=λ_ _ hh hm=>⟨_,_,(λ_ _ hq=>Zhq hm.1 hm.2 hq),Zi1 hh _ d (WV<|VDict.lt hm.2) kvs ep,⟨⟨_,WD _ rfl,rfl,rfl⟩,VDict.at hm.2 λo e=>Wz _ e⟩⟩
end
noncomputable def Sz(v d:Addr):HO:=.ext λh=>h.IsValuesView v d
def Ao:V->List V->Hp->VK->Prop:=λx g H Q=>∃d f,x=.ref d/\g=[]/\H d=some (.dT f)/\∀v,H v=none->Q (.ref v) (upd H v<|Sz v d)
section
variable {X:Cx}
def Zjj:MtR X "dict.values" Ao:=by
 intro pins s y H x xs v A Q I l n h;obtain⟨d,p,rfl,rfl,u,q⟩:=h;cases l
 have g:=n.zero;subst g;obtain⟨z,lo,xs,rel,w⟩:=Bl I.hok u;obtain⟨o,E,G,f,hx,_⟩:=id w;refine call_meetsIn PySem.F.slot_dict_values ⟨o,f,hx.1⟩ PySem.F.entry_dict_values (PySem.F.args_dict_values_1 _) (Zch d lo) ⟨⟨o,f,hx.1⟩,?_⟩;refine⟨.ref s.heap.objs.size,_,I.laid (o:=Sz s.heap.objs.size d) (λ_ _ q=>Wz _ q) (W5 _) ⟨⟨_,WD _ rfl,rfl,rfl⟩,⟨_,WD _ rfl⟩,λC B ⟨o,f,r⟩ e=>⟨o,e o f,r⟩⟩,rfl,q _ (I.hok.fresh<|W5 _)⟩
def Zmd{K}{o}{to}{name:Str}{apos cpos}(h:PE X o to)(n:autoParam (X.K=K) au_0)(l:autoParam (name = "values") au_0)(g:autoParam (attributeBase o name X.env (eval o X.env)=eval o X.env) au_0)(f:autoParam ((apos.endLine==cpos.line)=true) au_0):PE X (.Call (.Attribute o name apos) [] [] cpos) (NN K "dict" Ao to):=by
 subst n l;exact Sv PySem.F.plainAttrs_dict PySem.F.slot_dict_values PySem.F.type_dict_values Zjj h g f
def G6:∀{kvs}{xs:List (List Key×Addr×Value)},KT H kvs xs->Vals (kvs.map (·.2)) (xs.map (·.2.2)):=by
 intro g
 induction g with
 |nil=>
  intro _ h;cases h
  exact .nil
 |cons _ _ f=>
  intro _ h;cases h with
  |cons h r=>
   exact .cons h.2.2 (f r)
def Zhw(T:X.calm=true):X5 X (.type "list") (λxs H Q=>∃v d f,xs=[.ref v]/\H v=some (Sz v d)/\H d=some (.dT f)/\∀l,H l=none->Q (.ref l) (upd H l<|.lst<|f.map (·.2))):=by
 intro pins s σ H xs us Q I C h;obtain⟨v,d,f,rfl,G,N,q⟩:=h;obtain⟨u,rfl,E⟩:=C.one;obtain rfl:=E;obtain⟨z,lo,xs,rel,dd⟩:=Bl I.hok N;obtain⟨o,Y,ep,L,hx,p,A,y,hn⟩:=id dd;have hl:xs.length=f.length:=by simpa using(G6 rel).length.symm
 have B:VDict s.heap d (xs.map λx=>((),x.2.2)) ep:=by
  refine⟨o,Y,L,hx,p,trivial,⟨by rw[A,Wt,Wt],λ{i e k v} w r=>⟨trivial,?_⟩⟩,trivial⟩;rw[A,W6]at w;rw[W6]at r;cases M:xs[i]? with
  |none=>grind
  |some x=>
   rw[M]at w r;cases w
   cases r
   rfl
 refine PySem.W.kdl_call Zdq (I.ok.hd T) ⟨((I.hok v _ G).1),B⟩ (by rw[Wt];lia) λh' tk n c' y U g=>?_;refine⟨.ref s.heap.objs.size,upd H s.heap.objs.size (.lst<|f.map (·.2)),?_,rfl,q _ (I.hok.fresh<|W5 _)⟩;refine I.laid y (W5 _) ⟨by rw[Wt];exact z,n.toList,c',?_,by simpa using U⟩;rw[(PySem.W.kdl_vals_eq n.toList (by rw[Qt];exact g.1) λj u J=>g.2 j u (by rw[←J,Q6])),Qi];exact G6 rel
end
end Own
namespace Pu
open L2 Own M
section
variable {K:ZQ}{mg:ZU}{E:L2.St->XK}{H0 H H1 H':Hp}{B Z Z':Addr->Prop}{σ:L2.St}{γ:Γ}
noncomputable def Nt:Option D->Option (List D)
 |some (.tup f)=>some f|_=>none
def A2(h:Nt o=some ds):o=some (.tup ds):=by
 unfold Nt at h;split at h
 ·grind
 ·grind
def Zd0:S->S->(S->Prop)->Prop:=λx y R=>∃g f,Nt x.shd=some g/\Nt y.shd=some f/\g.length+f.length<=100000/\R (.sh<|.tup (g++f))
def Rx{a b}(Y:U5 K mg E M a)(U:U5 K mg E L b):U5 K mg E (tOp (M3 K) M L) (p2 a b Zd0):=by
 refine Ky Y U λH0 H H2 Z x y v u R Q s f r J G h q=>?_;obtain⟨ds,es,e1,e2,T,h⟩:=h;have N:=J.shd s r f (A2 e1);have w:=G.shd s r f (A2 e2);obtain⟨l,C,rfl,h1,o⟩:=Rp.tup_inv N;obtain⟨m,A,rfl,h2,n⟩:=Rp.tup_inv w;refine⟨l,m,C,A,rfl,rfl,SqT.of (off_sub _ _ h1),SqT.of (off_sub _ _ h2),by rw[o.len,n.len];exact W9 T (by decide),λe=>?_,λ_ e=>?_,λ_ _ p g=>?_⟩
 ·subst e;cases o
  exact q _ _ _ h (Same.refl _) w
 ·subst e;cases n
  refine q _ _ _ h (Same.refl _) ?_;rw[Qn];trivial
 ·refine q _ _ _ h (Xq g) (.tup (Xe UZ λz=>?_)<|Rps.mono (UF (Xq g) λ_ _ _ z=>z)<|o.append n)
  have:=(λb z=>KQ f (r b z)) p z
  rw[g]at this;exact this
noncomputable def pIT(a:PTE):PTI:=λγ R X=>a γ (λs=>∃f,Nt s.shd=some f/\R f.length λi=>.sh (f.getD i .non)) X
def NU(M:U5 K mg E te a):SndI K mg E (CQ K te) (pIT a):=by
 intro H0 B H σ γ R X Q f h q G;refine M H0 B H σ γ _ X _ f h (λs v H1 o p C=>?_) G;obtain⟨z,N,o⟩:=o;obtain⟨l,g,rfl,n,r⟩:=Rp.tup_inv (C.shd (f.grow p).same f.zm p (A2 N));refine⟨l,rfl,⟨g,SqT.of (off_sub _ _ n)⟩,q _ _ _ H1 o p ⟨λi H' Z' J lt=>?_,λH' Z' lt=>?_⟩⟩
 ·have L:z[i]?=some (z.getD i .non):=by rw[WA,Wv J];rfl
  obtain⟨u,w,A⟩:=r.get L;have k:=off_sub _ _ (lt.off _ _ n);refine⟨⟨g,u,SqT.of k,w⟩,λx T y=>?_⟩;obtain⟨rfl,y⟩:=y
  have:=y g (SqT.of k)
  rw[w]at this;cases this
  exact⟨Same.refl _,Rp.mono lt.off A⟩
 ·exact⟨g,SqT.of (off_sub _ _<|lt.off _ _ n),by rw[r.len];exact W5 _⟩
noncomputable def Nf:List (List Key×V)->Bool
 |[]=>true
 |p::r=>Bs p.2&&Nf r
theorem Ig:∀{f:List (List Key×V)},Nf f=true->Rps K H (f.map λp=>vD p.2) (f.map (·.2))
 |[],_=>.nil
 |p::r,h=>by
  unfold Nf at h;rw[Ql]at h;exact .cons (FV h.1) (Ig h.2)
def Zhn:List V->Hp->VK->Prop:=λxs H Q=>∃(v d:Addr) (f:List (List Key×V)),xs=[.ref v]/\H v=some (Sz v d)/\H d=some (.dT f)/\∀l,H l=none->Q (.ref l) (upd H l<|.lst<|f.map (·.2))
noncomputable def Zi7(a:PTE):PTE:=λγ R X=>a γ (λs=>∃f,s.d=.dT f/\Nf f=true/\R (.own<|.lst (f.map λp=>vD p.2))) X
def Zl6(C:U5 K mg E te a):U5 K mg E (tCB Zhn<|Xk (NN K "dict" Ao te) XT) (Zi7 a):=by
 intro H0 B H σ γ R X Q g h q z;refine C H0 B H σ γ _ X _ g h (λs v H1 J o y=>?_) z;obtain⟨f,e,A,G⟩:=J;have r:=y.rp (g.grow o).same;rw[e]at r;obtain⟨l,rfl,n⟩:=r.dT_inv;refine⟨.inr (.inr<|.inl ⟨rfl,.inr ⟨f,n⟩⟩),l,f,rfl,rfl,n,λp u=>?_⟩;refine⟨p,l,f,rfl,UZ,by rw[UR (K6 n u)];exact n,λm w=>?_⟩;have x:Same H1 (upd H1 p<|Sz p l):=Xq u;exact q _ _ _ G ((o.trans x).trans (Xq w)) ⟨m,rfl,(λ_ e=>e▸(o.trans x).free w),_,UZ,Ig A⟩
noncomputable def Zj2(a b:PTE):PTE:=λγ R X=>a γ (λy=>b γ (λx=>∃f u,TN y.d=some f/\BB x.d=some u/\R (.own<|.dT [(f,u)])) X) X
def Zia{a b}(ha:U5 K mg E L a)(hb:U5 K mg E J b):U5 K mg E (Ex L J) (Zj2 a b):=by
 intro H0 B H σ γ R X Q A h q G p s;have r:Same H (upd H p<|.dT []):=Xq s;have env0:=A.grow r;refine ha H0 B _ σ γ _ X _ env0 h (λy v H1 h1 n N=>?_) λc H' g C=>G c H' g (r.trans C);have f:=env0.grow n;refine hb H0 B H1 σ γ _ X _ f h1 (λx w H2 h2 l M=>?_) λc H' g C=>G c H' g ((r.trans n).trans C);obtain⟨T,u,k1,Y,U⟩:=h2;have eu:=Dp (M.rp (f.grow l).same) Y;obtain⟨b',rfl,z⟩:=BJ (Rp.mono l<|N.rp f.same) k1;subst eu;refine⟨l _ _ (n _ _ UZ),b',T,rfl,z,q _ _ _ U (λc o g=>?_) ⟨p,rfl,(λ_ e=>e▸s),UZ⟩⟩
 have:c≠p:=λe=>by subst e;rw[s]at g;cases g
 rw[UR this];exact l _ _ (n _ _<|r _ _ g)
end
section
variable {X:Cx}{K:ZQ}
def NC{g l f}(h:PE X l f)(n:autoParam (X.K=K) au_0):PI X g l (CQ K f):=by subst n;exact MU h
end
end Pu
namespace M
open L2 Own Pu
noncomputable def tD(f:ZS):D:=.tup (f.map D.int)
noncomputable def kT(f:ZS):List Key:=f.map Sum.inl
def Zfu(f:ZS):arg (tD f)=.sh (tD f):=by
 unfold arg tD imm;rw[SX]
def N9:KG N (tD f::ds)=some (.sh<|tD f)::(ds.map (λd=>some (arg d))++List.replicate (N.length-(ds.length+1)) none):=by
 unfold KG;rw[WO,Zfu];rfl
def Bk(f:ZS):TN (tD f)=some (kT f):=by
 show Nk (f.map D.int)=some (f.map Sum.inl)
 induction f with
 |nil=>rfl
 |cons m r g=>
  rw[WO,WO];unfold Nk;rw[g];rfl
def RJ(f:ZS):Nt (some<|tD f)=some (f.map D.int):=rfl
noncomputable def UK(f:ZS)(h:Int):ZS:=f.filter λm=>decide (m≠h)
noncomputable def Po(f:ZR)(g:ZS)(h:Int):Bool:=!(f.any λq=>decide (q.1=h)&&decide (q.2∈g))
noncomputable def firstM(f:ZR)(g:ZS)(h:Int):Bool:=!(f.any λq=>decide (q.2=h)&&decide (q.1∈g))
noncomputable def UW(hs:ZS):List (ZS):=hs.foldl (λS h=>S++S.map (·++[h])) [[]]
def Tf(hs:ZS)(h:Int):UW (hs++[h])=UW hs++(UW hs).map (·++[h]):=by
 unfold UW;simp
def TU{P:ZS->Prop}(n:P [])(g:∀r h,P r->P (r++[h]))(l:ZS):P l:=by
 have f:∀r:ZS,P r.reverse:=λr=>by
  induction r with
  |_=>grind
 rw[←List.reverse_reverse l]
 grind
def MA(hs:ZS):(UW hs).length=2 ^ hs.length:=by
 refine TU (P:=λhs=>(UW hs).length=2 ^ hs.length) rfl (λr h f=>?_) hs;rw[Tf,W7,Wt,f,W7,QU,Nat.pow_succ];lia
def N7(hs:ZS):∀f∈UW hs,f.Sublist hs:=by
 refine TU (P:=λhs=>∀f∈UW hs,f.Sublist hs) (λf h=>?_) (λr h g f hm=>?_) hs
 ·have:f=[]:=by simpa [UW]using h
  grind
 ·rw[Tf,WC]at hm;rcases hm with hm|hm
  ·grind
  ·grind
noncomputable def oc(c:Int->Int->Int):ZS->Int
 |[]=>0
 |a::r=>(r.map<|c a).sum+oc c r
def Keeps(f:ZR)(o:ZS):Prop:=o.Pairwise λa b=>(b,a)∉f
structure Kn (ws:ZR) (c:Int->Int->Int) (ms:ZS) (v:Int):Prop where
 is:∃o:ZS,o.Perm ms/\Keeps ws o/\oc c o=v
 le:∀o:ZS,o.Perm ms->Keeps ws o->v<=oc c o
def Kn.uniq (h:Kn f c n v) (k:Kn f c n u):v=u:=by
 obtain⟨o,o1,l,s⟩:=h.is;obtain⟨p,g,p2,r⟩:=k.is
 have:=h.le p g p2
 have:=k.le o o1 l
 lia
theorem FU(c:Int->Int->Int)(l:Int):∀o,oc c (o++[l])=oc c o+(o.map (c · l)).sum
 |[]=>by simp[oc]
 |a::r=>by
  rw[QP];unfold oc;rw[FU c l r]
  grind
def ND{f:Int->Int}{xs ys:ZS}(h:xs.Perm ys):(xs.map f).sum=(ys.map f).sum:=by
 induction h with
 |nil=>rfl
 |trans _ _ l g=>lia
 |_=>grind
def P0{f:ZS}{h}(g:f.Nodup)(l:h∈f):f.Perm (h::UK f h):=by
 have e:UK f h=f.erase h:=by
  unfold UK;rw[g.erase_eq_filter]
  grind
 grind
def less_sub:(UK f h).Sublist f:=List.filter_sublist
def lastM_iff:Po f g h=true↔∀b∈g,(h,b)∉f:=by
 unfold Po;constructor
 ·grind
 ·grind
def firstM_iff:firstM f g h=true↔∀b∈g,(b,h)∉f:=by
 unfold firstM;constructor
 ·grind
 ·grind
def Zgb{ms}{vs:Int->Int}{M}(s:ms.Nodup)(hw:∀q∈h,q.1≠q.2)(w:∀l∈ms,Kn h c (UK ms l) (vs l))(E:∃l∈ms,Po h ms l=true/\M=vs l+((UK ms l).map (c · l)).sum)(C:∀l∈ms,Po h ms l=true->M<=vs l+((UK ms l).map (c · l)).sum):Kn h c ms M:=by
 constructor
 ·obtain⟨l,g,f,e⟩:=E;obtain⟨o,o1,n,x⟩:=(w l g).is;refine⟨o++[l],?_,?_,?_⟩
  ·exact(List.perm_append_singleton l o).trans (((List.Perm.cons l o1)).trans (P0 s g).symm)
  ·refine Va.mpr ⟨n,List.pairwise_singleton _ _,λa B b v=>?_⟩;rw[Wx.mp v];exact lastM_iff.mp f a (less_sub.subset<|o1.mem_iff.mp B)
  ·rw[FU,x,e,ND o1]
 ·intro o o1 n;rcases Q9 o with rfl|⟨p,l,rfl⟩
  ·grind
  ·rw[QV]at o1 n ⊢;have g:l∈ms:=o1.mem_iff.mp (by simp);obtain⟨A,_,y⟩:=Va.mp n
   have r:p.Perm (UK ms l):=by
    have:=((List.perm_append_singleton l p).symm.trans o1).trans (P0 s g)
    exact this.cons_inv
   have f:=lastM_iff.mpr λb v=>by
    rcases W8.mp ((P0 s g).mem_iff.mp v)with e|u
    ·subst e;exact λz=>hw _ z rfl
    ·exact y b (r.mem_iff.mpr u) l (Wx.mpr rfl)
   have a1:=C l g f;have a2:=(w l g).le p r A;rw[FU,ND r];lia
def HK(a b:ZS)(l:Int):UK (a++b) l=UK a l++UK b l:=Jq ..
def Gg(h:l∉a):UK a l=a:=List.filter_eq_self.mpr λm f=>Ww λe=>h (e▸f)
def Zcv(hs:ZS):∃T,UW hs=[]::T:=by
 refine TU (P:=λhs=>∃T,UW hs=[]::T) ⟨[],rfl⟩ (λr h ⟨T,e⟩=>?_) hs;rw[Tf,e]
 grind
def II(hs:ZS):(UW hs).getLast?=some hs:=by
 refine TU (P:=λhs=>(UW hs).getLast?=some hs) rfl (λr h e=>?_) hs;rw[Tf,List.getLast?_append,List.getLast?_map,e];rfl
def Ls:hs.Nodup->(UW hs).Nodup:=by
 refine TU (P:=λhs=>hs.Nodup->(UW hs).Nodup) (λ_=>by simp[UW]) (λr h l n=>?_) hs;obtain⟨g,_,o⟩:=Qm.mp n;rw[Tf];refine Qm.mpr ⟨l g,?_,λa s b p e=>?_⟩
 ·exact List.Pairwise.map _ (λa b f e=>f (List.append_cancel_right e)) (l g)
 ·obtain⟨c,u,rfl⟩:=WZ.mp p;subst e;exact o h ((N7 r _ s).subset (by simp)) h (by simp) rfl
def Hf:hs.Nodup->∀k f,(UW hs)[k]?=some f->∀l∈f,∃j:Nat,j<k/\(UW hs)[j]?=some (UK f l):=by
 refine TU (P:=λhs=>hs.Nodup->∀k f,(UW hs)[k]?=some f->∀l∈f,∃j,j<k/\(UW hs)[j]?=some (UK f l)) (λ_ k f e l p=>?_) (λr h x y k f e l p=>?_) hs
 ·have:f=[]:=by
   have:=W4 e
   simpa [UW]using this
  subst this;cases p
 ·obtain⟨w,_,A⟩:=Qm.mp y;rw[Tf]at e ⊢;by_cases B:k<(UW r).length
  ·rw[Qb B]at e;obtain⟨j,g,o⟩:=x w k f e l p;exact⟨j,g,by rw[Qb (by lia)];exact o⟩
  ·rw[Qh (by lia),W6]at e;cases q:(UW r)[k-(UW r).length]? with
   |none=>rw[q]at e;cases e
   |some n=>
    rw[q]at e;cases e
    have C:=λz=>A h ((N7 r n<|W4 q).subset z) h (by simp) rfl;by_cases u:l=h
    ·subst u
     have v:UK (n++[l]) l=n:=by
      rw[HK,Gg C];simp[UK]
     obtain⟨j,g,o⟩:=WY.mp (W4 q);refine⟨j,by lia,?_⟩;rw[Qb g,v,Wv g,o]
    ·have s:l∈n:=by
      rcases WC.mp p with z|z
      ·exact z
      ·exact absurd (Wx.mp z) u
     have v:UK (n++[h]) l=UK n l++[h]:=by
      rw[HK];congr 1;exact Gg λz=>u (Wx.mp z)
     obtain⟨j,g,o⟩:=x w _ n q l s;refine⟨(UW r).length+j,by lia,?_⟩;rw[Qh (by lia),W6,Nat.add_sub_cancel_left,o,v];rfl
def Bj(h:kT a=kT b):a=b:=List.map_inj_right (λ_ _=>Sum.inl.inj) |>.mp h
def GU(hs:ZS)(g:ZR):Prop:=∀f:ZS,f.Sublist hs->f≠[]->∃l∈f,∀b∈f,(l,b)∉g
structure Tab (ws:ZR) (c:Int->Int->Int) (S:List (ZS)) (kvs:List (List Key×V)):Prop where
 keys:kvs.map (·.1)=S.map kT
 val:∀ms∈S,∃v,UL kvs (kT ms)=some (.int v)/\Kn ws c ms v
def OB(f:ZR)(c:Int->Int->Int):Tab f c [[]] [([],.int 0)]:=by
 refine⟨rfl,λl h=>?_⟩;rw[Wx.mp h];refine⟨0,rfl,⟨[],.refl _,.nil,rfl⟩,λo g _=>?_⟩;rw[g.eq_nil];exact Int.le_refl _
def Tab.put {S f h v} (T:Tab l c S f) (r:h∉S) (L:Kn l c h v):Tab l c (S++[h]) (putK f (kT h)<|.int v):=by
 have no:UL f (kT h)=none:=by
  cases e:UL f (kT h)with
  |none=>rfl
  |some u=>
   unfold UL at e;cases q:f.find? (λp=>decide (p.1=kT h))with
   |none=>rw[q]at e;cases e
   |some x=>
    have s:=List.find?_some q;have o:x.1∈f.map (·.1):=WZ.mpr ⟨x,(List.mem_of_find?_eq_some q),rfl⟩;rw[T.keys,Wy s]at o;obtain⟨n,g,w⟩:=WZ.mp o;rw[Bj w]at g;exact absurd g r
 constructor
 ·rw[Zal _ no,WI,WI,T.keys];rfl
 ·intro n g;rw[Ba];by_cases e:n=h
  ·grind
  ·rw[W2 λz=>e (Bj z)];rcases WC.mp g with z|z
   ·exact T.val n z
   ·exact absurd (Wx.mp z) e
open Classical in
def DV{n:ZS}{P:Int->Int->Prop}(h:∀l∈n,∃v,P l v):∃f:Int->Int,∀l∈n,P l (f l):=
 ⟨λl=>if g:l∈n then Classical.choose (h l g)else 0,λl g=>by
  simp only[dif_pos g];exact Classical.choose_spec (h l g)⟩
def OW{r}(R:Ring o (l.map λq=>(q.2,q.1)) r):Ring o l r.reverse:=by
 have n:∀{x y:Int},(x,y)∈(l.map λq=>(q.2,q.1))->(y,x)∈l:=λh=>by
  obtain⟨q,hq,e⟩:=WZ.mp h;cases e
  exact hq
 refine⟨by rw[Vk];exact R.two,List.pairwise_reverse.mpr (R.nodup.imp λh=>Ne.symm h),λx hx=>R.sub x (List.mem_reverse.mp hx),λi x y g f=>?_,λx y g f=>?_⟩
 ·have p:i+1<r.length:=by
   have:=(WH.mp f).1
   rw[Vk]at this;exact this
  rw[VZ (by lia)]at g f;exact n (R.chain (r.length-1-(i+1)) y x f<|by rw[←g];congr 1;lia)
 ·have two:=R.two;rw[VZ (by lia)]at g;rw[Vk,VZ (by lia)]at f;exact n (R.last y x (by rw[←f];congr 1;lia)<|by rw[←g];congr 1)
def IH{ws}(l:∀q∈ws,q.1≠q.2)(h:¬ ∃r,Ring hs ws r):GU hs ws:=λg o f=>by
 refine WQ λz=>h ?_
 have s:∀x∈g,∃y∈g,(y,x)∈(ws.map λq=>(q.2,q.1)):=λx hx=>by
  grind
 obtain⟨r,R⟩:=GD (λq hq=>by
  obtain⟨p,n,e⟩:=WZ.mp hq;subst e;exact λe=>l p n e.symm) f s
 have F:=OW R;exact⟨_,F.two,F.nodup,λx hx=>o.subset (F.sub x hx),F.chain,F.last⟩
theorem E4:∀{f:List (List Key×V)},(f.map (·.1)).Nodup->∀p∈f,UL f p.1=some p.2
 |[],_,p,h=>by cases h
 |q::r,g,p,h=>by
  rw[WO,Qg]at g;rcases W8.mp h with e|h
  ·rw[e];exact KB rfl
  ·rw[KN λe=>g.1 (WZ.mpr ⟨p,h,e.symm⟩)];exact E4 g.2 p h
def Mo(g:ZR)(c:Int->Int->Int)(S:List (ZS))(vs:ZS):Prop:=vs.length=S.length/\∀(i:Nat) (f:ZS) (v:Int),S[i]?=some f->vs[i]?=some v->Kn g c f v
def Tab.vals {S f} (T:Tab s c S f) (z:S.Nodup):∃vs,f.map (·.2)=vs.map V.int/\Mo s c S vs:=by
 have y:(f.map (·.1)).Nodup:=by
  rw[T.keys];exact List.Pairwise.map _ (λa b r e=>r (Bj e)) z
 have x:∀p∈f,∃g∈S,p.1=kT g/\∃v,p.2=.int v/\Kn s c g v:=λp l=>by
  have o:p.1∈f.map (·.1):=WZ.mpr ⟨p,l,rfl⟩;rw[T.keys]at o;obtain⟨g,w,e⟩:=WZ.mp o;obtain⟨v,h,n⟩:=T.val g w;rw[e,E4 y p l]at h;exact⟨g,w,e.symm,v,WB h,n⟩
 have C:f.length=S.length:=by
  have:=Qk List.length T.keys
  rw[Wt,Wt]at this;exact this
 refine⟨f.map λp=>match p.2 with | .int v=>v|_=>0,?_,by rw[Wt,C],λi g v o h=>?_⟩
 ·rw[Qi];refine Jh λp l=>?_;obtain⟨g,_,_,v,e,_⟩:=x p l;show p.2=V.int (match p.2 with | .int v=>v|_=>0)
  rw[e]
 ·rw[W6]at h;cases q:f[i]? with
  |none=>rw[q]at h;cases h
  |some p=>
   obtain⟨A,B,E,u,H,L⟩:=x p (W4 q);have n:(f.map (·.1))[i]?=some p.1:=by rw[W6,q];rfl
   rw[T.keys,W6,o]at n;have G:=Bj ((WB n).trans E);simp_all
theorem Ml:∀{kvs}{vs:ZS},kvs.map (·.2)=vs.map V.int->Nf kvs=true/\kvs.map (λp=>vD p.2)=vs.map D.int
 |[],[],_=>⟨rfl,rfl⟩
 |p::r,v::vs,h=>by
  rw[WO,WO,Je]at h;obtain⟨g,f⟩:=Ml h.2;unfold Nf;rw[g,WO,WO,f,h.1];trivial
structure KI (ws:ZR) (c:Int->Int->Int) (ms o:ZS):Prop where
 perm:o.Perm ms
 keeps:Keeps ws o
 le:∀p:ZS,p.Perm ms->Keeps ws p->oc c o<=oc c p
 first:∀p:ZS,p.Perm ms->Keeps ws p->oc c p=oc c o->o=p\/sl o p
def O2(g:ZR)(c:Int->Int->Int):KI g c [] []:=by
 refine⟨.refl _,.nil,λp f _=>?_,λp f _ _=>.inl f.eq_nil.symm⟩;simp_all
def GG{ms}{vs:Int->Int}{V g}{p}(r:ms.Nodup)(A:∀q∈n,q.1≠q.2)(v:∀l∈ms,Kn n c (UK ms l) (vs l))(G:Kn n c ms V)(w:(g::p).Perm ms)(B:Keeps n (g::p))(e:oc c (g::p)=V):g∈ms/\firstM n ms g=true/\vs g+((UK ms g).map (c g)).sum=V/\p.Perm (UK ms g)/\oc c p=vs g:=by
 have h:=w.mem_iff.mp (WW ..);have u:=(w.trans<|P0 r h).cons_inv;obtain⟨M,y⟩:=QE.mp B
 have C:=firstM_iff.mpr λb s=>by
  rcases W8.mp ((P0 r h).mem_iff.mp s)with e|E
  ·subst e;exact λz=>A _ z rfl
  ·grind
 have a1:=(v g h).le p u y;obtain⟨o,o1,x,L⟩:=(v g h).is;have a2:=G.le (g::o) ((List.Perm.cons g o1).trans (P0 r h).symm) (QE.mpr ⟨λb s=>firstM_iff.mp C b (less_sub.subset<|o1.mem_iff.mp s),x⟩);have Q:oc c (g::p)=(p.map<|c g).sum+oc c p:=rfl;have N:oc c (g::o)=(o.map<|c g).sum+oc c o:=rfl;have J:=ND (f:=c g) u;have H:=ND (f:=c g) o1
 grind
def Zhk{h o}{vs:Int->Int}{V f}(w:h.Nodup)(H:∀q∈n,q.1≠q.2)(s:∀l∈h,Kn n c (UK h l) (vs l))(x:Kn n c h V)(u:f∈h)(N:firstM n h f=true)(U:vs f+((UK h f).map (c f)).sum=V)(M:∀g∈h,firstM n h g=true->vs g+((UK h g).map (c g)).sum=V->f<=g)(B:KI n c (UK h f) o):KI n c h (f::o):=by
 have Q:oc c o=vs f:=by
  obtain⟨p,r,p2,v⟩:=(s f u).is
  have:=(s f u).le o B.perm B.keeps
  have:=B.le p r p2
  lia
 have Y:=ND (f:=c f) B.perm
 have e:oc c (f::o)=V:=by
  show(o.map<|c f).sum+oc c o=V;lia
 refine⟨(List.Perm.cons f B.perm).trans (P0 w u).symm,QE.mpr ⟨λb L=>firstM_iff.mp N b (less_sub.subset<|B.perm.mem_iff.mp L),B.keeps⟩,λp r p2=>?_,λp r p2 v=>?_⟩
 ·rw[e];exact x.le p r p2
 ·cases p with
  |nil=>grind
  |cons g p=>
   obtain⟨G,E,C,A,y⟩:=GG w H s x r p2 (v.trans e);have J:=M g G E C;by_cases T:f=g
   ·subst T;rcases B.first p A (QE.mp p2).2 (y.trans Q.symm)with z|z
    ·exact .inl (by rw[z])
    ·exact .inr (sl_cons.mpr z)
   ·exact .inr (.inl<|by lia)
end M
namespace Pu
open L2 Own
section
variable {K:ZQ}{mg:ZU}{E:L2.St->XK}{H0 H H1 H':Hp}{B Z Z':Addr->Prop}{σ:L2.St}{γ:Γ}
def O.from:O->O->Prop
 | .ins x _ _ h,.ins g _ _ f=>g=x/\∀c∈h,∃l∈f,l.1=c.1
 | .lsA x _,.lsA g _=>g=x
 | .nsl x h,.nsl g f=>g=x/\f.map (·.1)=h.map (·.1)
 |_,_=>False
def O.from_adr {o o':O}{a} (h:o.from o'):∀b,o.adr a b->o'.adr a b:=by
 unfold O.from at h
 split at h
 ·intro b g;rcases g with g|⟨c,p,g⟩
  ·exact .inl (g.trans h.1.symm)
  ·obtain⟨r,n,l⟩:=h.2 c p;exact .inr ⟨r,n,g.trans l.symm⟩
 ·intro b g;exact g.trans h.symm
 ·intro b g;rcases g with g|⟨c,p,g⟩
  ·exact .inl (g.trans h.1.symm)
  ·have m:=Vl (f:=(·.1)) p;rw[←h.2]at m;obtain⟨r,n,l⟩:=WZ.mp m;exact .inr ⟨r,n,g.trans l.symm⟩
 ·grind
def O.from_at {a l}{F n H H'} (h:o.from o') (g:OR K F H a o) (f:OR K n H' l o'):l=a:=by
 unfold O.from at h
 split at h
 ·exact f.1.trans (h.1.trans g.1.symm)
 ·exact f.1.trans (h.trans g.1.symm)
 ·exact f.1.trans (h.1.trans g.1.symm)
 ·grind
abbrev Pw:=O->List S->(O->D->Prop)->(O->Str->Prop)->Prop
noncomputable def S.pass:S->Option S
 | .sh d=>some (.sh d) | .own o=>some (.sh o.d)
 | .bor d=>match imm d with|true=>some (.sh d)|false=>some (.bor d)
 | .tmp d=>match imm d with|true=>some (.sh d)|false=>none
 | .view _=>none
def S.flat:S->Prop
 | .sh _=>True | .bor _=>True|_=>False
noncomputable def passes:List S->Option (List S)
 |[]=>some []
 |s::r=>match s.pass,passes r with|some f,some g=>some (f::g)|_,_=>none
structure After (K:ZQ) (B:Addr->Prop) (H:Hp) (a:Addr) (o o':O) (H':Hp):Prop where
 same:Same (off (o.adr a) H) H'
 old:∀b,o.adr a b->o'.adr a b
 new:∀b,o'.adr a b->o.adr a b\/H b=none
 at_:OR K (off (λb=>B b\/o'.adr a b) H') H' a o'
noncomputable def spW(mg:ZU)(c:Pw)(K:ZQ):Sp:=λl H Q E=>∃(o:O) (a:Addr) (g:List S) (h:List V) (B:Addr->Prop) (R:O->D->Prop) (X:O->Str->Prop),
 l=.ref a::h/\(∀b,B b->Mut (H b)/\¬o.adr a b)/\OR K (off (λb=>B b\/o.adr a b) H) H a o/\TVs K (λb=>B b\/o.adr a b) (off (o.adr a) H) H H g h/\(∀s∈g,s.flat)/\c o g R X/\
 (∀f d v H',R f d->After K B H a o f H'->Rp K (off (λb=>B b\/f.adr a b) H') d v->Q v H')/\∀f e H',X f e->After K B H a o f H'->XE mg E e H'
def TVs.get:∀{f vs}{i:Nat}{s:S},TVs K Z H0 H H' f vs->f[i]?=some s->∃v,vs[i]?=some v/\TV K Z H0 H H' s v:=by
 intro o
 induction o with
 |nil=>
  intro _ i _ h e;simp at e
 |cons _ _ g=>
  intro _ i d h e;cases h with
  |cons h r=>
   cases i with
   |zero=>
    simp at e;subst e;exact⟨_,rfl,h⟩
   |succ i=>
    obtain⟨v,n,l⟩:=g r (by simpa using e);exact⟨v,by simpa using n,l⟩
noncomputable def PN(N:ZZ)(o:O)(f:List S):Γ:=some (.own o)::(f.map some++List.replicate (N.length-(f.length+1)) none)
def Zc1{o a f us}(T:∀b,B b->Mut (H b)/\¬o.adr a b)(M:OR K (off (λb=>B b\/o.adr a b) H) H a o)(r:TVs K (λb=>B b\/o.adr a b) (off (o.adr a) H) H H f us)(L:∀s∈f,s.flat)(hn:f.length+1<=N.length) :
  U9 K (off (o.adr a) H) B H (start N (.ref a::us)) (PN N o f):=by
 have get:∀i s,(PN N o f)[i+1]?=some (some s)->f[i]?=some s:=λi s h=>by
  unfold PN at h;rw[Qu]at h;by_cases p:i<f.length
  ·rw[Qb (by rw[Wt];exact p),W6,Wv p]at h;rw[Wv p];exact Qk some (WB<|WB h)
  ·rw[Qh (by rw[Wt];lia),Vm]at h;split at h<;>cases h
 have noown:∀i g,(PN N o f)[i+1]?≠some (some<|.own g):=λi g h=>L _ (W4<|get i _ h)
 have n:(start N (V.ref a::us))[0]?=some (some<|.ref a):=by
  unfold L2.start;rfl
 have C:∀b,zof B (PN N o f) (start N (V.ref a::us)) b->B b\/o.adr a b:=λb z=>by
  rcases z with z|⟨i,g,a',l,u,U⟩
  ·exact .inl z
  ·cases i with
   |zero=>
    cases u
    have:o=g:=by
     cases l
     rfl
    subst this;exact .inr U
   |succ i=>exact absurd l (noown i g)
 refine⟨off_sub,?_,λb h=>(T b h).1,λi j x Y g w b l u _ _ _ _=>?_,λi s h=>?_⟩
 ·unfold L2.start PN;simp[r.len]
 ·cases i with
  |succ i=>exact absurd l (noown i g)
  |zero=>
   cases j with
   |zero=>rfl
   |succ j=>exact absurd u (noown j w)
 ·cases i with
  |zero=>
   have h:=h;cases h
   refine⟨_,n,a,rfl,λb Q=>?_,M.mono (UF (Same.refl _) λb _ _ z y=>z (C b y)) λ_ _ _ q=>q⟩;unfold off;rw[W3 Q]
  |succ i=>
   have J:=get i s h;obtain⟨v,G,A⟩:=r.get J;refine⟨v,?_,?_⟩
   ·unfold L2.start;rw[Qb (by rw[Wt,WM];have:=(WH.mp G).1;lia),W6,Qu,G];rfl
   ·have:=L s (W4 J)
    cases s with
    |bor d=>exact A
    |sh d=>exact Rp.mono (UF (Same.refl _) λb _ _ z y=>z (C b y)) A
    |_=>exact this.elim
def HZ(o:O)(R:O->D->Prop)(γ:Γ)(d:D):Prop:=∃f,γ[0]?=some (some<|.own f)/\o.from f/\R f d
def OJ(o:O)(X:O->Str->Prop)(γ:Γ)(e:Str):Prop:=∃f,γ[0]?=some (some<|.own f)/\o.from f/\X f e
noncomputable def DG(o:O)(R:O->D->Prop)(X:O->Str->Prop):P4:={nx:=λγ=>HZ o R γ .non,rt:=λ_=>False,ex:=OJ o X,rv:=HZ o R}
def Dl{σ'}{γ'}(n:OR K (off (λb=>B b\/o.adr a b) H) H a o)(e:U9 K (off (o.adr a) H) B H' σ' γ')(h:γ'[0]?=some (some<|.own o'))(k:o.from o'):After K B H a o o' H'/\∀b,B b\/o'.adr a b->zof B γ' σ' b:=by
 obtain⟨v,s,f,rfl,r,l⟩:=e.slot 0 _ h;have u:=O.from_at k n l;subst u;have g:∀b,B b\/o'.adr f b->zof B γ' σ' b:=λb z=>z.imp id λz=>⟨0,o',f,h,s,z⟩;refine⟨⟨e.same,O.from_adr k,λb p=>?_,l.mono (UF (Same.refl _) λb _ _ z y=>z (g b y)) λ_ _ _ q=>q⟩,g⟩
 have:=r b p
 unfold off at this;by_cases q:o.adr f b
 ·exact .inl q
 ·grind
def Zfw{t p vs Q Y n}(h:spW mg c K vs H Q Y)(L:UJ K mg (λ_=>Y) t p)(hn:n+1<=N.length)(M:∀o u R X,c o u R X->u.length=n/\p (DG o R X) (PN N o u)):t {nx:=λ_ H'=>Q .non H',rt:=Q} (start N vs) H:=by
 obtain⟨o,a,u,us,B,R,X,rfl,U,J,r,hf,hc,T,hX⟩:=h;obtain⟨e,M⟩:=M o u R X hc;refine L _ B H _ _ _ _ (λb z=>?_) (Zc1 U J r hf<|by rw[e];exact hn) M ⟨λl s H' C G f1=>?_,λ_ _ _ z=>z.elim,λl s c H' C G f1=>?_,λ_ _ _ z=>z.elim,λ_ _ _ z=>z.elim,λl s d v H' C G f1 rd=>?_⟩
 ·obtain⟨g,f⟩:=U b z;obtain⟨x,hx⟩:=Kr g;exact⟨x,Xe hx f⟩
 ·obtain⟨A,g,f,w⟩:=C;exact T A .non .non H' w (Dl J G g f).1 .non
 ·obtain⟨A,g,f,w⟩:=C;exact hX A c H' w (Dl J G g f).1
 ·obtain⟨A,g,f,w⟩:=C;obtain⟨k1,k2⟩:=Dl J G g f;exact T A d v H' w k1 (Rp.mono (UF (Same.refl _) λb _ _ z y=>z (k2 b y)) rd)
def Zhc(h:spW mg c K vs H Q s)(g:∀o f R X,c o f R X->f.length=n):vs.length=n+1:=by
 obtain⟨o,a,f,p,B,R,X,rfl,_,_,r,_,l,_⟩:=h;rw[WM,r.len,g o f R X l]
abbrev PTW:=Γ->(Γ->D->Prop)->(Γ->Str->Prop)->Prop
def KH(K:ZQ)(mg:ZU)(E:L2.St->XK)(t:TE)(p:PTW):Prop:=∀(H0:Hp) (B:Addr->Prop) (H:Hp) (σ:L2.St) (γ:Γ) (R:Γ->D->Prop) (X:Γ->Str->Prop) (Q:VK),(∀b,B b->∃o,H0 b=some o)->U9 K H0 B H σ γ->p γ R X->
 (∀f d v H',R f d->U9 K H0 B H' σ f->Fr B H σ γ H' σ f->Rp K (off (zof B f σ) H') d v->Q v H')->(∀f c H',X f c->U9 K H0 B H' σ f->Fr B H σ γ H' σ f->XE mg (E σ) c H')->t σ H Q
variable {te:TE}{w:PTW}
noncomputable def Zfc(w:PTW)(g:PTG):PTS:=λR γ=>w γ (λf d=>g (.sh d) f R.nx) R.ex
def Zeb(hw:KH K mg E te w)(s:P6 K M g r):UJ K mg E (PV te g) (Zfc w r):=by
 intro H0 B H σ γ R D x o h e;refine hw H0 B H σ γ _ _ _ x o h (λf d v H1 z J f1 p=>?_) λf c H' u L C=>e.ex σ f c H' u L C;exact s H0 B H1 H1 σ f (.sh d) v _ _ J (Same.refl _) p z λl n y G A _=>e.nx l n H1 y G (f1.trans A)
noncomputable def Zfi(w:PTW):PTS:=λR γ=>w γ (λf _=>R.nx f) R.ex
def Ts(hw:KH K mg E te w):UJ K mg E (Sd te) (Zfi w):=by
 intro H0 B H σ γ R D n g h e;exact hw H0 B H σ γ _ _ _ n g h (λf d v H1 o r f1 _=>e.nx σ f H1 o r f1) λf c H' l s p=>e.ex σ f c H' l s p
noncomputable def Zg3(w:PTW):PTS:=λR γ=>w γ R.rv R.ex
def KZ(hw:KH K mg E te w):UJ K mg E (Ng te) (Zg3 w):=by
 intro H0 B H σ γ R D o g h e;exact hw H0 B H σ γ _ _ _ o g h (λf d v H1 p s f1 l=>e.rv σ f d v H1 p s f1 l) λf c H' n u r=>e.ex σ f c H' n u r
noncomputable def Zgi(a:PTE):PTS:=λR γ=>a γ (λs=>match s.shd with|some d=>R.rv γ d|none=>False) (R.ex γ)
def By(r:U5 K mg E te a):UJ K mg E (Ng te) (Zgi a):=by
 intro H0 B H σ γ R D x f h e;refine r H0 B H σ γ _ _ _ f h (λs v H1 l g o=>?_) λc H' p n=>e.ex σ γ c H' p (f.grow n) (Fr.grow n);split at l
 ·rename_i d u;exact e.rv σ γ d v H1 l (f.grow g) (Fr.grow g) (o.shd (f.grow g).same f.zm g u)
 ·grind
def RG{s f:S}(h:s.pass=some f):f.flat:=by
 cases s with
 |bor d=>unfold S.pass at h;cases q:imm d<;>simp[q]at h<;>subst h<;>trivial
 |tmp d=>
  unfold S.pass at h;cases q:imm d<;>simp[q]at h
  subst h;trivial
 |view o=>cases h
 |_=>cases h;trivial
theorem NP:∀{g f:List S},passes g=some f->∀s∈f,s.flat
 |[],_,h=>by cases h;simp
 |s::r,_,h=>by
  unfold passes at h;split at h
  ·rename_i o p n l;cases h
   intro x hx;rcases W8.mp hx with rfl|hx
   ·exact RG n
   ·exact NP l x hx
  ·grind
def TV.pass {v P W f} (p:Same H0 H') (l:∀b,Z b->Mut (H b)) (u:Same H H') (n:Same H0 (off P f)) (hs:Same (off Z H') (off W f)) (h:TV K Z H0 H H' s v) (e:s.pass=some g):TV K W (off P f) f f g v:=by
 have shd:∀d,s.shd=some d->Rp K (off W f) d v:=λd r=>Rp.mono hs (h.shd p l u r);cases s with
 |view o=>cases e
 |tmp d=>
  unfold S.pass at e;cases q:imm d with
  |false=>simp_all
  |true=>simp[q]at e;subst e;exact shd d (by unfold S.shd;simp[q])
 |bor d=>
  unfold S.pass at e;cases q:imm d with
  |false=>simp[q]at e;subst e;exact Rp.mono n h
  |true=>simp[q]at e;subst e;exact shd d (by unfold S.shd;simp[q])
 |_=>cases e;exact shd _ rfl
theorem TVs.pass {HB} (o:Same H0 H') (l:∀b,Z b->Mut (H b)) (p:Same H H') (n:Same H0 (off P HB)) (hs:Same (off Z H') (off W HB)):∀{g f}{vs:List V},TVs K Z H0 H H' g vs->passes g=some f->TVs K W (off P HB) HB HB f vs
 |_,_,_,.nil,e=>by cases e;exact .nil
 |_,_,_,.cons h r,e=>by
  unfold passes at e;split at e
  ·rename_i v x u s;cases e
   exact .cons (h.pass o l p n hs u) (TVs.pass o l p n hs r s)
  ·grind
def Fx{c:Pw}{i:Nat}{o:O}{a:Addr}{ss l:List S}{us:List V}{R:Γ->D->Prop}{X:Γ->Str->Prop}{Q:VK}{Ec:XK}(env:U9 K H0 B H σ γ)(hB:∀b,B b->∃o,H0 b=some o)(U:Same H H1)(L:γ[i]?=some (some<|.own o))(G:σ[i]?=some (some<|.ref a))(t1:TVs K (zof B γ σ) H0 H H1 ss us)(hp:passes ss=some l)(hc:c o l (λo' d=>R (γ.set i<|some<|.own o') d) (λo' e=>X (γ.set i<|some<|.own o') e))(q:∀f d v H',R f d->U9 K H0 B H' σ f->Fr B H σ γ H' σ f->Rp K (off (zof B f σ) H') d v->Q v H')(qx:∀f c H',X f c->U9 K H0 B H' σ f->Fr B H σ γ H' σ f->XE mg Ec c H'):spW mg c K (.ref a::us) H1 Q Ec:=by
 have g:=env.grow U;obtain⟨v,h1,T,ev,h3,h4⟩:=g.slot i _ L;rw[G]at h1;cases h1
 cases ev
 have Y:∀b,o.adr a b->zof B γ σ b:=λb p=>.inr ⟨i,o,a,L,G,p⟩
 have J:∀o' H',After K (λb=>zof B γ σ b/\¬o.adr a b) H1 a o o' H'->U9 K H0 B H' σ (γ.set i<|some<|.own o')/\Fr B H σ γ H' σ (γ.set i<|some<|.own o')/\∀b x,H' b=some x->¬((zof B γ σ b/\¬o.adr a b)\/o'.adr a b)->¬zof B (γ.set i<|some<|.own o') σ b:=λo' H' A=>by
  have C:∀b x,H' b=some x->¬((zof B γ σ b/\¬o.adr a b)\/o'.adr a b)->¬zof B (γ.set i<|some<|.own o') σ b:=λb x _ n z=>by
   rcases z with z|⟨j,fs,T,e1,M,N⟩
   ·refine n (.inl ⟨.inl z,λw=>?_⟩);obtain⟨u,hu⟩:=hB b z;rw[h3 b w]at hu;cases hu
   ·rcases UX e1 with⟨ej,q,_⟩|⟨nj,q⟩
    ·subst ej;cases q
     rw[G]at M;cases M
     exact n (.inr N)
    ·exact n (.inl ⟨.inr ⟨j,fs,T,q,M,N⟩,λw=>nj (env.own j i T a fs o b q L M G N w)⟩)
  obtain⟨s,r⟩:=g.change (o':=o') (H':=H') L G (λb x hx n=>A.same b x (Xe hx n)) (λb p=>A.at_.mut b (A.old b p)) A.new (A.at_.mono (UF (Same.refl _) λb x hx z=>C b x hx z) λ_ _ _ q=>q);exact⟨s,(Fr.grow U).trans r,C⟩
 refine⟨o,a,l,us,λb=>zof B γ σ b/\¬o.adr a b,_,_,rfl,λb p=>⟨g.zm b p.1,p.2⟩,h4.mono (UF (Same.refl _) λb _ _ z y=>z (y.elim (λy=>y.1)<|Y b)) λ_ _ _ q=>q,?_,NP hp,hc,λo' d v H' hR A rd=>?_,λo' e H' hX A=>?_⟩
 ·refine t1.pass g.same env.zm U (λb x hx=>Xe (g.same b x hx) λw=>?_) (UF (Same.refl _) λb _ _ z y=>z (y.elim (λy=>y.1)<|Y b)) hp;rw[h3 b w]at hx;cases hx
 ·obtain⟨s,r,k3⟩:=J o' H' A;exact q _ d v H' hR s r (Rp.mono (λb x h=>let ⟨p1,p2⟩:=Ku h;Xe p1 (k3 b x p1 p2)) rd)
 ·obtain⟨s,r,_⟩:=J o' H' A;exact qx _ e H' hX s r
noncomputable def Zm6(i:Nat)(c:Pw)(r:PTA):PTW:=λγ R X=>match γ[i]? with
 |some (some<|.own o)=>r γ (λh=>match passes h with|some f=>c o f (λg d=>R (γ.set i<|some<|.own g) d) (λg e=>X (γ.set i<|some<|.own g) e)|none=>False) (X γ)
 |_=>False
noncomputable def GQ(i:Nat)(c:Pw)(r:PTA):PTW:=λγ R X=>match γ[i]? with
 |some (some<|.own o)=>r γ (λg=>match passes g with|some f=>c o f (λh d=>R (γ.set i<|some<|.own h) d) (λ_ _=>False)|none=>False) (X γ)
 |_=>False
def Zkm(i:Nat){c g r}(C:US K mg E g r):KH K mg E (P3 (spW mg c K) [] E0<|Xk (X6 i) g) (GQ i c r):=by
 intro H0 B H σ γ R X Q J f h q A;unfold GQ at h;split at h
 ·rename_i o n;obtain⟨v,l,a,rfl,_,_⟩:=f.slot i _ n;refine⟨_,l,C H0 B H σ γ _ _ _ f h (λN u H1 p M x=>?_) λc H' G s=>A γ c H' G (f.grow s) (Fr.grow s)⟩;show spW mg c K ((V.ref a::u)++[]) H1 Q E0;rw[Qn];split at p
  ·rename_i y L;exact Fx (X:=λ_ _=>False) f J M n l x L p q λ_ _ _ z=>z.elim
  ·grind
 ·grind
def Hw(C:Addr)(xs:ZZ)(j:Nat):S->(S->Prop)->Prop
 | .view (.ins _ g f l),R=>g=C/\f=xs/\∃c,l[j]?=some c/\R (.view<|.lst c.2)
 | .bor (.ins g f h),R=>g=C/\f=xs/\∃d,h[j]?=some d/\R (arg d)
 |_,_=>False
noncomputable def Zlp(C:Addr)(xs:ZZ)(j:Nat)(a:PTE):PTE:=λγ R X=>a γ (λs=>Hw C xs j s R) X
def Rp.ins_inv (h:Rp K H (.ins C xs ds) v):∃a f vs,v=.ref a/\H a=some (.ins C f<|xs.zip vs)/\xs.length=vs.length/\Rps K H ds vs:=by
 cases h with
 |ins h e r=>grind
def FldAt(f:Str)(xs:ZZ)(j:Nat):Prop:=∀g:List V,xs.length=g.length->(xs.zip g).lookup f=g[j]?
def Nj(j:Nat){a}(L:Cls K C)(G:NoAttr K C f)(J:FldAt f xs j)(ha:U5 K mg E te a):U5 K mg E (Bx K te f) (Zlp C xs j a):=by
 intro H0 B H σ γ R X Q l p q qx;refine ha H0 B H σ γ _ X _ l p (λs v H1 h z A=>?_) qx;have g:=l.grow z;unfold Hw at h;split at h
 ·rename_i x C' n cs;obtain⟨rfl,rfl,c,M,o⟩:=h;obtain⟨b,rfl,T,N,⟨y,r⟩,e4,e5⟩:=A;obtain⟨U,u1,Y⟩:=e4 c (W4 M);refine⟨b,_,y,_,_,rfl,r,L,G,?_,q _ _ H1 o z ⟨c.1,rfl,U,u1,Y⟩⟩;rw[J _ (by grind),W6,M];rfl
 ·rename_i C' n ds;obtain⟨rfl,rfl,d,ed,o⟩:=h;obtain⟨b,y,vs,rfl,T,N,r⟩:=Rp.ins_inv A;obtain⟨u,hu,ru⟩:=r.get ed;refine⟨b,_,y,_,u,rfl,g.same _ _ T,L,G,by rw[J _ N];exact hu,q _ _ H1 o z (Tv g.zm g.same ru)⟩
 ·exact h.elim
noncomputable def DO(C:Addr)(xs:ZZ)(c:Pc)(a:PTE)(r:PTA):PTE:=λγ R X=>a γ (λs=>match s.d with
 | .ins g f l=>g=C/\f=xs/\r γ (λh=>c (.ins g f l::h.map S.d) (λs=>R s.back) X) X
 |_=>False) X
def NoFld(m:Str)(xs:ZZ):Prop:=∀f:List V,(xs.zip f).lookup m=none
noncomputable def Ee(C:Addr)(m:Str)(sp:Sp)(E:L2.St->XK)(g:TE)(t:TA):TE:=λσ H Q=>g σ H λx H1=>∃a h fs,x=.ref a/\H1 a=some (.ins C h fs)/\fs.lookup m=none/\t σ H1 λf l=>sp (x::(f++[])) l Q (E σ)
def Zbz{m xs c z a r}(hx:NoFld m xs)(ha:U5 K mg E te a)(T:US K mg E z r):U5 K mg E (Ee C m (UA mg c K) E te z) (DO C xs c a r):=by
 intro H0 B H σ γ R X Q h p q y;refine ha H0 B H σ γ _ X _ h p (λs v H1 o n M=>?_) y;have f:=h.grow n;split at o
 ·rename_i C' A ds ed;obtain⟨rfl,rfl,o⟩:=o;have x:=M.rp f.same;rw[ed]at x;obtain⟨b,dx,G,rfl,e1,e2,e3⟩:=Rp.ins_inv x;refine⟨b,dx,_,rfl,e1,hx G,T H0 B H1 σ γ _ X _ f o (λss us H2 h2 l L=>?_) λc H' Y S'=>y c H' Y (n.trans S')⟩;have g:=f.grow l;rw[Qn];refine⟨_,_,X,Rps.cons (Rp.mono l x) (L.rps g.same),h2,λs v H' N u J=>q _ _ H' N ((n.trans l).trans u) (J.back g (n.trans l) u),λe H' U u=>y e H' U ((n.trans l).trans u)⟩
 ·grind
def Sf{m xs c g a r f}(hx:NoFld m xs)(l:U5 K mg (λ_=>f) te a)(h:US K mg (λ_=>f) g r):U5 K mg (λ_=>f) (PL C m (UA mg c K) [] f te g) (DO C xs c a r):=Zbz hx l h
noncomputable def Zd5(C:Addr)(xs:ZZ)(c:Pc)(a:PTE)(r:PTA):PTE:=λγ R X=>a γ (λs=>match s.d with
 | .ins g f l=>g=C/\f=xs/\r γ (λh=>c (.ins g f l::h.map S.d) (λs=>R s.back) λ_=>False) X
 |_=>False) X
def Xz{m xs c x a r}(hx:NoFld m xs)(ha:U5 K mg E te a)(U:US K mg E x r):U5 K mg E (PL C m (UA mg c K) [] E0 te x) (Zd5 C xs c a r):=by
 intro H0 B H σ γ R X Q h p q y;refine ha H0 B H σ γ _ X _ h p (λs v H1 l o N=>?_) y;have f:=h.grow o;split at l
 ·rename_i C' G ds ed;obtain⟨rfl,rfl,l⟩:=l;have u:=N.rp f.same;rw[ed]at u;obtain⟨b,dx,J,rfl,e1,e2,e3⟩:=Rp.ins_inv u;refine⟨b,dx,_,rfl,e1,hx J,U H0 B H1 σ γ _ X _ f l (λss us H2 h2 n M=>?_) λc H' Y S'=>y c H' Y (o.trans S')⟩;have g:=f.grow n;rw[Qn];exact⟨_,_,_,Rps.cons (Rp.mono n u) (M.rps g.same),h2,λs v H' T A L=>q _ _ H' T ((o.trans n).trans A) (L.back g (o.trans n) A),λ_ _ z=>z.elim⟩
 ·grind
noncomputable def Ct(i:Nat)(C:Addr)(xs:ZZ)(c:Pw)(r:PTA):PTW:=λγ R X=>match γ[i]? with
 |some (some<|.own<|.ins x l f o)=>l=C/\f=xs/\r γ (λn=>match passes n with|some g=>c (.ins x l f o) g (λh d=>R (γ.set i<|some<|.own h) d) (λh e=>X (γ.set i<|some<|.own h) e)|none=>False) (X γ)
 |_=>False
def Zl3(i:Nat){C m xs c g r}(hx:NoFld m xs)(A:US K mg E g r):KH K mg E (Ee C m (spW mg c K) E (X6 i) g) (Ct i C xs c r):=by
 intro H0 B H σ γ R X Q J f h q l;unfold Ct at h;split at h
 ·rename_i x C' u cs o;obtain⟨rfl,rfl,h⟩:=h;obtain⟨v,n,a,rfl,_,e1,e2,⟨N,M⟩,e4⟩:=f.slot i _ o;refine⟨_,n,a,N,_,rfl,M,hx _,A H0 B H σ γ _ _ _ f h (λY U H1 p T y=>?_) λc H' G s=>l γ c H' G (f.grow s) (Fr.grow s)⟩;rw[Qn];split at p
  ·rename_i z L;exact Fx f J T o n y L p q l
  ·grind
 ·grind
def NQ(i:Nat){C m xs c g r f}(hx:NoFld m xs)(h:US K mg (λ_=>f) g r):KH K mg (λ_=>f) (PL C m (spW mg c K) [] f (X6 i) g) (Ct i C xs c r):=Zl3 i hx h
noncomputable def MG(i:Nat)(C:Addr)(xs:ZZ)(c:Pw)(r:PTA):PTW:=λγ R X=>match γ[i]? with
 |some (some<|.own<|.ins x h f o)=>h=C/\f=xs/\r γ (λl=>match passes l with|some g=>c (.ins x h f o) g (λn d=>R (γ.set i<|some<|.own n) d) (λ_ _=>False)|none=>False) (X γ)
 |_=>False
def Nh(i:Nat){C m xs c g r}(hx:NoFld m xs)(G:US K mg E g r):KH K mg E (PL C m (spW mg c K) [] E0 (X6 i) g) (MG i C xs c r):=by
 intro H0 B H σ γ R X Q L f h q A;unfold MG at h;split at h
 ·rename_i x C' s cs n;obtain⟨rfl,rfl,h⟩:=h;obtain⟨v,l,a,rfl,_,e1,e2,⟨T,N⟩,e4⟩:=f.slot i _ n;refine⟨_,l,a,T,_,rfl,N,hx _,G H0 B H σ γ _ _ _ f h (λss Y H1 o U u=>?_) λc H' J p=>A γ c H' J (f.grow p) (Fr.grow p)⟩;rw[Qn];split at o
  ·rename_i y M;exact Fx (X:=λ_ _=>False) f L U n l u M o q λ_ _ _ z=>z.elim
  ·grind
 ·grind
theorem FJ{g:Type}:∀{l:List g}{i j:Nat}{x:g},l.Nodup->l[i]?=some x->l[j]?=some x->i=j
 |[],_,_,_,_,h,_=>by simp at h
 |y::r,0,0,_,_,_,_=>rfl
 |y::r,0,j+1,x,f,o,n|y::r,i+1,0,x,f,o,n=>by
  grind
 |y::r,i+1,j+1,x,f,o,n=>Qk (· + 1) (FJ (Qg.mp f).2 (by trivial)<|by grind)
def U9.cell {f b ds es us} (env:U9 K H0 B H σ γ) (L:γ[i]?=some (some<|.own<|.ins x C xs f)) (s:f[j]?=some (b,ds)) (r:Rps K (off (zof B γ σ) H) es us) :
  U9 K H0 B (upd H b<|.lst us) σ (γ.set i<|some<|.own<|.ins x C xs<|f.set j (b,es))/\Fr B H σ γ (upd H b<|.lst us) σ (γ.set i<|some<|.own<|.ins x C xs<|f.set j (b,es)):=by
 obtain⟨v,Y,a,rfl,e0,e1,e2,⟨dx,e3⟩,e4,e5⟩:=env.slot i _ L;subst e1;have l:=W4 s
 have M:a≠b:=λz=>by
  obtain⟨T,o,_⟩:=e4 _ l;rw[←show a=b from z,e3]at o
  cases o
 have em:(f.set j (b,es)).map (·.1)=f.map (·.1):=by
  apply QZ;intro k;rw[W6,W6,Jv];by_cases e:j=k
  ·subst e;rw[W3 rfl,W3 ((WH.mp s).1),s];rfl
  ·rw[W2 e]
 have N:(f.set j (b,es)).map (λc=>V.ref c.1)=f.map λc=>V.ref c.1:=by
  have:=Qk (List.map V.ref) em
  rw[Qi,Qi]at this;exact this
 have adr:∀c,(O.ins a C xs<|f.set j (b,es)).adr a c->(O.ins a C xs f).adr a c:=λc g=>by
  rcases g with g|⟨d,hd,g⟩
  ·exact .inl g
  ·have:d.1∈(f.set j (b,es)).map (·.1):=Vl hd
   rw[em]at this;obtain⟨d',A,p⟩:=WZ.mp this;exact .inr ⟨d',A,g.trans p.symm⟩
 have y:∀c,(O.ins a C xs f).adr a c->zof B γ σ c:=λc g=>.inr ⟨i,_,a,L,Y,g⟩
 have So:Same (off (zof B γ σ) H) (off (zof B (γ.set i<|some<|.own<|.ins a C xs<|f.set j (b,es)) σ)<|upd H b<|.lst us):=λc u h=>by
  obtain⟨A,p⟩:=Ku h;have G:=λz=>p (y c<|.inr ⟨_,l,z⟩);refine Xe (by rw[UR G];exact A) λz=>p ?_;rcases z with z|⟨k,fs,a',k1,k2,U⟩
  ·exact .inl z
  ·rcases UX k1 with⟨Q,q,_⟩|⟨_,q⟩
   ·subst Q;cases q
    exact y c (adr c U)
   ·exact .inr ⟨k,fs,a',q,k2,U⟩
 refine env.change L Y (λc u hu n=>?_) (λc g=>?_) (λc g=>.inl (adr c g)) ⟨rfl,by rw[Q0];exact e2,⟨dx,?_⟩,λc g=>?_,by rw[em];exact e5⟩
 ·rw[UR λz=>n (.inr ⟨_,l,z⟩)];exact hu
 ·by_cases z:c=b
  ·rw[z,UZ];trivial
  ·rw[UR z];exact env.zm c (y c g)
 ·rw[UR M,N];exact e3
 ·obtain⟨k,hk,Q⟩:=List.getElem_of_mem g;have J:(f.set j (b,es))[k]?=some c:=by rw[Wv hk,Q]
  rcases UX J with⟨_,q,_⟩|⟨nk,q⟩
  ·subst q;exact⟨us,UZ,Rps.mono So r⟩
  ·obtain⟨T,o,w2⟩:=e4 c (W4 q)
   have G:=λz=>nk (by
    have h1:(f.map (·.1))[k]?=some b:=by rw[W6,q];exact Qk some z
    have h2:(f.map (·.1))[j]?=some b:=by rw[W6,s];rfl
    exact FJ e5 h1 h2)
   exact⟨T,by rw[UR G];exact o,Rps.mono So w2⟩
noncomputable def Ic(i j:Nat)(C:Addr)(xs:ZZ)(a:PTE):PTW:=λγ R X=>match γ[i]? with
 |some (some<|.own<|.ins x h f g)=>h=C/\f=xs/\∃c,g[j]?=some c/\a γ (λs=>match s.shd with
  |some d=>c.2.length<10000000/\R (γ.set i<|some<|.own<|.ins x h f<|g.set j (c.1,c.2++[d])) .non
  |none=>False) (X γ)
 |_=>False
def Am(i j:Nat){C f xs a}(p:Cls K C)(hn:NoAttr K C f)(hj:FldAt f xs j)(ha:U5 K mg E te a):KH K mg E (tBM K "list" A0 (Bx K (X6 i) f)<|Xk te XT) (Ic i j C xs a):=by
 intro H0 B H σ γ R X Q hB g h q T;unfold Ic at h;split at h
 ·rename_i x C' M cs J;obtain⟨rfl,rfl,c,r,h⟩:=h;obtain⟨v,hv,b,rfl,_,e1,e2,⟨dx,e3⟩,e4,e5⟩:=g.slot i _ J;obtain⟨y,G,A⟩:=e4 c (W4 r);refine⟨_,hv,b,_,dx,_,V.ref c.1,rfl,e3,p,hn,?_,.inl ⟨rfl,y,SqL.of G⟩,ha H0 B H σ γ _ _ _ g h (λs u H1 o n N=>?_) λc H' p L=>T γ c H' p (g.grow L) (Fr.grow L)⟩
  ·rw[hj _ (by grind),W6,r];rfl
  ·have l:=g.grow n;split at o
   ·rename_i d ed;refine⟨c.1,y,u,rfl,rfl,n _ _ G,by rw[A.len];exact Vv o.1 (by decide),?_⟩;obtain⟨Y,U⟩:=l.cell J r (Rps.append (Rps.mono (UF n λ_ _ _ z=>z) A)<|.cons (N.shd l.same g.zm n ed) .nil);exact q _ _ _ _ o.2 Y ((Fr.grow n).trans U) .non
   ·exact o.elim
 ·exact h.elim
noncomputable def Ma(i j:Nat)(C:Addr)(xs:ZZ):PTW:=λγ R _=>match γ[i]? with
 |some (some<|.own<|.ins x h f g)=>h=C/\f=xs/\∃c d,g[j]?=some c/\c.2[c.2.length-1]?=some d/\R (γ.set i<|some<|.own<|.ins x h f<|g.set j (c.1,c.2.dropLast)) d
 |_=>False
def Rps.dropLast:∀{ds}{vs:List V},Rps K H ds vs->Rps K H ds.dropLast vs.dropLast:=by
 intro ds
 induction ds with
 |nil=>
  intro _ h;cases h
  exact .nil
 |cons _ _ f=>
  intro _ h;cases h with
  |cons h r=>
   cases r with
   |nil=>exact .nil
   |cons c e=>exact .cons h (f<|.cons c e)
def F9(i j:Nat){C f xs}(N:Cls K C)(L:NoAttr K C f)(M:FldAt f xs j):KH K mg E (NN K "list" Ak<|Bx K (X6 i) f) (Ma i j C xs):=by
 intro H0 B H σ γ R X Q hB g h q qx;unfold Ma at h;split at h
 ·rename_i x C' y cs s;obtain⟨rfl,rfl,c,d,n,T,h⟩:=h;obtain⟨v,G,b,rfl,_,e1,e2,⟨dx,Y⟩,U,e5⟩:=g.slot i _ s;obtain⟨o,p,l⟩:=U c (W4 n);obtain⟨u,J,z⟩:=l.get T;refine⟨_,G,b,_,dx,_,V.ref c.1,rfl,Y,N,L,?_,.inl ⟨rfl,o,SqL.of p⟩,c.1,o,u,rfl,rfl,p,by rw[l.len];exact J,?_⟩
  ·rw[M _ (by grind),W6,n];rfl
  ·obtain⟨A,r⟩:=g.cell s n (Rps.dropLast l);exact q _ _ _ _ h A r (Rp.mono r.off z)
 ·grind
def PutAt(f:Str)(xs:ZZ):Prop:=∀(g:List V) (y:V),xs.length=g.length->XI f y (xs.zip g)=(xs++[f]).zip (g++[y])
noncomputable def Oz(i:Nat)(C:Addr)(f:Str)(xs:ZZ)(a:PTE):PTS:=λR γ=>a γ (λs=>match s with
 | .own (.lst l)=>(match γ[i]? with
  |some (some<|.own<|.ins x h g n)=>h=C/\g=xs/\xs.length<1000/\∀b,R.nx (γ.set i<|some<|.own<|.ins x h (xs++[f]) (n++[(b,l)]))
  |_=>False)
 |_=>False) (R.ex γ)
def A3(i:Nat){C f xs a}(g:Cls K C)(hn:NoAttr K C f)(hp:PutAt f xs)(ha:U5 K mg E te a):UJ K mg E (M8 K (X6 i) te f) (Oz i C f xs a):=by
 intro H0 B H σ γ R D hB p h e;refine ha H0 B H σ γ _ _ _ p h (λs v H1 G Q t1=>?_) λc H' g S'=>e.ex σ γ c H' g (p.grow S') (Fr.grow S');split at G
 ·rename_i ds;split at G
  ·rename_i x M o r hi;obtain⟨rfl,rfl,hl,G⟩:=G;obtain⟨u,hv,b,rfl,e0,e1,e2,⟨dx,e3⟩,e4,e5⟩:=p.slot i _ hi;subst e1;obtain⟨l,rfl,L,vs,l1,l2⟩:=t1;have L:=L l rfl;refine⟨_,hv,b,_,dx,_,rfl,Q _ _ e3,g,hn,?_,?_⟩
   ·rw[List.length_zip,Wt];lia
   ·rw[hp _ _ (by rw[Wt];exact e2)]
    have nl:∀c∈r,c.1≠l:=λc g=>by
     obtain⟨ws,J,_⟩:=e4 c g;exact K6 J L
    have nb:∀c∈r,c.1≠b:=λc g z=>by
     obtain⟨ws,J,_⟩:=e4 c g;rw[z,e3]at J;cases J
    have T:∀c,(O.ins b M o r).adr b c->zof B γ σ c:=λc g=>.inr ⟨i,_,b,hi,hv,g⟩
    have key:∀c u,H1 c=some u->¬(zof B γ σ c\/c=l)->¬zof B (γ.set i<|some<|.own<|.ins b M (o++[f]) (r++[(l,ds)])) σ c:=λc u _ n z=>by
     rcases z with z|⟨k,fs,a',k1,N,A⟩
     ·exact n (.inl<|.inl z)
     ·rcases UX k1 with⟨ek,q,_⟩|⟨_,q⟩
      ·subst ek;cases q
       rw[hv]at N;cases N
       rcases A with A|⟨d,hd,A⟩
       ·exact n (.inl<|T c<|.inl A)
       ·rcases WC.mp hd with hd|hd
        ·exact n (.inl<|T c<|.inr ⟨d,hd,A⟩)
        ·rw[Wx]at hd;subst hd;exact n (.inr A)
      ·exact n (.inl<|.inr ⟨k,fs,a',q,N,A⟩)
    have So:Same (off (λc=>zof B γ σ c\/c=l) H1) (off (zof B (γ.set i<|some<|.own<|.ins b M (o++[f]) (r++[(l,ds)])) σ)<|upd H1 b<|.ins M dx ((o++[f]).zip ((r.map λc=>V.ref c.1)++[.ref l]))):=λc u h=>by
     obtain⟨Y,U⟩:=Ku h;exact Xe (by rw[UR λz=>U (.inl<|T c<|.inl z)];exact Y) (key c u Y U)
    have S0:Same (off (zof B γ σ) H) (off (λc=>zof B γ σ c\/c=l) H1):=UF Q λc u g z y=>y.elim z λy=>by rw[y,L]at g;cases g
    obtain⟨k1,N⟩:=p.change (o':=.ins b M (o++[f]) (r++[(l,ds)])) (H':=upd H1 b (.ins M dx ((o++[f]).zip ((r.map λc=>V.ref c.1)++[.ref l])))) hi hv
     (λc u hu n=>by rw[UR λz=>n (.inl z)];exact Q _ _ hu)
     (λc g=>by
      by_cases z:c=b
      ·rw[z,UZ];trivial
      ·rw[UR z];exact(p.grow Q).zm c (T c g))
     (λc g=>by
      rcases g with g|⟨d,hd,g⟩
      ·exact .inl (.inl g)
      ·rcases WC.mp hd with hd|hd
       ·exact .inl (.inr ⟨d,hd,g⟩)
       ·rw[Wx]at hd;subst hd;exact .inr (by rw[show c=l from g];exact L))
     ⟨rfl,by rw[W7,W7,e2];rfl,⟨dx,by rw[UZ,WI];rfl⟩,λc g=>by
      rcases WC.mp g with g|g
      ·obtain⟨ws,J,w2⟩:=e4 c g;exact⟨ws,by rw[UR (nb c g)];exact Q _ _ J,Rps.mono So (Rps.mono S0 w2)⟩
      ·rw[Wx]at g;subst g;exact⟨vs,by rw[UR (λz=>(K6 e3 L) z.symm)];exact l1,Rps.mono So l2⟩,by
      rw[WI,Qm]
      exact⟨e5,by simp,λc g d hd z=>by
       obtain⟨c',Y,U⟩:=WZ.mp g
       have:d=l:=by simpa using hd
       exact nl c' Y (U.trans<|z.trans this)⟩⟩
    exact e.nx _ _ _ (G l) k1 N
  ·exact G.elim
 ·exact G.elim
def Rb{c}{M l}{us}{R:S->Prop}{X:XR}{Q:VK}{Ec}(env:U9 K H0 B H σ γ)(p:Same H H1)(T:TVs K (zof B γ σ) H0 H H1 M us)(N:passes M=some l)(h1:∀x,c (.ins x C [] []) l (λo' d=>d=.non/\R (.own o')) (λ_ e=>X e))(q:∀s v H',R s->Same H H'->TV K (zof B γ σ) H0 H H' s v->Q v H')(Y:∀c H',X c->Same H H'->XE mg Ec c H') :
  ∀x h,H1 x=none->H1 h=none->h≠x->spW mg c K (.ref x::us) (upd (upd H1 h<|.own x) x<|.ins C h []) (λv H2=>v=.non/\Q (.ref x) H2) Ec:=by
 have f:=env.grow p;intro x h n J nex
 have u:Same H1 (upd (upd H1 h<|.own x) x<|.ins C h []):=λb o e=>by
  rwa[UR (K6 e n),UR (K6 e J)]
 have r:∀o' H',After K (zof B γ σ) (upd (upd H1 h<|.own x) x<|.ins C h []) x (.ins x C [] []) o' H'->Same H1 H'/\∀b,o'.adr x b->H b=none:=λo' H' A=>by
  refine⟨λb o e=>A.same b o (Xe (u b o e) λz=>?_),λb G=>?_⟩
  ·rcases z with z|⟨c,g,_⟩
   ·rw[z,n]at e;cases e
   ·cases g
  ·rcases A.new b G with(z|⟨c,g,_⟩)|z
   ·rw[z];exact p.free n
   ·cases g
   ·exact p.free (u.free z)
 refine⟨.ins x C [] [],x,l,us,zof B γ σ,_,_,rfl,λb G=>⟨KQ u (f.zm b G),λz=>?_⟩,⟨rfl,rfl,⟨h,UZ⟩,(λc g=>by cases g),Vd⟩,?_,NP N,h1 x,λo' d v H' L A U=>?_,λo' e H' hX A=>?_⟩
 ·rcases z with z|⟨c,g,_⟩
  ·have:=f.zm b G
   rw[z,n]at this;exact this
  ·cases g
 ·refine T.pass f.same env.zm p (λb o e=>Xe (u _ _<|f.same b o e) λz=>?_) (UF u λb o e z y=>?_) N
  ·rcases z with z|⟨c,g,_⟩
   ·rw[z,(f.same).free n]at e;cases e
   ·cases g
  ·rcases y with y|y|⟨c,g,_⟩
   ·exact z y
   ·rw[y,n]at e;cases e
   ·cases g
 ·obtain⟨rfl,L⟩:=L;obtain⟨k1,k2⟩:=r o' H' A;exact⟨Rp.non_inv U,q _ _ H' L (p.trans k1) ⟨x,rfl,k2,A.at_⟩⟩
 ·exact Y e H' hX (p.trans (r o' H' A).1)
noncomputable def Zbm(C:Addr)(c:Pw)(r:PTA):PTE:=λγ R X=>r γ (λg=>match passes g with|some f=>∀x,c (.ins x C [] []) f (λh d=>d=.non/\R (.own h)) (λ_ _=>False)|none=>False) X
def F2{g r}(s:US K mg E g r):U5 K mg E (FQ C (spW mg c K) [] E0 g) (Zbm C c r):=by
 intro H0 B H σ γ R X Q f p q o;refine s H0 B H σ γ _ X _ f p (λy x H1 h v l=>?_) o;split at h
 ·rename_i n u;rw[Qn];exact Rb f v l u h q λ_ _ z=>z.elim
 ·grind
end
def Sn{f:Type}{us:List f}(h:us.length=1):∃a,us=[a]:=List.length_eq_one_iff.mp h
def SH{f:Type}{us:List f}(h:us.length=2):∃a b,us=[a,b]:=by
 cases us with
 |nil=>grind
 |cons a r=>obtain⟨b,rfl⟩:=Sn (by simpa using h);exact⟨a,b,rfl⟩
def BE{f:Type}{us:List f}(h:us.length=3):∃a b c,us=[a,b,c]:=by
 cases us with
 |nil=>grind
 |cons a r=>obtain⟨b,c,rfl⟩:=SH (by simpa using h);exact⟨a,b,c,rfl⟩
def Dn{f:Type}{us:List f}(h:us.length=4):∃a b c d,us=[a,b,c,d]:=by
 cases us with
 |nil=>grind
 |cons a r=>obtain⟨b,c,d,rfl⟩:=BE (by simpa using h);exact⟨a,b,c,d,rfl⟩
def OZ{f:Type}{us:List f}(h:us.length=5):∃a b c d e,us=[a,b,c,d,e]:=by
 cases us with
 |nil=>grind
 |cons a r=>obtain⟨b,c,d,e,rfl⟩:=Dn (by simpa using h);exact⟨a,b,c,d,e,rfl⟩
structure UY (K:ZQ) (W:Addr->Prop) (x q:Str) (st:Stmt) (ps:ZZ):Prop where
 ex:∃f fd,Fun K x q st f fd/\W f/\Binds K fd ps []
structure KJ (P:Program) (w:World) (K:ZQ) (mg:ZU) (base:Heap) (CX:CXT) (k:Nat) (W:Addr->Prop) (ps:ZZ) (sp:Sp):Prop where
 ex:∃f fd,XO P w K mg base CX k f fd ps sp/\W f/\Binds K fd ps []
section
variable {P:Program}{w:World}{K:ZQ}{mg:ZU}{base:Heap}{W:Addr->Prop}
def UY.ok {st N ps k sp} (D:UY K W x q st ps) (S:U7 N ps (U6 st)) (len:∀vs H Q E,sp vs H Q E->vs.length=ps.length)
  (l:∀f g A outer s H vs Q E,UH k (A.deeper<|envOfC q (U6 st) s.heap.objs.size f g)->sp vs H Q E->
   ∃t,PSs (Xj CX0 P w K mg base N q (U6 st) f g A outer s H E).nox (Xb st) t/\t {nx:=λ_ H'=>Q .non H',rt:=Q} (start N vs) H):KJ P w K mg base CX0 (k+1) W ps sp:=by
 obtain⟨f,r,F,o,p⟩:=D.ex;exact⟨f,r,F.ok S len λg A outer s H vs Q E n h=>l f g A outer s H vs Q E n h,o,p⟩
def UY.okX {st N ps k sp} (D:UY K W x q st ps) (S:U7 N ps (U6 st)) (len:∀vs H Q E,sp vs H Q E->vs.length=ps.length)
  (h:∀f g A outer s H vs Q E,UH k (A.deeper<|envOfC q (U6 st) s.heap.objs.size f g)->sp vs H Q E->
   ∃t,PSs (Xj (ExcR.CXe P w) P w K mg base N q (U6 st) f g A outer s H E) (Xb st) t/\t {nx:=λ_ H'=>Q .non H',rt:=Q} (start N vs) H):KJ P w K mg base (ExcR.CXe P w) (k+1) W ps sp:=by
 obtain⟨f,C,F,u,v⟩:=D.ex;obtain⟨oc,B,kV,y,z,J,g,G,o,rfl,p,n⟩:=F.ex;exact⟨f,_,AZ p n S len λA outer s H vs Q E r l=>h f g A outer s H vs Q E r l,u,v⟩
def NY:K0 (ExcR.CXe P w) X E0:=λ_ _ _ _ _ _ _ h=>by
 obtain⟨a,T,C,f,g,_,_,z⟩:=h
 grind
end
section
variable {X:Cx}{CX:CXT}{k:Nat}{Cc:Addr}{ps:ZZ}{sp:Sp}{E:XK}{ES:L2.St->XK}{x m:Str}{p pos apos:Pos}{e o:Expr}{es:Ya}{ta:TE}{t:TA}
def Pb{pl}(C:KJ X.prog X.w X.K X.mg X.base CX k (UU X.K Cc m) ps sp)(c:Cls X.K Cc)(r:UH k X.A)(hx:K0 CX X E)(u:PE X o ta)(y:PA X (e::es) t)(g:autoParam (starEach (e::es) X.env=(false,eval e X.env)::starEach es X.env) au_0)(h:autoParam ((backTo pos<|starEach es X.env).any (·.1)=false) au_0)
  (n:autoParam (eval (.Call (.Attribute o m apos) (e::es) [] pos) X.env=(do
   let l ←eval o X.env
   standAt apos.atName
   let (f,first) ←holding [l] (getMethod l m pl)
   callWith pos f first (backTo pos<|starEach (e::es) X.env) (backToKw pos<|keywordEach [] X.env))) au_0) :
  PE X (.Call (.Attribute o m apos) (e::es) [] pos) (PL Cc m sp [] E ta t):=by
 obtain⟨f,z,F,s,v⟩:=C.ex;exact RO u c s F r v .nil hx y g h n
def Xg(C:KJ X.prog X.w X.K X.mg X.base CX k (UU X.K Cc m) ps sp)(c:Cls X.K Cc)(l:UH k X.A)(hx:K0 CX X E)(r:PE X o ta)
  (h:autoParam (eval (.Call (.Attribute o m apos) [] [] pos) X.env=(do
   let g ←eval o X.env
   standAt apos.atName
   let (f,first) ←holding [g] (getMethod g m u)
   callWith pos f first (backTo pos<|starEach [] X.env) (backToKw pos<|keywordEach [] X.env))) au_0) :
  PE X (.Call (.Attribute o m apos) [] [] pos) (PL Cc m sp [] E ta XT):=by
 obtain⟨f,v,F,n,s⟩:=C.ex;exact Zla r c n F l s .nil hx h
def Cn(C:KJ X.prog X.w X.K X.mg X.base CX k (Mk X.K Cc) ps sp)(n:X.mg x=some (.ref Cc))(l:UH (k+1) X.A)(hx:K0 CX X E)(v:PA X (e::es) t)(r:autoParam (Gl X x) au_0)(h:autoParam ((x==("__debug__" : Str))=false) au_1)(s:autoParam (starEach (e::es) X.env=(false,eval e X.env)::starEach es X.env) au_0)(g:autoParam ((backTo pos<|starEach es X.env).any (·.1)=false) au_0) :
  PE X (.Call (.Name x p) (e::es) [] pos) (FQ Cc sp [] E t):=by
 obtain⟨f,y,F,M,u⟩:=C.ex;exact Zi2 M F l r n u .nil hx v h s g
end
abbrev PTF:=Γ->Str->(Str->Prop)->XR->Prop
section
variable {K:ZQ}{mg:ZU}{E:L2.St->XK}{t:ExcR.TF}{p:PTF}{te:TE}{a:PTE}
def Na(K:ZQ)(mg:ZU)(E:L2.St->XK)(t:ExcR.TF)(p:PTF):Prop:=∀(n:Hp) (B:Addr->Prop) (H:Hp) (h:L2.St) (l:Γ) (f:Str) (R:Str->Prop) (X:XR) (Q:Str->Hp->Prop),U9 K n B H h l->p l f R X->
 (∀x g,R x->Same H g->Q x g)->(∀c g,X c->Same H g->XE mg (E h) c g)->t h H f Q
noncomputable def MT:PTF:=λ_ f R _=>f.length<=sizeLine/\R f
def T5:Na K mg E ExcR.LM MT:=λo B H l n f R X Q g h q _=>⟨h.1,q _ H h.2 (Same.refl _)⟩
noncomputable def Zj7(x:Str)(p:PTF):PTF:=λg f R X=>(f++x).length<=sizeLine/\p g (f++x) R X
def KA(h:Na K mg E t p):Na K mg E (ExcR.MF x t) (Zj7 x p):=λs B H l n r R X Q f g q o=>⟨g.1,h s B H l n _ R X Q f g.2 q o⟩
noncomputable def Rl(a:PTE)(p:PTF):PTF:=λg f R X=>a g (λs=>match s.d with
 | .int i=>i.natAbs.log2<1920/\(f++(Str.ofString<|toString i)).length<=sizeLine/\p g (f++Str.ofString (toString i)) R X
 | .str x=>x.length<=sizeLine/\(f++x).length<=sizeLine/\p g (f++x) R X
 |_=>False) X
def Te(N:U5 K mg E te a)(h:Na K mg E t p):Na K mg E (ExcR.Me te t) (Rl a p):=λC B H w y L R X Q o M q z=>by
 refine N C B H w y _ X _ o M (λs v G g r J=>?_) z;have f:=o.grow r;have u:=J.rp f.same;split at g
 ·rename_i i ei;rw[ei]at u;exact .inl ⟨i,u.int_inv,g.1,g.2.1,h C B G w y _ R X Q f g.2.2 (λx n hx l=>q x n hx (r.trans l)) λc n A l=>z c n A (r.trans l)⟩
 ·rename_i x ex;rw[ex]at u;exact .inr ⟨x,u.str_inv,g.1,g.2.1,h C B G w y _ R X Q f g.2.2 (λx n hx l=>q x n hx (r.trans l)) λc n A l=>z c n A (r.trans l)⟩
 ·grind
noncomputable def pF(p:PTF):PTE:=λf R X=>p f Str.empty (λx=>R (.sh<|.str x)) X
def Tp(h:Na K mg E t p):U5 K mg E (ExcR.tF t) (pF p):=λs B H g l R X Q f o q n=>
 h s B H g l _ _ X _ f o (λx u hx r=>q _ _ u hx r (.str x)) n
end
open M
noncomputable abbrev plD(f:ZR):D:=.lst (f.map prD)
noncomputable abbrev dD(q:Str×ZS):D:=.tup (.str q.1::q.2.map D.int)
noncomputable abbrev vF:ZZ:=["book","fields","wished"]
noncomputable abbrev vO(C x b1 h g:Addr)(bk:List (Str×ZS))(fs f:List (ZR)):O:=.ins x C vF [(b1,bk.map dD),(h,fs.map plD),(g,f.map plD)]
noncomputable abbrev K7(C:Addr)(bk:List (Str×ZS))(fs f:List (ZR)):D:=.ins C vF [.lst (bk.map dD),.lst (fs.map plD),.lst (f.map plD)]
def Bo{g:Type}(f:g->D)(xs:List g)(x:g):atI ((xs++[x]).map f) (-1)=some (f x):=by
 refine Px ?_;unfold atI ixN;rw[W2 (by lia),W3 (by grind)];show(xs++[x])[_]?=some x;have e:((-1:Int)+((xs++[x]).length:Int)).toNat=xs.length:=by grind
 rw[e,Qh (W5 _),Nat.sub_self];rfl
def X2(e:Option Str)(X:Str->Prop)(R:Prop):Prop:=match e with|some c=>X c|none=>R
noncomputable def Ni(h:Int):Option Str:=if 1<=h/\h<=10 then none else some "BadHolder"
noncomputable def PM:ZR->Option Str
 |[]=>none
 |q::r=>if ¬(1<=q.1/\q.1<=10)then some "BadHolder" else if ¬(1<=q.2/\q.2<=1000)then some "BadWidth" else PM r
noncomputable def Nc(ps:ZR):Option Str:=if 40<ps.length then some "TooManyStrips" else PM ps
theorem Ek:∀{ps:ZR},Field ps->PM ps=none
 |[],_=>rfl
 |q::r,h=>by
  obtain⟨n,l,g,f⟩:=h q WW;unfold PM;rw[W2 (λz=>z ⟨n,l⟩),W2 (λz=>z ⟨g,f⟩)];exact Ek λx hx=>h x (WK _ hx)
def A9(h:Field ps)(f:ps.length<=40):Nc ps=none:=by
 unfold Nc;rw[W2 (by lia)];exact Ek h
noncomputable def B7(ps:ZR)(p:Int):Option Str:=if p<1\/(ps.length:Int)<p then some "NoStrip" else none
noncomputable def UG(ps:ZR)(p:Int):Int×Int:=ps.getD (p-1).toNat (0,0)
noncomputable def Ke(ps:ZR)(p h:Int):Option Str:=if p<1\/(ps.length:Int)<p then some "NoStrip" else if ¬(1<=h/\h<=10)then some "BadHolder" else if (UG ps p).1=h then some "OwnStrip" else none
noncomputable def Pj(ps:ZR)(p h:Int):ZR:=ps.set (p-1).toNat (h,(UG ps p).2)
def EM{ps:ZR}{p:Int}{x}(g:1<=p)(f:p<=ps.length):cutD (ps.map prD) none (some (p-1))++[prD x]++cutD (ps.map prD) (some p) none=(ps.set (p-1).toNat x).map prD:=by
 rw[T7,T7,A7 ps (by lia),Sh ps (by lia)];have e:p.toNat=(p-1).toNat+1:=by lia
 rw[e,List.set_eq_take_append_cons_drop,W3 (by lia),WI,WO,Ju];rfl
def Pr{p}(g:1<=p)(f:p<=ps.length):atI (ps.map prD) (p-1)=some (prD<|UG ps p):=by
 rw[Tz (by lia) (by lia)];unfold UG;rw[WA,Wv (by lia)];rfl
def Zlj(ps:ZR)(p h:Int):(Pj ps p h).length=ps.length:=Q0 ..
def Zaq(f:Field ps)(e:Ke ps p h=none):Field (Pj ps p h):=by
 unfold Ke at e;split at e
 ·cases e
 ·split at e
  ·cases e
  ·rename_i r o;have g:(p-1).toNat<ps.length:=by lia
   intro q hq;rcases List.mem_or_eq_of_mem_set hq with hq|rfl
   ·exact f q hq
   ·have:UG ps p∈ps:=by
     unfold UG;rw[WA,Wv g]
     grind
    obtain⟨_,_,n,l⟩:=f _ this;lia
def Zig(q:Int×Int)(r:ZR):PM (q::r)=if ¬(1<=q.1/\q.1<=10)then some ("BadHolder" : Str)else if ¬(1<=q.2/\q.2<=1000)then some ("BadWidth" : Str)else PM r:=rfl
def M7(q:Str×ZS):imm (dD q)=true:=by
 unfold dD imm X9;rw[SX];rfl
theorem Iv:∀(bk:List (Str×ZS)),X9 (bk.map dD)=true
 |[]=>rfl
 |q::r=>by
  rw[WO];unfold X9;rw[M7,Iv r];rfl
def BP(q:Str×ZS):arg (dD q)=.sh (dD q):=by
 unfold arg;rw[M7]
def Zen:KG N (dD q::ds)=some (.sh<|dD q)::(ds.map (λd=>some (arg d))++List.replicate (N.length-(ds.length+1)) none):=by
 unfold KG;rw[WO,BP];rfl
def Di{q:Str×ZS}{i}(h:i<q.2.length):atI (.str q.1::q.2.map D.int) (1+(i:Int))=some (.int q.2[i]):=Sq (by grind)
noncomputable def X0(ps:ZR)(p w:Int):Option Str:=if p<1\/(ps.length:Int)<p then some "NoStrip" else if w<1\/(UG ps p).2<=w then some "BadPart" else if 40<=ps.length then some "TooManyStrips" else none
noncomputable def KE(ps:ZR)(p w:Int):ZR:=ps.take (p-1).toNat++[((UG ps p).1,w),((UG ps p).1,(UG ps p).2-w)]++ps.drop p.toNat
noncomputable def NI(ps:ZR)(p w:Int):List Bool:=if p<1\/(ps.length:Int)<p then[true,true,false,false]else if w<1\/(UG ps p).2<=w then[true,false,true,false]else if 40<=ps.length then[true,false,false,true]else[]
def Zj8(ps:ZR)(p w:Int):(X0 ps p w=some ("NoStrip" : Str)/\NI ps p w=[true,true,false,false])\/(X0 ps p w=some ("BadPart" : Str)/\NI ps p w=[true,false,true,false])\/(X0 ps p w=some ("TooManyStrips" : Str)/\NI ps p w=[true,false,false,true])\/
  (X0 ps p w=none/\NI ps p w=[]/\1<=p/\p<=ps.length/\1<=w/\w<(UG ps p).2/\ps.length<40):=by
 unfold X0 NI;by_cases c:p<1\/(ps.length:Int)<p
 ·grind
 ·grind
def SZ{p}(h:1<=p)(g:p<=ps.length):UG ps p∈ps:=by
 have f:(p-1).toNat<ps.length:=by lia
 unfold UG;rw[WA,Wv f]
 grind
def Eh{p w}(f:1<=p):cutD (ps.map prD) none (some (p-1))++[prD ((UG ps p).1,w),prD ((UG ps p).1,(UG ps p).2-w)]++cutD (ps.map prD) (some p) none=(KE ps p w).map prD:=by
 rw[T7,T7,A7 ps (by lia),Sh ps (by lia)];unfold KE
 grind
def Zik{p w}(g:1<=p)(f:p<=ps.length):(KE ps p w).length=ps.length+1:=by
 unfold KE
 grind
def R8{p w:Int}(f:Field ps)(h:1<=p)(g:p<=ps.length)(n:1<=w)(l:w<(UG ps p).2):Field (KE ps p w):=by
 obtain⟨a1,a2,a3,a4⟩:=f _ (SZ h g);intro q hq;rcases WC.mp hq with hq|hq
 ·rcases WC.mp hq with hq|hq
  ·exact f q (Vb hq)
  ·grind
 ·exact f q (Jd hq)
section
variable {K:ZQ}{mg:ZU}{E:L2.St->XK}
noncomputable def MS(i:Nat)(a:PTE):PTS:=λR f=>match f[i]? with
 |some (some<|.own<|.lst h)=>a f (λs=>match s.shd with
  |some (.lst g)=>h.length+g.length<=10000000/\R.nx (f.set i<|some<|.own (h++g))
  |_=>False) (R.ex f)
 |_=>False
def Ze5(i:Nat){te a}(U:U5 K mg E te a):UJ K mg E (Sd<|tBM K "list" Gd (X6 i)<|Xk te XT) (MS i a):=by
 intro H0 B H w x R D hB f h e;unfold MS at h;split at h
 ·rename_i ds G;obtain⟨v,C,b,rfl,T,us,J,A⟩:=f.slot i _ G;refine⟨_,C,.inl ⟨rfl,us,SqL.of J⟩,U H0 B H w x _ _ _ f h (λs u H1 p n N=>?_) λc M Q L=>e.ex w x c M Q (f.grow L) (Fr.grow L)⟩;have g:=f.grow n;split at p
  ·rename_i es r;obtain⟨a',y,rfl,o,l⟩:=Rp.lst_inv (N.shd g.same f.zm n r);refine⟨b,a',us,y,rfl,rfl,n _ _ J,off_sub _ _ o,by rw[A.len,l.len];exact W9 p.1 (by decide),?_⟩;obtain⟨r,f2⟩:=g.mutate (es:=.lst (ds++es)) (us:=.lst (us++y)) G C trivial λF M SF Y=>⟨_,Y,Rps.mono SF (Rps.append (Rps.mono (UF n λ_ _ _ z=>z) A) l)⟩;exact e.nx _ _ _ p.2 r ((Fr.grow n).trans f2)
  ·grind
 ·exact h.elim
end
noncomputable def nextM(hs r:ZS):List (ZS):=(hs.filter λh=>!decide (h∈r)).map λh=>r++[h]
noncomputable def Xa(hs:ZS):Nat->List (ZS)
 | 0=>[[]]
 |k+1=>(Xa hs k).flatMap (nextM hs)
def next_mem:o∈nextM hs r↔∃h,h∈hs/\h∉r/\o=r++[h]:=by
 unfold nextM;constructor
 ·grind
 ·grind
theorem rows_mem:∀{k}{r:ZS},r∈Xa hs k↔r.length=k/\r.Nodup/\∀x∈r,x∈hs
 | 0,r=>by
  unfold Xa;constructor
  ·intro h;rw[Wx]at h;subst h;exact⟨rfl,Vd,by simp⟩
  ·rintro⟨h,_⟩;rw[Q1.mp h];exact Wx.mpr rfl
 |k+1,r=>by
  unfold Xa;rw[List.mem_flatMap];constructor
  ·rintro⟨p,f,g⟩;obtain⟨h,o,n,rfl⟩:=next_mem.mp g;obtain⟨a,b,c⟩:=rows_mem.mp f
   ·rw[Qm]
    grind
  ·rintro⟨a,b,c⟩;rcases Q9 r with rfl|⟨p,h,rfl⟩
   ·cases a
   ·rw[QV]at a b c ⊢;rw[Qm]at b;obtain⟨b1,_,l⟩:=b;refine⟨p,rows_mem.mpr ⟨by rw[W7]at a;simpa using a,b1,λx hx=>c x (Qr _ hx)⟩,next_mem.mpr ⟨h,c h (by simp),λz=>l h z h (by simp) rfl,rfl⟩⟩
theorem GH:∀{a b} x y,sl a b->sl (a++x) (b++y)
 |[],_,_,_,h|_::_,[],_,_,h=>by cases h
 |a::r,b::t,x,y,h=>by
  rcases h with h|⟨e,h⟩
  ·exact .inl h
  ·exact .inr ⟨e,GH x y h⟩
theorem EV:∀r {a b:Int},a<b->sl (r++[a]) (r++[b])
 |[],_,_,h=>.inl h
 |c::r,_,_,h=>.inr ⟨rfl,EV r h⟩
theorem HA(f:hs.Pairwise (· < ·)):∀k,(Xa hs k).Pairwise sl
 | 0=>by unfold Xa;exact List.pairwise_singleton _ _
 |k+1=>by
  unfold Xa;rw[List.pairwise_flatMap];refine⟨λr _=>?_,(HA f k).imp λ{a b} h x hx y g=>?_⟩
  ·unfold nextM;rw[Jt];exact(f.filter _).imp λh=>EV r h
  ·obtain⟨_,_,_,rfl⟩:=next_mem.mp hx;obtain⟨_,_,_,rfl⟩:=next_mem.mp g;exact GH _ _ h
def Zb2(hs r:ZS):(nextM hs r).length<=hs.length:=by
 unfold nextM
 grind
def Sb(g:hs.Nodup):r∈Xa hs hs.length↔r.Perm hs:=by
 rw[rows_mem];constructor
 ·rintro⟨o,n,l⟩;rw[List.perm_ext_iff_of_nodup n g];refine λx=>⟨l x,λhx=>?_⟩;by_cases c:x∈r
  ·lia
  ·have:=List.Nodup.length_le_of_subset (Qg.mpr ⟨c,n⟩) (by
    intro y f;rcases W8.mp f with rfl|f
    ·exact hx
    ·exact l y f)
   grind
 ·intro h;exact⟨h.length_eq,h.nodup_iff.mpr g,λx hx=>h.mem_iff.mp hx⟩
theorem Fj:∀{a b:ZS},sl a b->¬sl b a
 |[],_,h,_|_::_,[],h,_=>by cases h
 |a::r,b::t,h,k=>by
  rcases h with h|⟨e,h⟩
  ·rcases k with k|⟨e,_⟩<;>lia
  ·rcases k with k|⟨_,k⟩
   ·lia
   ·exact Fj h k
def KI.uniq (h:KI f c g o) (k:KI f c g p):o=p:=by
 have e:oc c p=oc c o:=by
  have n:=h.le p k.perm k.keeps;have l:=k.le o h.perm h.keeps;lia
 rcases h.first p k.perm k.keeps e with z|z
 ·lia
 ·rcases k.first o h.perm h.keeps e.symm with y|y
  ·grind
  ·exact absurd y (Fj z)
def Fnd(f:ZS->Int)(ok:ZS->Prop)(L:List (ZS)):Option (ZS)->Prop
 |none=>∀o∈L,¬ok o
 |some q=>q∈L/\ok q/\∀o∈L,ok o->f q<=f o/\(f o=f q->q=o\/sl q o)
def Fnd.no (h:Fnd f ok L b) (n:¬ok o):Fnd f ok (L++[o]) b:=by
 cases b with
 |none=>
  intro x hx;rcases WC.mp hx with hx|hx
  ·exact h x hx
  ·grind
 |some q=>
  refine⟨Qr _ h.1,h.2.1,λx hx g=>?_⟩;rcases WC.mp hx with hx|hx
  ·exact h.2.2 x hx g
  ·grind
def Fnd.first (h:Fnd f ok L none) (k:ok o):Fnd f ok (L++[o]) (some o):=by
 refine⟨by simp,k,λx hx g=>?_⟩;rcases WC.mp hx with hx|hx
 ·exact absurd g (h x hx)
 ·grind
def Fnd.less {o q} (h:Fnd f ok L (some q)) (k:ok o) (l:f o<f q):Fnd f ok (L++[o]) (some o):=by
 refine⟨by simp,k,λx hx g=>?_⟩;rcases WC.mp hx with hx|hx
 ·have:=(h.2.2 x hx g).1
  lia
 ·grind
def Fnd.more {o q} (h:Fnd f ok L (some q)) (l:¬f o<f q) (s:∀x∈L,sl x o):Fnd f ok (L++[o]) (some q):=by
 refine⟨Qr _ h.1,h.2.1,λx hx g=>?_⟩;rcases WC.mp hx with hx|hx
 ·exact h.2.2 x hx g
 ·rw[Wx]at hx;rw[hx];exact⟨by lia,λ_=>.inr (s q h.1)⟩
noncomputable def Xt(f:ZR)(a b:Int):Option Str:=if ¬(1<=a/\a<=10)then some "BadHolder" else if ¬(1<=b/\b<=10)then some "BadHolder" else if a=b then some "LikeHolders" else if (a,b)∈f then some "WishStands" else if 20<=f.length then some "TooManyWishes" else none
noncomputable def Xy(f:ZR)(a b:Int):Option Str:=if (a,b)∈f then none else some "NoWish"
noncomputable def Nr(f:ZR)(a b:Int):ZR:=f.filter λq=>!decide (q=(a,b))
noncomputable def Xm(ps:ZR)(p:Int):Option Str:=if p<1\/(ps.length:Int)<=p then some "NoStrip" else if ¬(UG ps p).1=(UG ps (p+1)).1 then some "UnlikeHolders" else if 1000<(UG ps p).2+(UG ps (p+1)).2 then some "TooWide" else none
noncomputable def KF(ps:ZR)(p:Int):ZR:=ps.take (p-1).toNat++[((UG ps p).1,(UG ps p).2+(UG ps (p+1)).2)]++ps.drop (p+1).toNat
def Md{p}(f:1<=p):cutD (ps.map prD) none (some (p-1))++[prD ((UG ps p).1,(UG ps p).2+(UG ps (p+1)).2)]++cutD (ps.map prD) (some (p+1)) none=(KF ps p).map prD:=by
 rw[T7,T7,A7 ps (by lia),Sh ps (by lia)];unfold KF
 grind
def Ov{p}(g:1<=p)(f:p<ps.length):(KF ps p).length+1=ps.length:=by
 unfold KF
 grind
def Zjo(f:Field ps)(e:Xm ps p=none):Field (KF ps p):=by
 unfold Xm at e;split at e
 ·grind
 split at e
 ·cases e
 split at e
 ·cases e
 obtain⟨a1,a2,a3,a4⟩:=f _ (SZ (p:=p) (by lia)<|by lia);obtain⟨b1,l,h,g⟩:=f _ (SZ (p:=p+1) (by lia)<|by lia);intro q hq;rcases WC.mp hq with hq|hq
 ·rcases WC.mp hq with hq|hq
  ·exact f q (Vb hq)
  ·grind
 ·exact f q (Jd hq)
def Zm1(h:KW f)(e:Xt f a b=none):KW (f++[(a,b)]):=by
 unfold Xt at e;split at e
 ·cases e
 split at e
 ·cases e
 split at e
 ·cases e
 split at e
 ·cases e
 split at e
 ·cases e
 rename_i v u s n r;obtain⟨p,l,o⟩:=h;refine⟨by rw[W7,QU];lia,?_,λq hq=>?_⟩
 ·rw[Qm];exact⟨l,by simp,λx hx y g z=>by rw[Wx]at g;subst g;exact n (z▸hx)⟩
 ·grind
def Zcf(h:KW f):KW (Nr f a b):=
 ⟨W9 (Q8 _ _) h.1,h.2.1.filter _,λq hq=>h.2.2 q (WT.mp hq).1⟩
def O6:KW []:=by trivial
noncomputable def Zjw(m:ZS)(k:Int):Int:=1+(k*m.getD 1 0+m.getD 2 0) % 10
noncomputable def Sk(ps:ZR)(p:Int):List Bool:=if p<1\/(ps.length:Int)<=p then[true,true,false,false]else if ¬(UG ps p).1=(UG ps (p+1)).1 then[true,false,true,false]else if 1000<(UG ps p).2+(UG ps (p+1)).2 then[true,false,false,true]else[]
def RW(ps:ZR)(p:Int):(Xm ps p=some ("NoStrip" : Str)/\Sk ps p=[true,true,false,false])\/(Xm ps p=some ("UnlikeHolders" : Str)/\Sk ps p=[true,false,true,false])\/(Xm ps p=some ("TooWide" : Str)/\Sk ps p=[true,false,false,true])\/
  (Xm ps p=none/\Sk ps p=[]/\1<=p/\p<ps.length):=by
 unfold Xm Sk;by_cases c:p<1\/(ps.length:Int)<=p
 ·grind
 ·grind
def R9{p}(g:1<=p)(f:p<ps.length):atI (ps.map prD) p=some (prD<|UG ps (p+1)):=by
 have:=Pr (ps:=ps) (p:=p+1) (by lia) (by lia)
 grind
noncomputable abbrev d3(k:Str)(a b:Int):D:=.tup [.str k,.int a,.int b]
end Pu
namespace Own
open L2
def Zfr(n:Nat):sliceRange ((n:Int)-1) (-1) (-1)=(List.range n).map λk=>n-1-k:=by
 unfold sliceRange;have f:(if (-1:Int)>0 then(if (n:Int)-1 < -1 then(-1-((n:Int)-1) + -1-1) / -1 else 0)else(if (n:Int)-1 > -1 then((n:Int)-1 - -1 - -1-1) / (- -1)else 0)).toNat=n:=by grind
 grind
def Zhh{n:Type}:∀(xs:List n),(((List.range xs.length).map λk=>xs.length-1-k).filterMap (xs[·]?))=xs.reverse:=by
 intro xs;apply QZ;intro i
 have e:((List.range xs.length).map λk=>xs.length-1-k).filterMap (xs[·]?)=(List.range xs.length).filterMap λk=>xs[xs.length-1-k]?:=by
  rw[Jp];rfl
 have s:((List.range xs.length).filterMap λk=>xs[xs.length-1-k]?).map some=(List.range xs.length).map λk=>xs[xs.length-1-k]?:=by
  have:∀l:ZX,(∀k∈l,k<xs.length)->(l.filterMap λk=>xs[xs.length-1-k]?).map some=l.map λk=>xs[xs.length-1-k]?:=by
   intro l
   induction l with
   |nil=>intro _;rfl
   |cons k r o=>
    intro h;have f:=h k WW;have g:xs[xs.length-1-k]?=some xs[xs.length-1-k]:=Wv (by omega);rw[List.filterMap_cons_some (a:=k) g,WO,WO,o λj p=>h j (WK _ p),g]
  exact this _ λk f=>Ji.mp f
 have v:=Qk (λl=>l[i]?) s;by_cases u:i<xs.length
 ·grind
 ·grind
def Zjq(f:ZY):slicePick f.toArray none none (some (-1))=f.reverse.toArray:=by
 unfold slicePick;have h:sliceBounds none none (some (-1)) f.toArray.size=((f.length:Int)-1,-1,-1):=rfl;rw[h];simp only[Zfr]
 have:=Zhh f
 grind
section
variable {X:Cx}{e st:Expr}{te ts:TE}{pos p2:Pos}
noncomputable def Df(K:ZQ):R2:=λx y f Q=>y=.int (-1)/\∃a xs,x=.ref a/\SqL K f a xs/\∀p,f p=none->Q (.ref p) (upd f p<|.lst xs.reverse)
def Zlm(J:PE X e te)(hs:PE X st ts):PE X (.Subscript e (.Slice none none (some st) p2) pos) (tOp (Df X.K) te ts):=by
 intro pins s f H Q I h;refine Subscript_ (thn (J pins s f H _ I h) λv p ⟨x,T,M,z,B⟩=>?_);refine wpAny_Slice ?_;refine W1 ?_;refine W1 ?_;refine thn (hs pins p f T _ M B) λu l ⟨y,N,L,w,A⟩=>?_;obtain⟨rfl,a,xs,rfl,hx,q⟩:=A;obtain⟨t,rfl⟩:=w;cases z
 have g:Inv X pins f N {l with heap:=l.heap.push {cls:=.type "slice",data:=.fields #[.none,.none,.int (-1) t]}}:=L.kept λb C q=>Wz _ q
 obtain⟨E,r,n,G⟩:=g.list hx;have o:=r.length;refine tail_any n.isList.typeIs slot_list_getitem.lookup ?_ rfl;refine wpAny_getItem_list_slice n.isList (Heap.IsSliceOf.new ..) .none .none (.int (-1) t) (by decide) ?_ (by grind);rw[Zjq];refine⟨.ref _,_,g.laid (λb C q=>Wz _ q) (W5 _) ?_,rfl,q _ (g.hok.fresh<|W5 _)⟩;exact⟨by rw[Vk];exact G,_,0,r.reverse,WD _ rfl⟩
def Zfe{K}(f:PE X e te)(hs:PE X st ts)(g:autoParam (X.K=K) au_0):PE X (.Subscript e (.Slice none none (some st) p2) pos) (tOp (Df K) te ts):=by subst g;exact Zlm f hs
end
end Own
namespace Pu
open L2 Own
section
variable {K:ZQ}{mg:ZU}{E:L2.St->XK}{H:Hp}
theorem Rps.reverse:∀{ds}{vs:List V},Rps K H ds vs->Rps K H ds.reverse vs.reverse
 |_,_,.nil=>.nil
 |_,_,.cons h r=>by rw[VL,VL];exact Rps.append (Rps.reverse r) (.cons h .nil)
def Zjs:S->S->(S->Prop)->Prop:=λx y R=>y.d=.int (-1)/\match x.d with | .lst f=>x.free f=true/\R (.own f.reverse)|_=>False
def Zho{a b}(J:U5 K mg E te a)(G:U5 K mg E A b):U5 K mg E (tOp (Df K) te A) (p2 a b Zjs):=by
 refine Ky J G λU H T Z x y v u R Q g f B z w h q=>?_;obtain⟨L,h⟩:=h;have n:=w.rp g;rw[L]at n;split at h
 ·rename_i N M;obtain⟨l,s,rfl,C,r⟩:=(z.items g B f h.1).1 M;exact⟨n.int_inv,l,s,rfl,SqL.of C,λp o=>q _ _ _ h.2 (Xq o) (PU f o r.reverse)⟩
 ·grind
end
section
variable {K:ZQ}{mg:ZU}{E:L2.St->XK}
noncomputable def LB(K:ZQ):R2:=λx y H Q=>∃(p q:Addr) (xs f:List V),x=.ref p/\y=.ref q/\SqT K H p xs/\SqT K H q f/\xs.all Ks=true/\f.all Ks=true/\Q (.bl (!eqL xs f)) H
def HJ(w:X.A.units<cLine)(B:autoParam (X.K=K) au_0):OpR X (compareOp .NotEq) (LB K):=by
 subst B;intro pins s L H x y v u Q I o n h;obtain⟨p,q,xs,f,rfl,rfl,z,hq,f1,J,k⟩:=h;obtain rfl:=o;obtain rfl:=n;obtain⟨N,l,r,_⟩:=I.tuple z;obtain⟨M,g,p2,_⟩:=I.tuple hq;have U:=l.length;have T:=g.length;refine SeqAt.RcNeAt.tuples r p2 w (λj G C=>Dr l g f1 J j G C) _ _ _ _ ⟨.bl (!eqL xs f),H,I,?_,k⟩;show _=Value.bool (!eqL xs f);unfold eqL;by_cases e:xs.length=f.length
 ·grind
 ·grind
def CU:S->S->(S->Prop)->Prop:=λx y R=>∃xs f:ZS,x.d=.tup (xs.map D.int)/\y.d=.tup (f.map D.int)/\R (.sh<|.bl (!decide (xs=f)))
def Lp{a b}(J:U5 K mg E z a)(G:U5 K mg E w b):U5 K mg E (tOp (LB K) z w) (p2 a b CU):=by
 refine Ky J G λH0 H T Z x y v u R Q g s1 hm s r h q=>?_;obtain⟨xs,U,N,M,L⟩:=h;have n:=s.rp g;have l:=r.rp g;rw[N]at n;rw[M]at l;obtain⟨p,us,rfl,o,B⟩:=Rp.tup_inv n;obtain⟨C,Y,rfl,f,A⟩:=Rp.tup_inv l;rw[B.ints]at o;rw[A.ints]at f;refine⟨p,C,_,_,rfl,rfl,SqT.of o,SqT.of f,P8 _,P8 _,?_⟩;rw[Dy];exact q _ _ T L (Same.refl _) (.bl _)
def Ln:List S->(S->Prop)->Prop
 |[s],R=>(match s.d with | .int i=>R (.sh<|.int i) | .bl k=>R (.sh<|.int (if k then 1 else 0))|_=>False)
 |_,_=>False
def Zbx(u:US K mg E n r):U5 K mg E (tCB (λxs H Q=>(∃i,xs=[.int i]/\Q (.int i) H)\/∃k,xs=[.bl k]/\Q (.int (if k then 1 else 0)) H) n) (pCB Ln r):=by
 refine KM u λA H g Z x w R Q p y z l h q=>?_;unfold Ln at h;split at h
 ·rename_i s;obtain⟨v,rfl,o⟩:=l.one_inv;have f:=o.rp p;split at h
  ·rename_i i e;rw[e]at f;exact .inl ⟨i,by rw[f.int_inv],q _ _ g h (Same.refl _) (.int _)⟩
  ·rename_i k e;rw[e]at f;exact .inr ⟨k,by rw[f.bl_inv],q _ _ g h (Same.refl _) (.int _)⟩
  ·grind
 ·exact h.elim
def Zmk(p q:Int×Int):decide ([p.1,p.2]=[q.1,q.2])=decide (p=q):=by grind
def Zkq{R}(h:R (.sh<|.bl (!decide (p=q)))):CU (.sh<|prD p) (.sh<|prD q) R:=by
 refine⟨[p.1,p.2],[q.1,q.2],rfl,rfl,?_⟩;have e:decide ([p.1,p.2]=[q.1,q.2])=decide (p=q):=by grind
 rw[e];omega
end
structure DI (K:ZQ) (x:Str) (st:Stmt):Prop where
 ex:∃f fd,PySem.W.nsIn K mainGlobals x=some (some<|.ref f)/\Fun K x x st f fd
structure MI (K:ZQ) (C:Addr) (m q:Str) (st:Stmt):Prop where
 ex:∃f fd,PySem.W.findIn K (.ref C) m=some (some<|.ref f)/\PySem.W.isFn K (.ref f)=true/\Fun K m q st f fd
section
variable {K:ZQ}{h:Heap}{mg:ZU}
def di{st f oc r s n kV o p g ct}(a:PySem.W.nsIn K mainGlobals x=some (some<|.ref f))(l:K.lookup f=some ⟨oc,r,.func (PySem.W.fnOf x x (K4 st) (Xb st) (U6 st) .none kV o p s g ct),n⟩)(c:PySem.W.codeIn K g x=true)(k:PySem.W.keepIn K (.ref f)=true):DI K x st:=⟨f,_,a,SD l c k⟩
def mi{st f oc r s n kV o p g ct}(a:PySem.W.findIn K (.ref C) m=some (some<|.ref f))(i:PySem.W.isFn K (.ref f)=true)(l:K.lookup f=some ⟨oc,r,.func (PySem.W.fnOf m q (K4 st) (Xb st) (U6 st) .none kV o p s g ct),n⟩)(c:PySem.W.codeIn K g q=true)(k:PySem.W.keepIn K (.ref f)=true):MI K C m q st:=⟨f,_,a,i,SD l c k⟩
def DI.d {st ps} (D:DI K x st) (X:K.In h) (o:h.Ns mainGlobals mg)
  (b:∀kV f l n g ct us,us.length=ps.length->bindArgs (PySem.W.fnOf x x (K4 st) (Xb st) (U6 st) .none kV f l n g ct) ⟨us,[]⟩=pure (ps.zip us)):Def K mg x st ps:=
 let ⟨_,_,a,F⟩:=D.ex
 ⟨_,_,F,Qy X o a,F.binds b⟩
def MI.d {m q st ps} (D:MI K C m q st) (e:o=C)
  (b:∀kV f l n g ct us,us.length=ps.length->bindArgs (PySem.W.fnOf m q (K4 st) (Xb st) (U6 st) .none kV f l n g ct) ⟨us,[]⟩=pure (ps.zip us)):UY K (UU K o m) m q st ps:=
 let ⟨_,_,a,i,F⟩:=D.ex
 ⟨_,_,F,by rw[e];exact⟨a,i,F.kp⟩,F.binds b⟩
def MI.i {q st ps} (D:MI K C "__init__" q st) (e:p=C) (mk:PySem.W.makesIn K C=true) (n:PySem.W.keepIn K (.ref C)=true)
  (b:∀kV f l o g ct us,us.length=ps.length->bindArgs (PySem.W.fnOf "__init__" q (K4 st) (Xb st) (U6 st) .none kV f l o g ct) ⟨us,[]⟩=pure (ps.zip us)):UY K (Mk K p) "__init__" q st ps:=
 let ⟨_,_,a,i,F⟩:=D.ex
 ⟨_,_,F,by rw[e];exact⟨mk,a,i,n⟩,F.binds b⟩
end
def fs{N P f}(r:autoParam (f.kind=.function) au_0)(p:autoParam (f.isCoroutine=false) au_0)(o:autoParam (f.isGenerator=false) au_0)(n:autoParam (N.Nodup) au_5)(l:autoParam (N.take P.length=P) au_0)(h:autoParam (∀x∈P,f.names.lookup x=some .local\/f.names.lookup x=some .cell) au_5)(g:autoParam (∀y∈f.names,y.2≠.free) au_5):U7 N P f:=⟨r,p,o,n,l,h,g⟩
def pz{pos x e te f}(i:Nat)(n:X.N.Nodup)(l:PE X e te)(g:autoParam (X.N[i]?=some x) au_0)(hx:autoParam (Loc X.env.scope x) au_6)(hs:autoParam (swapsWith e (some<|.Name x f) pos.line X.env=pure false) au_0)(h:autoParam (X.fn x=true\/X.env.scope.names.lookup x=some .local) au_2) :
  PS X (.Assign [.Name x f] e pos) (PV te<|Nn i):=Zaf n g hx l hs h
section
variable {K:ZQ}{mg:ZU}{E:L2.St->XK}{H0 H H1 H':Hp}{B Z Z':Addr->Prop}{σ:L2.St}{γ:Γ}
noncomputable def pNm(i:Nat)(p:PTS):PTS:=λR γ=>match γ[i]? with
 |some (some<|.own<|.lst f)=>∀a,p R (γ.set i<|some<|.own<|.lsA a f)
 |_=>p R γ
def U9.change2 {o1 o1' T o2'} (E:U9 K H0 B H σ γ) (hij:i≠j) (hi:γ[i]?=some (some<|.own o1)) (hj:γ[j]?=some (some<|.own T)) (p:σ[i]?=some (some<|.ref a1)) (g:σ[j]?=some (some<|.ref a2))
  (hH:∀b x,H b=some x->¬o1.adr a1 b->¬T.adr a2 b->H' b=some x) (hm:∀b,o1.adr a1 b\/T.adr a2 b->Mut (H' b)) (n1:∀b,o1'.adr a1 b->o1.adr a1 b\/H b=none) (n2:∀b,o2'.adr a2 b->T.adr a2 b\/H b=none) (ap:∀b,o1'.adr a1 b->¬o2'.adr a2 b)
  (r1:OR K (Pu.off (zof B ((γ.set i<|some<|.own o1').set j (some<|.own o2')) σ) H') H' a1 o1') (r2:OR K (Pu.off (zof B ((γ.set i<|some<|.own o1').set j (some<|.own o2')) σ) H') H' a2 o2') :
  U9 K H0 B H' σ ((γ.set i<|some<|.own o1').set j (some<|.own o2'))/\Fr B H σ γ H' σ ((γ.set i<|some<|.own o1').set j (some<|.own o2')):=by
 generalize eg:(γ.set i<|some<|S.own o1').set j (some<|.own o2')=γ2 at r1 r2 ⊢
 have get:∀k s,γ2[k]?=some (some s)->(k=j/\s=.own o2')\/(k=i/\k≠j/\s=.own o1')\/(k≠i/\k≠j/\γ[k]?=some (some s)):=λk s h=>by
  rw[←eg]at h;rcases UX h with⟨A,r,_⟩|⟨A,r⟩
  ·exact .inl ⟨A,(WB r).symm⟩
  ·rcases UX r with⟨f1,f2,_⟩|⟨f1,f2⟩
   ·exact .inr (.inl ⟨f1,A,(WB f2).symm⟩)
   ·exact .inr (.inr ⟨f1,A,f2⟩)
 obtain⟨v1,N,x1,rfl,h1,k1⟩:=E.slot i _ hi;rw[p]at N;cases N
 obtain⟨v2,Q,x2,rfl,h2,k2⟩:=E.slot j _ hj;rw[g]at Q;cases Q
 have za:∀b,o1.adr a1 b\/T.adr a2 b->zof B γ σ b:=λb J=>J.elim (λJ=>.inr ⟨i,o1,a1,hi,p,J⟩) λJ=>.inr ⟨j,T,a2,hj,g,J⟩
 have hz:∀b x,H b=some x->zof B γ2 σ b->zof B γ σ b:=λb x hx z=>by
  rcases z with z|⟨k,fs,a',A,r,f⟩
  ·exact .inl z
  ·rcases get k _ A with⟨C,L⟩|⟨C,_,L⟩|⟨_,_,e⟩
   ·subst C;cases L;rw[g]at r;cases r;rcases n2 b f with w|w
    ·exact za b (.inr w)
    ·rw[w]at hx;cases hx
   ·subst C;cases L;rw[p]at r;cases r;rcases n1 b f with w|w
    ·exact za b (.inl w)
    ·rw[w]at hx;cases hx
   ·exact .inr ⟨k,fs,a',e,r,f⟩
 have U:∀b x,H b=some x->¬(o1.adr a1 b\/T.adr a2 b)->H' b=some x:=λb x hx n=>hH b x hx (λz=>n (.inl z)) λz=>n (.inr z)
 have S1:=λb x h=>by
  obtain⟨N,Q⟩:=Ku h;exact Xe (U b x N λk=>Q (za b k)) λz=>Q (hz b x N z)
 have old:∀(k:Nat) G a b,γ[k]?=some (some<|.own G)->σ[k]?=some (some<|.ref a)->G.adr a b->∃o,H b=some o:=λk G a b A r f=>by
  obtain⟨u,N,a',Q,_,q3⟩:=E.slot k _ A;rw[r]at N;cases N
  cases Q
  exact Kr (q3.mut b f)
 have apart1:∀k G a b,k≠i->γ[k]?=some (some<|.own G)->σ[k]?=some (some<|.ref a)->G.adr a b->¬o1'.adr a1 b:=λk G a b Y A r f w=>by
  rcases n1 b w with w|w
  ·exact Y (E.own k i a a1 G o1 b A hi r p f w)
  ·obtain⟨u,hu⟩:=old k G a b A r f;rw[w]at hu;cases hu
 have apart2:∀k G a b,k≠j->γ[k]?=some (some<|.own G)->σ[k]?=some (some<|.ref a)->G.adr a b->¬o2'.adr a2 b:=λk G a b Y A r f w=>by
  rcases n2 b w with w|w
  ·exact Y (E.own k j a a2 G T b A hj r g f w)
  ·obtain⟨u,hu⟩:=old k G a b A r f;rw[w]at hu;cases hu
 refine⟨⟨λb x h=>?_,by rw[←eg,Q0,Q0];exact E.len,λb J=>?_,λk l x x' fs fs' b A r f M e5 e6=>?_,λk s h=>?_⟩,λb x h z=>⟨?_,λy=>z (hz b x h y)⟩⟩
 ·exact U b x (E.same b x h) λk=>by
   rcases k with k|k
   ·rw[h1 b k]at h;cases h
   ·rw[h2 b k]at h;cases h
 ·by_cases k:o1.adr a1 b\/T.adr a2 b
  ·exact hm b k
  ·have:=E.bm b J
   obtain⟨x,hx⟩:=Kr this;rwa[U b x hx k,←hx]
 ·rcases get k _ A with⟨C,L⟩|⟨C,Y,L⟩|⟨Y,nk',e⟩<;>rcases get l _ r with⟨el,et⟩|⟨el,nl,et⟩|⟨nl,nl',e'⟩
  ·rw[C,el]
  ·subst C el;cases L;cases et;rw[g]at f;cases f;rw[p]at M;cases M;exact absurd e5 (ap b e6)
  ·subst C;cases L;rw[g]at f;cases f;exact absurd e5 (apart2 l fs' x' b nl' e' M e6)
  ·subst C el;cases L;cases et;rw[p]at f;cases f;rw[g]at M;cases M;exact absurd e6 (ap b e5)
  ·rw[C,el]
  ·subst C;cases L;rw[p]at f;cases f;exact absurd e5 (apart1 l fs' x' b nl e' M e6)
  ·subst el;cases et;rw[g]at M;cases M;exact absurd e6 (apart2 k fs x b nk' e f e5)
  ·subst el;cases et;rw[p]at M;cases M;exact absurd e6 (apart1 k fs x b Y e f e5)
  ·exact E.own k l x x' fs fs' b e e' f M e5 e6
 ·rcases get k s h with⟨C,L⟩|⟨C,_,L⟩|⟨Y,nk',e⟩
  ·subst C L;exact⟨_,g,a2,rfl,λb J=>(n2 b J).elim (h2 b) λw=>E.same.free w,r2⟩
  ·subst C L;exact⟨_,p,a1,rfl,λb J=>(n1 b J).elim (h1 b) λw=>E.same.free w,r1⟩
  ·obtain⟨v,N,Q⟩:=E.slot k s e;refine⟨v,N,?_⟩;cases s with
   |sh d=>exact Rp.mono S1 Q
   |own fs=>
    obtain⟨x,rfl,f,M⟩:=Q;exact⟨x,rfl,f,M.mono S1 λb J y r=>hH b y r (λw=>Y (E.own k i x a1 fs o1 b e hi N p J w)) λw=>nk' (E.own k j x a2 fs T b e hj N g J w)⟩
   |_=>exact Q
 ·exact U b x h λk=>z (za b k)
abbrev Pw2:=O->O->List S->(O->O->D->Prop)->(O->O->Str->Prop)->Prop
def two(o1 f:O)(a1 a2:Addr):Addr->Prop:=λb=>o1.adr a1 b\/f.adr a2 b
structure Cj (K:ZQ) (B:Addr->Prop) (H:Hp) (a1 a2:Addr) (o1 o2 o1' o2':O) (H':Hp):Prop where
 same:Same (off (two o1 o2 a1 a2) H) H'
 old1:∀b,o1.adr a1 b->o1'.adr a1 b
 old2:∀b,o2.adr a2 b->o2'.adr a2 b
 new1:∀b,o1'.adr a1 b->o1.adr a1 b\/H b=none
 new2:∀b,o2'.adr a2 b->o2.adr a2 b\/H b=none
 apart:∀b,o1'.adr a1 b->¬o2'.adr a2 b
 at1:OR K (off (λb=>B b\/two o1' o2' a1 a2 b) H') H' a1 o1'
 at2:OR K (off (λb=>B b\/two o1' o2' a1 a2 b) H') H' a2 o2'
noncomputable def Td(mg:ZU)(c:Pw2)(K:ZQ):Sp:=λo H Q E=>∃(o1 h:O) (a1 a2:Addr) (l:List S) (n:List V) (B:Addr->Prop) (R:O->O->D->Prop) (X:O->O->Str->Prop),
 o=.ref a1 :: .ref a2::n/\(∀b,B b->Mut (H b)/\¬two o1 h a1 a2 b)/\(∀b,o1.adr a1 b->¬h.adr a2 b)/\OR K (off (λb=>B b\/two o1 h a1 a2 b) H) H a1 o1/\OR K (off (λb=>B b\/two o1 h a1 a2 b) H) H a2 h/\
 TVs K (λb=>B b\/two o1 h a1 a2 b) (off (two o1 h a1 a2) H) H H l n/\(∀s∈l,s.flat)/\c o1 h l R X/\
 (∀g f d v H',R g f d->Cj K B H a1 a2 o1 h g f H'->Rp K (off (λb=>B b\/two g f a1 a2 b) H') d v->Q v H')/\∀g f e H',X g f e->Cj K B H a1 a2 o1 h g f H'->XE mg E e H'
noncomputable def KR(N:ZZ)(o1 g:O)(f:List S):Γ:=some (.own o1)::some (.own g)::(f.map some++List.replicate (N.length-(f.length+2)) none)
def Zk3{o1 f a1 a2 n us}(hB:∀b,B b->Mut (H b)/\¬two o1 f a1 a2 b)(ap:∀b,o1.adr a1 b->¬f.adr a2 b)(Q:OR K (off (λb=>B b\/two o1 f a1 a2 b) H) H a1 o1)(M:OR K (off (λb=>B b\/two o1 f a1 a2 b) H) H a2 f)(r:TVs K (λb=>B b\/two o1 f a1 a2 b) (off (two o1 f a1 a2) H) H H n us)(hf:∀s∈n,s.flat)(hn:n.length+2<=N.length) :
  U9 K (off (two o1 f a1 a2) H) B H (start N (.ref a1 :: .ref a2::us)) (KR N o1 f n):=by
 have get:∀i s,(KR N o1 f n)[i+2]?=some (some s)->n[i]?=some s:=λi s h=>by
  unfold KR at h;rw[Qu,Qu]at h;by_cases T:i<n.length
  ·rw[Qb (by rw[Wt];exact T),W6,Wv T]at h;rw[Wv T];exact Qk some (WB<|WB h)
  ·rw[Qh (by rw[Wt];lia),Vm]at h;split at h<;>cases h
 have noown:∀i C,(KR N o1 f n)[i+2]?≠some (some<|.own C):=λi C h=>hf _ (W4<|get i _ h)
 have w:(start N (V.ref a1::V.ref a2::us))[0]?=some (some<|.ref a1):=by
  unfold L2.start;rfl
 have u:(start N (V.ref a1::V.ref a2::us))[1]?=some (some<|.ref a2):=by
  unfold L2.start;rfl
 have g0:∀s,(KR N o1 f n)[0]?=some (some s)->s=.own o1:=λs h=>by
  have h:some (some<|S.own o1)=some (some s):=h;cases h
  rfl
 have L:∀s,(KR N o1 f n)[1]?=some (some s)->s=.own f:=λs h=>by
  have h:some (some<|S.own f)=some (some s):=h;cases h
  rfl
 have hz:∀b,zof B (KR N o1 f n) (start N (V.ref a1::V.ref a2::us)) b->B b\/two o1 f a1 a2 b:=λb z=>by
  rcases z with z|⟨i,C,a',l,g,p⟩
  ·exact .inl z
  ·match i,l,g with
   | 0,l,g=>
    rw[w]at g;cases g
    cases g0 _ l
    exact .inr (.inl p)
   | 1,l,g=>
    rw[u]at g;cases g
    cases L _ l
    exact .inr (.inr p)
   |i+2,l,_=>exact absurd l (noown i C)
 have G:∀{o:O} {a:Addr},OR K (off (λb=>B b\/two o1 f a1 a2 b) H) H a o->OR K (off (zof B (KR N o1 f n)<|start N (V.ref a1::V.ref a2::us)) H) H a o:=λh=>h.mono (UF (Same.refl _) λb _ _ z y=>z (hz b y)) λ_ _ _ q=>q;refine⟨off_sub,?_,λb h=>(hB b h).1,λi j x x' C J b l g p A h5 h6=>?_,λi s h=>?_⟩
 ·unfold L2.start KR;simp[r.len]
 ·match i,j,l,g,p,A with
  | 0,0,_,_,_,_=>rfl
  | 1,1,_,_,_,_=>rfl
  | 0,1,l,g,p,A=>
   cases g0 _ l
   cases L _ g
   rw[w]at p;cases p
   rw[u]at A;cases A
   exact absurd h6 (ap b h5)
  | 1,0,l,g,p,A=>
   cases L _ l
   cases g0 _ g
   rw[u]at p;cases p
   rw[w]at A;cases A
   exact absurd h5 (ap b h6)
  |i+2,_,l,_,_,_=>exact absurd l (noown i C)
  | 0,j+2,_,g,_,_=>exact absurd g (noown j J)
  | 1,j+2,_,g,_,_=>exact absurd g (noown j J)
 ·match i,h with
  | 0,h=>
   cases g0 _ h
   refine⟨_,w,a1,rfl,λb U=>?_,G Q⟩;unfold off;rw[W3 (.inl U)]
  | 1,h=>
   cases L _ h
   refine⟨_,u,a2,rfl,λb U=>?_,G M⟩;unfold off;rw[W3 (.inr U)]
  |i+2,h=>
   have hs:=get i s h;obtain⟨v,hv,Y⟩:=r.get hs;refine⟨v,?_,?_⟩
   ·unfold L2.start;rw[Qb (by rw[Wt,WM,WM];have:=(WH.mp hv).1;lia),W6,Qu,Qu,hv];rfl
   ·have:=hf s (W4 hs)
    cases s with
    |bor d=>exact Y
    |sh d=>exact Rp.mono (UF (Same.refl _) λb _ _ z y=>z (hz b y)) Y
    |own _=>exact this.elim
    |view _=>exact this.elim
    |tmp _=>exact this.elim
def Gc(o1 h:O)(R:O->O->D->Prop)(γ:Γ)(d:D):Prop:=∃g f,γ[0]?=some (some<|.own g)/\γ[1]?=some (some<|.own f)/\o1.from g/\h.from f/\R g f d
def Zl0(o1 h:O)(X:O->O->Str->Prop)(γ:Γ)(e:Str):Prop:=∃g f,γ[0]?=some (some<|.own g)/\γ[1]?=some (some<|.own f)/\o1.from g/\h.from f/\X g f e
noncomputable def IM(o1 f:O)(R:O->O->D->Prop)(X:O->O->Str->Prop):P4:={nx:=λγ=>Gc o1 f R γ .non,rt:=λ_=>False,ex:=Zl0 o1 f X,rv:=Gc o1 f R}
def FA{o1 f o1' o2'}{σ'}{γ'}(r:OR K (off (λb=>B b\/two o1 f a1 a2 b) H) H a1 o1)(p:OR K (off (λb=>B b\/two o1 f a1 a2 b) H) H a2 f)(e:U9 K (off (two o1 f a1 a2) H) B H' σ' γ')(u:γ'[0]?=some (some<|.own o1'))(s:γ'[1]?=some (some<|.own o2'))(k1:o1.from o1')(k2:f.from o2') :
  Cj K B H a1 a2 o1 f o1' o2' H'/\∀b,B b\/two o1' o2' a1 a2 b->zof B γ' σ' b:=by
 obtain⟨N,A,l,rfl,L,G⟩:=e.slot 0 _ u;obtain rfl:=O.from_at k1 r G;obtain⟨M,x,g,rfl,p2,C⟩:=e.slot 1 _ s;obtain rfl:=O.from_at k2 p C
 have J:∀b,B b\/two o1' o2' l g b->zof B γ' σ' b:=λb z=>by
  rcases z with z|z|z
  ·exact .inl z
  ·exact .inr ⟨0,o1',l,u,A,z⟩
  ·exact .inr ⟨1,o2',g,s,x,z⟩
 have v:∀b,o1'.adr l b->¬o2'.adr g b:=λb z y=>absurd (e.own 0 1 l g o1' o2' b u s A x z y) (by decide);have fromZ:∀{o:O} {a:Addr},OR K (off (zof B γ' σ') H') H' a o->OR K (off (λb=>B b\/two o1' o2' l g b) H') H' a o:=λh=>h.mono (UF (Same.refl _) λb _ _ z y=>z (J b y)) λ_ _ _ q=>q
 have free:∀b,off (two o1 f l g) H b=none->two o1 f l g b\/H b=none:=λb w=>by
  unfold off at w;by_cases q:two o1 f l g b
  ·exact .inl q
  ·rw[W2 q]at w;exact .inr w
 refine⟨⟨e.same,O.from_adr k1,O.from_adr k2,λb n=>?_,λb n=>?_,v,fromZ G,fromZ C⟩,J⟩
 ·rcases free b (L b n)with(w|w)|w
  ·exact .inl w
  ·exact absurd (O.from_adr k2 b w) (v b n)
  ·exact .inr w
 ·rcases free b (p2 b n)with(w|w)|w
  ·exact absurd n (v b<|O.from_adr k1 b w)
  ·exact .inl w
  ·exact .inr w
def Om{t p vs Q Ec n}(h:Td mg c K vs H Q Ec)(Y:UJ K mg (λ_=>Ec) t p)(hn:n+2<=N.length)(hp:∀o1 M C R X,c o1 M C R X->C.length=n/\p (IM o1 M R X) (KR N o1 M C)):t {nx:=λ_ H'=>Q .non H',rt:=Q} (start N vs) H:=by
 obtain⟨o1,M,a1,a2,C,us,B,R,X,rfl,hB,ap,o,l,r,hf,hc,hQ,hX⟩:=h;obtain⟨e,hp⟩:=hp o1 M C R X hc;refine Y _ B H _ _ _ _ (λb z=>?_) (Zk3 hB ap o l r hf<|by rw[e];exact hn) hp ⟨λw A H' T U f1=>?_,λ_ _ _ z=>z.elim,λw A c H' T U f1=>?_,λ_ _ _ z=>z.elim,λ_ _ _ z=>z.elim,λw A d v H' T U f1 rd=>?_⟩
 ·obtain⟨u,s⟩:=hB b z;obtain⟨x,hx⟩:=Kr u;exact⟨x,Xe hx s⟩
 ·obtain⟨g,f,u,s,L,J,G⟩:=T;exact hQ g f .non .non H' G (FA o l U u s L J).1 .non
 ·obtain⟨g,f,u,s,L,J,G⟩:=T;exact hX g f c H' G (FA o l U u s L J).1
 ·obtain⟨g,f,u,s,L,J,G⟩:=T;obtain⟨k1,k2⟩:=FA o l U u s L J;exact hQ g f d v H' G k1 (Rp.mono (UF (Same.refl _) λb _ _ z y=>z (k2 b y)) rd)
def Zlz(h:Td mg c K vs H Q s)(l:∀o1 g f R X,c o1 g f R X->f.length=n):vs.length=n+2:=by
 obtain⟨o1,g,a1,a2,f,p,B,R,X,rfl,_,_,_,_,r,_,o,_⟩:=h;rw[WM,WM,r.len,l o1 g f R X o]
noncomputable def Znb(i j:Nat)(c:Pw2)(r:PTA):PTW:=λγ R X=>match γ[i]?,γ[j]? with
 |some (some<|.own o1),some (some<|.own n)=>r γ (λl=>match passes l with|some h=>c o1 n h (λg f d=>R ((γ.set i<|some<|.own g).set j (some<|.own f)) d) (λg f e=>X ((γ.set i<|some<|.own g).set j (some<|.own f)) e)|none=>False) (X γ)
 |_,_=>False
abbrev PTV:=Γ->(Γ->Bool->Prop)->(Γ->Str->Prop)->Prop
def BO(K:ZQ)(mg:ZU)(E:L2.St->XK)(t:TT)(p:PTV):Prop:=∀(H0:Hp) (B:Addr->Prop) (H:Hp) (σ:L2.St) (γ:Γ) (R:Γ->Bool->Prop) (X:Γ->Str->Prop) (Q:Bool->Hp->Prop),(∀b,B b->∃o,H0 b=some o)->U9 K H0 B H σ γ->p γ R X->
 (∀f b H',R f b->U9 K H0 B H' σ f->Fr B H σ γ H' σ f->Q b H')->(∀f c H',X f c->U9 K H0 B H' σ f->Fr B H σ γ H' σ f->XE mg (E σ) c H')->t σ H Q
noncomputable def pVW(w:PTW):PTV:=λγ R X=>w γ (λf d=>match d with | .bl c=>R f c|_=>False) X
def GC(hw:KH K mg E te w):BO K mg E (AB K te) (pVW w):=by
 intro H0 B H σ γ R X Q p f h q o;refine hw H0 B H σ γ _ _ _ p f h (λl d v H' g r f1 n=>?_) o;split at g
 ·rw[n.bl_inv];exact⟨_,rfl,q _ _ _ g r f1⟩
 ·grind
noncomputable def Zel(p:PTV):PTV:=λγ R X=>p γ (λf b=>R f (!b)) X
def GE(n:BO K mg E t p):BO K mg E (BZ t) (Zel p):=by
 intro H0 B H σ γ R X Q o g h q l;exact n H0 B H σ γ _ _ _ o g h (λf b H' r s f1=>q f (!b) H' r s f1) l
noncomputable def Zf1(c:PTV)(p q:PTS):PTS:=λR γ=>c γ (λf b=>if b=true then p R f else q R f) R.ex
def Ge{p q}(s:BO K mg E tt c)(r:UJ K mg E t p)(hq:UJ K mg E u q):UJ K mg E (Ay tt t u) (Zf1 c p q):=by
 intro H0 B H σ γ R D l n h e;refine s H0 B H σ γ _ _ _ l n h (λf b H' o g f1=>?_) λf c H' o g f1=>e.ex _ _ _ _ o g f1;cases b with
 |true=>
  exact r H0 B H' σ f R D l g (by grind) (e.from f1)
 |false=>
  exact hq H0 B H' σ f R D l g (by grind) (e.from f1)
noncomputable def Lu(i:Nat):PTW:=λγ R _=>match γ[i]? with
 |some (some<|.own<|.lsA x f)=>∃d,f[f.length-1]?=some d/\R (γ.set i<|some<|.own<|.lsA x f.dropLast) d
 |some (some<|.own<|.lst f)=>∃d,f[f.length-1]?=some d/\R (γ.set i<|some<|.own<|.lst f.dropLast) d
 |_=>False
def RZ(i:Nat):KH K mg E (NN K "list" Ak<|X6 i) (Lu i):=by
 intro H0 B H σ γ R X Q L f h q J;unfold Lu at h;split at h
 ·rename_i x C n;obtain⟨d,z,h⟩:=h;obtain⟨v,l,b,rfl,w,rfl,us,o,g⟩:=f.slot i _ n;obtain⟨u,s,r⟩:=g.get z;refine⟨_,l,.inl ⟨rfl,us,SqL.of o⟩,b,us,u,rfl,rfl,o,by rw[g.len];exact s,?_⟩;obtain⟨A,p⟩:=f.mutate (es:=.lsA b C.dropLast) (us:=.lst us.dropLast) n l trivial λF H' G y=>⟨rfl,_,y,Rps.mono G (Rps.dropLast g)⟩;exact q _ _ _ _ h A p (Rp.mono p.off r)
 ·rename_i C n;obtain⟨d,z,h⟩:=h;obtain⟨v,l,b,rfl,w,us,o,g⟩:=f.slot i _ n;obtain⟨u,s,r⟩:=g.get z;refine⟨_,l,.inl ⟨rfl,us,SqL.of o⟩,b,us,u,rfl,rfl,o,by rw[g.len];exact s,?_⟩;obtain⟨A,p⟩:=f.mutate (es:=.lst C.dropLast) (us:=.lst us.dropLast) n l trivial λF H' G y=>⟨_,y,Rps.mono G (Rps.dropLast g)⟩;exact q _ _ _ _ h A p (Rp.mono p.off r)
 ·grind
abbrev Pq:=List S->(S->Prop)->(Str->Prop)->Prop
noncomputable def spS(mg:ZU)(c:Pq)(K:ZQ):Sp:=λg H Q E=>∃(f:List S) (B:Addr->Prop) (R:S->Prop) (X:Str->Prop),(∀b,B b->Mut (H b))/\TVs K B H H H f g/\(∀s∈f,s.flat)/\c f R X/\
 (∀s v H',R s->Same H H'->TV K B H H H' s v->Q v H')/\∀e H',X e->Same H H'->XE mg E e H'
noncomputable def Ta(N:ZZ)(f:List S):Γ:=f.map some++List.replicate (N.length-f.length) none
def Zfb{f us}(C:∀b,B b->Mut (H b))(r:TVs K B H H H f us)(w:∀s∈f,s.flat)(L:f.length<=N.length):U9 K H B H (start N us) (Ta N f):=by
 have get:∀i s,(Ta N f)[i]?=some (some s)->f[i]?=some s:=λi s h=>by
  unfold Ta at h;by_cases l:i<f.length
  ·rw[Qb (by rw[Wt];exact l),W6,Wv l]at h;rw[Wv l];exact Qk some (WB<|WB h)
  ·grind
 have noown:∀(i:Nat) g,(Ta N f)[i]?≠some (some<|.own g):=λi g h=>w _ (W4<|get i _ h)
 have A:∀b,zof B (Ta N f) (start N us) b->B b:=λb z=>by
  rcases z with z|⟨i,g,T,n,Q,M⟩
  ·exact z
  ·exact absurd n (noown i g)
 refine⟨Same.refl _,?_,C,λi j x J g G b n _ _ _ _ _=>absurd n (noown i g),λi s h=>?_⟩
 ·unfold L2.start Ta;simp[r.len]
 ·have u:=get i s h;obtain⟨v,p,o⟩:=r.get u;refine⟨v,?_,?_⟩
  ·unfold L2.start;rw[Qb (by rw[Wt];exact(WH.mp p).1),W6,p];rfl
  ·have:=w s (W4 u)
   cases s with
   |bor d=>exact o
   |sh d=>exact Rp.mono (UF (Same.refl _) λb _ _ z y=>z (A b y)) o
   |_=>exact this.elim
def Zmr{t p vs Q C n}(h:spS mg c K vs H Q C)(u:UJ K mg (λ_=>C) t p)(U:n<=N.length)(w:∀f R X,c f R X->f.length=n/\p {nx:=λ_=>R (.sh .non),rt:=R,ex:=λ_ e=>X e} (Ta N f)):t {nx:=λ_ H'=>Q .non H',rt:=Q} (start N vs) H:=by
 obtain⟨f,B,R,X,A,r,J,L,y,M⟩:=h;obtain⟨e,w⟩:=w f R X L;exact u H B H _ _ _ _ (λb z=>Kr (A b z)) (Zfb A r J<|by lia) w ⟨λl o H' g x f1=>y _ _ H' g x.same .non,λs v H' g T G=>y s v H' g T G,λl o c H' g x f1=>M c H' g x.same,λ_ _ _ z=>z.elim,λ_ _ _ z=>z.elim,λ_ _ _ _ _ z=>z.elim⟩
def OH(h:spS mg c K vs H Q o)(g:∀f R X,c f R X->f.length=n):vs.length=n:=by
 obtain⟨f,B,R,X,_,r,_,l,_⟩:=h;rw[r.len]
 grind
def TV.backS (env:U9 K H0 B H1 σ γ) (o:Same H H1) (f:Same H1 H') (h:TV K (zof B γ σ) H1 H1 H' s v):TV K (zof B γ σ) H0 H H' s.back v:=by
 cases s with
 |bor d=>exact K5 (λb z=>KQ f (env.zm b z)) (Rp.mono f h)
 |own n=>
  obtain⟨a,rfl,l,r⟩:=h;exact⟨a,rfl,(λb g=>o.free (l b g)),r⟩
 |view n=>
  obtain⟨a,rfl,r⟩:=h;exact r.rp off_sub
 |_=>exact h
def TV.passS {v} (env:U9 K H0 B H1 σ γ) (g:∀b,zof B γ σ b->Mut (H b)) (n:Same H H1) (h:TV K (zof B γ σ) H0 H H1 s v) (e:s.pass=some f):TV K (zof B γ σ) H1 H1 H1 f v:=by
 have shd:∀d,s.shd=some d->Rp K (off (zof B γ σ) H1) d v:=λd l=>h.shd env.same g n l;cases s with
 |view o=>cases e
 |tmp d=>
  unfold S.pass at e;cases q:imm d with
  |false=>simp_all
  |true=>simp[q]at e;subst e;exact shd d (by unfold S.shd;simp[q])
 |bor d=>
  unfold S.pass at e;cases q:imm d with
  |false=>simp[q]at e;subst e;exact Rp.mono env.same h
  |true=>simp[q]at e;subst e;exact shd d (by unfold S.shd;simp[q])
 |_=>cases e;exact shd _ rfl
theorem TVs.passS (env:U9 K H0 B H1 σ γ) (l:∀b,zof B γ σ b->Mut (H b)) (n:Same H H1):∀{g f}{vs:List V},TVs K (zof B γ σ) H0 H H1 g vs->passes g=some f->TVs K (zof B γ σ) H1 H1 H1 f vs
 |_,_,_,.nil,e=>by cases e;exact .nil
 |_,_,_,.cons h r,e=>by
  unfold passes at e;split at e
  ·rename_i s u p o;cases e
   exact .cons (h.passS env l n p) (TVs.passS env l n r o)
  ·grind
noncomputable def Zbh(c:Pq)(r:PTA):PTE:=λγ R X=>r γ (λg=>match passes g with|some f=>c f (λs=>R s.back) (λ_=>False)|none=>False) X
def Du{n r}(G:US K mg E n r):U5 K mg E (P3 (spS mg c K) [] E0 n) (Zbh c r):=by
 intro H0 B H σ γ R X Q g p q A;refine G H0 B H σ γ _ X _ g p (λL J H1 o h y=>?_) A;rw[Qn];have f:=g.grow h;split at o
 ·rename_i l u;exact⟨l,zof B γ σ,_,_,f.zm,y.passS f g.zm h u,NP u,o,λs v H' C w x=>q _ _ H' C (h.trans w) (x.backS f h w),λ_ _ z=>z.elim⟩
 ·grind
noncomputable def Zm5(a:PTE)(l u:PTO):PTE:=λγ R X=>a γ (λs=>l γ (λlo=>u γ (λf=>match s.d with | .lst g=>R (.tmp<|.lst<|cutD g lo f)|_=>False) X) X) X
noncomputable def Za0(a:PTE)(l u:PTO):PTI:=λγ R X=>a γ (λs=>l γ (λlo=>u γ (λf=>match s with
 | .bor d=>(match d.strip with | .lst g=>R (cutD g lo f).length (λi=>arg ((cutD g lo f).getD i .non))|_=>False)
 |_=>False) X) X) X
def OE{a l u}(ha:U5 K mg E te a)(hl:Pt K mg E tl l)(hu:Pt K mg E th u):TK K mg E (Ny K<|tSl (N0 K) te tl th) (Za0 a l u):=by
 intro H0 B H σ γ R X Q f p q C;refine ha H0 B H σ γ _ X _ f p (λx v H1 h1 o s=>?_) C;refine hl H0 B H1 σ γ _ X _ (f.grow o) h1 (λlo H2 h2 L=>?_) λc H' J M=>C c H' J (o.trans M);refine hu H0 B H2 σ γ _ X _ ((f.grow o).grow L) h2 (λg U h S3=>?_) λc H' J M=>C c H' J ((o.trans L).trans M);have n:=(o.trans L).trans S3;split at h
 ·rename_i d;split at h
  ·rename_i w ed;have s:=Rp.strip s;rw[ed]at s;obtain⟨b,A,rfl,hb,r⟩:=Rp.lst_inv s;refine⟨b,A,rfl,SqL.of ((f.grow n).same _ _ hb),λm nm=>?_⟩;have S4:Same U (upd U m<|.lst<|Pn A lo g):=Xq nm;have N:Rps K H0 (cutD w lo g) (Pn A lo g):=r.cut;refine⟨m,rfl,⟨_,SqL.of UZ⟩,q _ _ _ _ h (n.trans S4) ⟨λi H' Z' G z lt=>?_,λH' Z' z lt=>⟨_,SqL.of (z _ _ UZ),by rw[N.len];exact W5 _⟩⟩⟩;have hd:(cutD w lo g)[i]?=some ((cutD w lo g).getD i .non):=by rw[WA,Wv G];rfl
   obtain⟨u,T,h5⟩:=N.get hd;have Y:TV K Z' H0 H' H' (arg ((cutD w lo g).getD i .non)) u:=Tv lt.2.1 lt.1 h5;refine⟨⟨_,u,SqL.of (z _ _ UZ),T⟩,λx H'' y=>?_⟩;obtain⟨rfl,y⟩:=y
   have:=y _ (SqL.of<|z _ _ UZ)
   rw[T]at this;cases this
   exact⟨Same.refl _,Y⟩
  ·exact h.elim
 ·exact h.elim
def Zli{n:Type}{φ}{γ}{g}{c}{e}{R}{xs:List n}{emb}(f:n->Option D)(u:xs.length<=100000)(turn:∀x∈xs,g (arg<|emb x) (atP φ γ) λh=>c h (λb=>if b=true then e h (λs=>∃d,s.shd=some d/\f x=some d) (λ_=>False)else f x=none) λ_=>False)(done:R (.own<|xs.filterMap f)) :
  Nz φ γ g c e (xs.map emb).length (λi=>arg ((xs.map emb).getD i .non)) R:=by
 refine⟨⟨by rw[Wt];exact u,λi=>(xs[i]?).bind f,λi v=>?_,?_⟩⟩
 ·simp_all
 ·have:(List.range (xs.map emb).length).filterMap (λi=>(xs[i]?).bind f)=xs.filterMap f:=by
   rw[Wt]
   have o:∀l:List n,(List.range l.length).filterMap (λi=>(l[i]?).bind f)=l.filterMap f:=λl=>by
    induction l with
    |nil=>rfl
    |cons x r p=>
     rw[WM,List.range_succ_eq_map,Q4,Jp,Q4];simp only[List.getElem?_cons_zero,Option.bind_some];have e:((λi=>((x::r)[i]?).bind f)∘Nat.succ)=λi=>(r[i]?).bind f:=rfl;rw[e,p]
   exact o xs
  grind
noncomputable def Zkg(a:PTE)(l u:PTO):PTE:=λγ R X=>a γ (λs=>l γ (λlo=>u γ (λg=>match s.d with | .scr f=>R (.own ((cutD f lo g).map D.int))|_=>False) X) X) X
def Zhu(ns:ZS)(lo f:Option Int):Pn (ns.map V.int) lo f=(cutD ns lo f).map V.int:=by
 unfold Pn cutD;simp
def Za2{a l u}(T:U5 K mg E te a)(M:Pt K mg E C l)(L:Pt K mg E G u):U5 K mg E (tSl (N0 K) te C G) (Zkg a l u):=by
 intro H0 B H σ γ R X Q f p q o;refine T H0 B H σ γ _ X _ f p (λx v H1 Y h J=>?_) o;refine M H0 B H1 σ γ _ X _ (f.grow h) Y (λlo H2 U n=>?_) λc H' r s=>o c H' r (h.trans s);refine L H0 B H2 σ γ _ X _ ((f.grow h).grow n) U (λhi H3 z A=>?_) λc H' r s=>o c H' r ((h.trans n).trans s);have g:=(h.trans n).trans A;split at z
 ·rename_i ns e;have w:=(J.grow<|n.trans A).rp (f.grow g).same;rw[e]at w;obtain⟨b,rfl,N⟩:=w.scr_inv;refine⟨b,_,rfl,N,λm y=>?_⟩;rw[Zhu];exact q _ _ _ z (g.trans<|Xq y) (PU g y<|Rps.of_ints _)
 ·grind
end
open M
inductive Dd where
 |sell (p h:Int)|part (p w:Int)|unite (p:Int)|wish (a b:Int)|drop (a b:Int)
noncomputable def Dd.q:Dd->Str×ZS
 | .sell p h=>("sell",[p,h]) | .part p w=>("part",[p,w]) | .unite p=>("unite",[p]) | .wish a b=>("wish",[a,b]) | .drop a b=>("drop",[a,b])
noncomputable def Dd.land:Dd->Bool
 | .sell _ _=>true | .part _ _=>true | .unite _=>true|_=>false
noncomputable def Dd.err (f w:ZR):Dd->Option Str
 | .sell p h=>Ke f p h | .part p v=>X0 f p v | .unite p=>Xm f p | .wish a b=>Xt w a b | .drop a b=>Xy w a b
noncomputable def Dd.fld (f:ZR):Dd->ZR
 | .sell p h=>Pj f p h | .part p v=>KE f p v | .unite p=>KF f p|_=>f
noncomputable def Dd.wsh (w:ZR):Dd->ZR
 | .wish a b=>w++[(a,b)] | .drop a b=>Nr w a b|_=>w
noncomputable def codeN:Option Str->Int
 |none=>0
 |some c=>if c=("NoStrip" : Str)then 1 else if c=("BadHolder" : Str)then 2 else if c=("OwnStrip" : Str)then 3 else if c=("BadPart" : Str)then 4 else if c=("TooManyStrips" : Str)then 5 else if c=("UnlikeHolders" : Str)then 6 else if c=("TooWide" : Str)then 7 else if c=("LikeHolders" : Str)then 8 else if c=("WishStands" : Str)then 9 else if c=("TooManyWishes" : Str)then 10 else 11
def Ae:codeN (some "NoStrip")=1:=rfl
def BQ:codeN (some "BadHolder")=2:=rfl
def DL:codeN (some "OwnStrip")=3:=rfl
def Fz:codeN (some "BadPart")=4:=rfl
def GA:codeN (some "TooManyStrips")=5:=rfl
def Ih:codeN (some "UnlikeHolders")=6:=rfl
def Mt:codeN (some "TooWide")=7:=rfl
def Gb:codeN (some "LikeHolders")=8:=rfl
def LS:codeN (some "WishStands")=9:=rfl
def DY:codeN (some "TooManyWishes")=10:=rfl
def LY:codeN (some "NoWish")=11:=rfl
noncomputable def Dd.fld' (f:ZR) (x:Dd):ZR:=if x.err f []=none then x.fld f else f
noncomputable def Dd.wsh' (w:ZR) (x:Dd):ZR:=if x.err [] w=none then x.wsh w else w
noncomputable def Dd.nf (f w:ZR) (x:Dd):ZR:=if x.err f w=none then x.fld f else f
noncomputable def Dd.nw (f w:ZR) (x:Dd):ZR:=if x.err f w=none then x.wsh w else w
def Dd.err_land {x:Dd} (h:x.land=true) (f w u:ZR):x.err f w=x.err f u:=by
 cases x<;>first|rfl|cases h
def Dd.err_wish {x:Dd} (h:x.land=false) (f g w:ZR):x.err f w=x.err g w:=by
 cases x<;>first|rfl|cases h
def Dd.err_cases (f w : ZR) (x : Dd) : x.err f w = none ∨ x.err f w = some ("NoStrip" : Str) ∨ x.err f w = some ("BadHolder" : Str) ∨ x.err f w = some ("OwnStrip" : Str) ∨ x.err f w = some ("BadPart" : Str) ∨ x.err f w = some ("TooManyStrips" : Str) ∨ x.err f w = some ("UnlikeHolders" : Str) ∨ x.err f w = some ("TooWide" : Str) ∨ x.err f w = some ("LikeHolders" : Str) ∨ x.err f w = some ("WishStands" : Str) ∨ x.err f w = some ("TooManyWishes" : Str) ∨ x.err f w = some ("NoWish" : Str) := by
  cases x with
  | sell p h => show Ke f p h = _ ∨ Ke f p h = _ ∨ Ke f p h = _ ∨ Ke f p h = _ ∨ _; unfold Ke; repeat' split
                all_goals simp
  | part p h => show X0 f p h = _ ∨ X0 f p h = _ ∨ X0 f p h = _ ∨ X0 f p h = _ ∨ X0 f p h = _ ∨ X0 f p h = _ ∨ _; unfold X0; repeat' split
                all_goals simp
  | unite p => show Xm f p = _ ∨ Xm f p = _ ∨ Xm f p = _ ∨ Xm f p = _ ∨ Xm f p = _ ∨ Xm f p = _ ∨ Xm f p = _ ∨ Xm f p = _ ∨ _; unfold Xm; repeat' split
               all_goals simp
  | wish a b => show Xt w a b = _ ∨ Xt w a b = _ ∨ Xt w a b = _ ∨ Xt w a b = _ ∨ Xt w a b = _ ∨ Xt w a b = _ ∨ Xt w a b = _ ∨ Xt w a b = _ ∨ Xt w a b = _ ∨ Xt w a b = _ ∨ Xt w a b = _ ∨ _; unfold Xt; repeat' split
                all_goals simp
  | drop a b => show Xy w a b = _ ∨ Xy w a b = _ ∨ Xy w a b = _ ∨ Xy w a b = _ ∨ Xy w a b = _ ∨ Xy w a b = _ ∨ Xy w a b = _ ∨ Xy w a b = _ ∨ Xy w a b = _ ∨ Xy w a b = _ ∨ Xy w a b = _ ∨ Xy w a b = _; unfold Xy; repeat' split
                all_goals simp
abbrev Xo:=List (Dd×ZR×ZR)
noncomputable def bkH(hs:Xo):List (Str×ZS):=hs.map λh=>h.1.q
noncomputable def fsH(f0:ZR)(hs:Xo):List (ZR):=f0::hs.map λh=>h.2.1
noncomputable def wsH(hs:Xo):List (ZR):=[]::hs.map λh=>h.2.2
noncomputable def Sm(h:Dd×ZR×ZR):D:=.tup [plD h.2.1,plD h.2.2,dD h.1.q]
noncomputable def Zc0(f0:ZR):D:=.tup [plD f0,.lst [],.tup []]
noncomputable def Xp(f0:ZR)(hs:Xo):List D:=Zc0 f0::hs.map Sm
noncomputable def Xd(f0:ZR)(hs:Xo):ZR:=match hs.getLast? with|some h=>h.2.1|none=>f0
noncomputable def Xi(hs:Xo):ZR:=match hs.getLast? with|some h=>h.2.2|none=>[]
def N2(f0:ZR)(hs:Xo):∃fs,fsH f0 hs=fs++[Xd f0 hs]/\fs.length=hs.length:=by
 unfold fsH Xd;rcases Q9 hs with rfl|⟨h,x,rfl⟩
 ·exact⟨[],rfl,rfl⟩
 ·refine⟨f0::h.map λh=>h.2.1,?_,by simp⟩;simp
def N3(hs:Xo):∃f,wsH hs=f++[Xi hs]/\f.length=hs.length:=by
 unfold wsH Xi;rcases Q9 hs with rfl|⟨h,x,rfl⟩
 ·exact⟨[],rfl,rfl⟩
 ·refine⟨[]::h.map λh=>h.2.2,?_,by simp⟩;simp
def TQ(f0:ZR)(hs:Xo):∃d,atI (Xp f0 hs) (-1)=some (.tup [plD (Xd f0 hs),plD (Xi hs),d]):=by
 have f:∀l (x:D),l≠[]->l[l.length-1]?=some x->atI l (-1)=some x:=λl x g h=>by
  have n:=Vj.mpr g;unfold atI ixN;rw[W2 (by lia),W3 (by lia)];show l[_]?=_;rw[show((-1:Int)+(l.length:Int)).toNat=l.length-1 by lia];lia
 unfold Xp Xd Xi;rcases Q9 hs with rfl|⟨h,x,rfl⟩
 ·exact⟨.tup [],f _ _ (by simp) rfl⟩
 ·refine⟨dD x.1.q,f _ _ (by simp) ?_⟩;rw[QV,List.getLast?_concat,WM,Wt,W7,QU,VE,Qu,WI,Qh (by simp),Wt,Nat.sub_self];rfl
def AJ(hs:Xo)(h:Dd×ZR×ZR):bkH (hs++[h])=bkH hs++[h.1.q]:=by unfold bkH;rw[WI];rfl
def BA(f0:ZR)(hs:Xo)(h:Dd×ZR×ZR):fsH f0 (hs++[h])=fsH f0 hs++[h.2.1]:=by unfold fsH;rw[WI];rfl
def SN(hs:Xo)(h:Dd×ZR×ZR):wsH (hs++[h])=wsH hs++[h.2.2]:=by unfold wsH;rw[WI];rfl
def Aq(f0:ZR)(hs:Xo)(h:Dd×ZR×ZR):Xp f0 (hs++[h])=Xp f0 hs++[Sm h]:=by unfold Xp;rw[WI];rfl
def Bg(hs:Xo):(bkH hs).length=hs.length:=Wt ..
def OS(f0:ZR)(hs:Xo):(fsH f0 hs).length=hs.length+1:=by unfold fsH;rw[WM,Wt]
def Zfa(hs:Xo):(wsH hs).length=hs.length+1:=by unfold wsH;rw[WM,Wt]
def SA(f0:ZR)(hs:Xo):(Xp f0 hs).length=hs.length+1:=by unfold Xp;rw[WM,Wt]
def Dd.q_len (x:Dd):x.q.2.length<=2:=by cases x<;>simp[Dd.q]
end Pu
namespace Pu
@[irreducible] def mixP (c k:Int):Int:=((c % 2147483647+7919*k+1)*48271 % 2147483647+104729*k+11)*69621 % 2147483647
open L2 M Own PyProof.Rows PySem PySem.Spec
def Dd.fld_ok {d:Dd} (g:Field f) (o:f.length<=40) (e:d.err f w=none):Field (d.fld f)/\(d.fld f).length<=40:=by
 cases d with
 |sell p h=>exact⟨Zaq g e,by rw[show(Dd.sell p h).fld f=Pj f p h from rfl,Zlj];exact o⟩
 |part p v=>
  have e:X0 f p v=none:=e;rcases Zj8 f p v with⟨z,_⟩|⟨z,_⟩|⟨z,_⟩|⟨_,_,n,l,s,r,u⟩
  ·grind
  ·rw[e]at z;cases z
  ·rw[e]at z;cases z
  ·exact⟨R8 g n l s r,by rw[show(Dd.part p v).fld f=KE f p v from rfl,Zik n l];lia⟩
 |unite p=>
  have e:Xm f p=none:=e;rcases RW f p with⟨z,_⟩|⟨z,_⟩|⟨z,_⟩|⟨_,_,n,l⟩
  ·rw[e]at z;cases z
  ·rw[e]at z;cases z
  ·rw[e]at z;cases z
  ·exact⟨Zjo g e,by rw[show(Dd.unite p).fld f=KF f p from rfl];have:=Ov n l;lia⟩
 |_=>exact⟨g,o⟩
def Dd.wsh_ok {f w}{d:Dd} (g:KW w) (e:d.err f w=none):KW (d.wsh w):=by
 cases d with
 |wish a b=>exact Zm1 g e
 |drop a b=>exact Zcf g
 |_=>trivial
def FineH(f0:ZR)(hs:Xo):Prop:=(∀g∈fsH f0 hs,Field g/\g.length<=40)/\∀g∈wsH hs,KW g
def FineH.cur (h:FineH f0 hs):(Field (Xd f0 hs)/\(Xd f0 hs).length<=40)/\KW (Xi hs):=by
 obtain⟨fs,l,_⟩:=N2 f0 hs;obtain⟨f,g,_⟩:=N3 hs;exact⟨h.1 _ (by grind),h.2 _ (by grind)⟩
def FineH.nil (l:Field f0) (h:f0.length<=40):FineH f0 []:=
 ⟨λg f=>by rw[show fsH f0 []=[f0]from rfl,Wx]at f;subst f;exact⟨l,h⟩,λg f=>by rw[show wsH []=[[]]from rfl,Wx]at f;subst f;exact O6⟩
def FineH.snoc (h:FineH f0 hs) (n:Field x.2.1/\x.2.1.length<=40) (l:KW x.2.2):FineH f0 (hs++[x]):=
 ⟨λg f=>by rw[BA]at f;rcases WC.mp f with f|f;{exact h.1 g f};{rw[Wx]at f;subst f;exact n},λg f=>by rw[SN]at f;rcases WC.mp f with f|f;{exact h.2 g f};{rw[Wx]at f;subst f;exact l}⟩
def FineH.init (h:FineH f0 (hs++[x])):FineH f0 hs:=
 ⟨λg f=>h.1 g (by rw[BA];exact Qr _ f),λg f=>h.2 g (by rw[SN];exact Qr _ f)⟩
def FineH.back (h:FineH f0 hs):FineH f0 hs.dropLast:=by
 rcases Q9 hs with rfl|⟨l,x,rfl⟩
 ·grind
 ·rw[QV]at h ⊢;rw[QK];exact h.init
noncomputable def Kh(f0:ZR)(hs:Xo)(d:Dd):Xo:=if d.err (Xd f0 hs) (Xi hs)=none then hs++[(d,d.fld (Xd f0 hs),d.wsh (Xi hs))]else hs
def B9(f0:ZR)(hs:Xo)(d:Dd):(Kh f0 hs d).length<=hs.length+1:=by
 unfold Kh;split
 ·simp
 ·simp
def FineH.add (h:FineH f0 hs) (d:Dd):FineH f0 (Kh f0 hs d):=by
 unfold Kh;split
 ·rename_i e;obtain⟨⟨l,g⟩,f⟩:=h.cur;exact h.snoc (Dd.fld_ok l g e) (Dd.wsh_ok f e)
 ·lia
def FineH.len (h:FineH f0 hs):(∀g∈fsH f0 hs,g.length<=1000)/\∀g∈wsH hs,g.length<=1000:=⟨λg f=>by have:=(h.1 g f).2;lia,λg f=>by have:=(h.2 g f).1;lia⟩
def Dd.code_pos {x:Dd} (h:¬x.err f w=none):0<codeN (x.err f w):=by
 rcases x.err_cases f w with e|e|e|e|e|e|e|e|e|e|e|e<;>rw[e]at h ⊢
 ·grind
 ·trivial
 ·rw[BQ];decide
 ·rw[DL];decide
 ·rw[Fz];decide
 ·rw[GA];decide
 ·rw[Ih];decide
 ·rw[Mt];decide
 ·rw[Gb];decide
 ·rw[LS];decide
 ·rw[DY];decide
 ·rw[LY];decide
def Dd.not_back (d:Dd):¬d.q.1=("back" : Str):=by
 cases d with
 |sell p h=>exact(by decide +kernel:¬("sell" : Str) = "back")
 |part p h=>exact(by decide +kernel:¬("part" : Str) = "back")
 |unite p=>exact(by decide +kernel:¬("unite" : Str) = "back")
 |wish p h=>exact(by decide +kernel:¬("wish" : Str) = "back")
 |drop p h=>exact(by decide +kernel:¬("drop" : Str) = "back")
def Zbq(o:P7 m){v}(h:1<=v/\v<=10):P7 (m.set 0 v):=by
 obtain⟨a,b,c,d,e,rfl,p,n,l,g,f⟩:=o;exact⟨v,b,c,d,e,rfl,h,n,l,g,f⟩
end Pu
namespace Own
open L2
section
variable {prog:Program}{w:World}{A:Around}{E:ZV}{s:Shared}{l:Addr}{xs:Array (Int×Tok)}
def Ru(y:A.handled=none)(r:s.heap.IsTuple l (intItems xs))(n:0<xs.size)(h:∀v f g,(intItems xs)[argBest (λi j=>decide (numAt xs i<numAt xs j)) (xs.size-1)]?=some v->(∀b o,s.heap.get? b=some o->f.get? b=some o)->Q v {s with heap:=f,toks:=g}) :
  wpAny (model prog w) A (call (.builtin "min") [.ref l]) Q E s:=by
 have p:l<s.heap.objs.size:=by obtain⟨_,e,_⟩:=r;exact WE e
 refine call_min_walk (wpAny_pyIter_tuple r ?_);refine⟨_,[_,l],[_],_,_,_,_,rfl,Walks.tuple (A:=A.in1) y _ l (WV p) (intItems xs),⟨⟨_,WD _ rfl,rfl,rfl⟩,r.push _⟩,λc u=>?_,by simpa [intItems]using n,CmpOf.ints_lt (numAt xs) (λ_ _=>intItems_at),λv f g z x=>?_⟩
 ·show c<(s.heap.push _).objs.size;rw[Vc];rcases W8.mp u with rfl|u
  ·exact Ve _
  ·grind
 ·refine h v f g (by simpa [intItems]using z) λb o e=>x b o (λhm=>?_) (Wz _ e);rcases W8.mp hm with B|hm
  ·exact absurd (B▸WE e) (QA _)
  ·cases hm
def Za1(y:A.handled=none)(r:s.heap.IsTuple l (intItems xs))(n:0<xs.size)(h:∀v f g,(intItems xs)[argBest (λi j=>decide (numAt xs i>numAt xs j)) (xs.size-1)]?=some v->(∀b o,s.heap.get? b=some o->f.get? b=some o)->Q v {s with heap:=f,toks:=g}) :
  wpAny (model prog w) A (call (.builtin "max") [.ref l]) Q E s:=by
 have p:l<s.heap.objs.size:=by obtain⟨_,e,_⟩:=r;exact WE e
 refine call_max_walk (wpAny_pyIter_tuple r ?_);refine⟨_,[_,l],[_],_,_,_,_,rfl,Walks.tuple (A:=A.in1) y _ l (WV p) (intItems xs),⟨⟨_,WD _ rfl,rfl,rfl⟩,r.push _⟩,λc u=>?_,by simpa [intItems]using n,CmpOf.ints_gt (numAt xs) (λ_ _=>intItems_at),λv f g z x=>?_⟩
 ·show c<(s.heap.push _).objs.size;rw[Vc];rcases W8.mp u with rfl|u
  ·exact Ve _
  ·grind
 ·refine h v f g (by simpa [intItems]using z) λb o e=>x b o (λhm=>?_) (Wz _ e);rcases W8.mp hm with B|hm
  ·exact absurd (B▸WE e) (QA _)
  ·cases hm
end
section
variable {X:Cx}{K:ZQ}
def Zhd(E:X.calm=true)(L:autoParam (X.K=K) au_0):X5 X (.builtin "min") (λxs H Q=>∃p a b,xs=[.ref p]/\SqT K H p [.int a,.int b]/\Q (.int (if b<a then b else a)) H):=by
 subst L;intro pins s M H xs N Q I w h;obtain⟨p,a,b,rfl,G,q⟩:=h;obtain⟨u,rfl,x⟩:=w.one;obtain rfl:=x;obtain⟨B,r,A,_⟩:=I.tuple G;cases r with
 |cons z r=>
  cases r with
  |cons y r=>
   cases r
   obtain⟨g,rfl⟩:=z;obtain⟨f,rfl⟩:=y;have C:s.heap.IsTuple p (intItems #[(a,g),(b,f)]):=by have this:s.heap.IsTuple p _:=A;simpa [intItems]using this
   refine Ru (I.ok.hd E) C (by simp) λv U T J o=>?_;have n:(intItems #[(a,g),(b,f)])[argBest (λi j=>decide (numAt #[(a,g),(b,f)] i<numAt #[(a,g),(b,f)] j)) 1]?=some v:=J;by_cases l:b<a
   ·have e:argBest (λi j=>decide (numAt #[(a,g),(b,f)] i<numAt #[(a,g),(b,f)] j)) 1=1:=by simp[argBest,numAt,l]
    rw[e]at n;obtain rfl:Value.int b f=v:=by simpa [intItems]using n
    rw[W3 l]at q;exact⟨.int b,H,I.kept o,⟨_,rfl⟩,q⟩
   ·have e:argBest (λi j=>decide (numAt #[(a,g),(b,f)] i<numAt #[(a,g),(b,f)] j)) 1=0:=by simp[argBest,numAt,l]
    rw[e]at n;obtain rfl:Value.int a g=v:=by simpa [intItems]using n
    rw[W2 l]at q;exact⟨.int a,H,I.kept o,⟨_,rfl⟩,q⟩
def Zl5(E:X.calm=true)(L:autoParam (X.K=K) au_0):X5 X (.builtin "max") (λxs H Q=>∃p a b,xs=[.ref p]/\SqT K H p [.int a,.int b]/\Q (.int (if b>a then b else a)) H):=by
 subst L;intro pins s M H xs N Q I w h;obtain⟨p,a,b,rfl,G,q⟩:=h;obtain⟨u,rfl,x⟩:=w.one;obtain rfl:=x;obtain⟨B,r,A,_⟩:=I.tuple G;cases r with
 |cons z r=>
  cases r with
  |cons y r=>
   cases r
   obtain⟨g,rfl⟩:=z;obtain⟨f,rfl⟩:=y;have C:s.heap.IsTuple p (intItems #[(a,g),(b,f)]):=by have this:s.heap.IsTuple p _:=A;simpa [intItems]using this
   refine Za1 (I.ok.hd E) C (by simp) λv U T J o=>?_;have n:(intItems #[(a,g),(b,f)])[argBest (λi j=>decide (numAt #[(a,g),(b,f)] i>numAt #[(a,g),(b,f)] j)) 1]?=some v:=J;by_cases l:b>a
   ·have e:argBest (λi j=>decide (numAt #[(a,g),(b,f)] i>numAt #[(a,g),(b,f)] j)) 1=1:=by simp[argBest,numAt,l]
    rw[e]at n;obtain rfl:Value.int b f=v:=by simpa [intItems]using n
    rw[W3 l]at q;exact⟨.int b,H,I.kept o,⟨_,rfl⟩,q⟩
   ·have e:argBest (λi j=>decide (numAt #[(a,g),(b,f)] i>numAt #[(a,g),(b,f)] j)) 1=0:=by simp[argBest,numAt,l]
    rw[e]at n;obtain rfl:Value.int a g=v:=by simpa [intItems]using n
    rw[W2 l]at q;exact⟨.int a,H,I.kept o,⟨_,rfl⟩,q⟩
end
end Own
namespace Pu
open L2 Own
section
variable {K:ZQ}{mg:ZU}{E:L2.St->XK}
def I0:List S->(S->Prop)->Prop
 |[s],R=>(match s.d with | .tup [.int a,.int b]=>R (.sh<|.int (if b<a then b else a))|_=>False)
 |_,_=>False
def IL:List S->(S->Prop)->Prop
 |[s],R=>(match s.d with | .tup [.int a,.int b]=>R (.sh<|.int (if b>a then b else a))|_=>False)
 |_,_=>False
def Zd6(B:US K mg E n r):U5 K mg E (tCB (λxs H Q=>∃p a b,xs=[.ref p]/\SqT K H p [.int a,.int b]/\Q (.int (if b<a then b else a)) H) n) (pCB I0 r):=by
 refine KM B λT H C Z L G R Q u M N l h q=>?_;unfold I0 at h;split at h
 ·rename_i s;obtain⟨v,rfl,o⟩:=l.one_inv;have f:=o.rp u;split at h
  ·rename_i a b e;rw[e]at f;obtain⟨p,J,rfl,g,w⟩:=Rp.tup_inv f;obtain⟨x,y,rfl,A,z⟩:=w.two_inv;rw[A.int_inv,z.int_inv]at g;exact⟨p,a,b,rfl,SqT.of g,q _ _ C h (Same.refl _) (.int _)⟩
  ·exact h.elim
 ·exact h.elim
def Zkr(B:US K mg E n r):U5 K mg E (tCB (λxs H Q=>∃p a b,xs=[.ref p]/\SqT K H p [.int a,.int b]/\Q (.int (if b>a then b else a)) H) n) (pCB IL r):=by
 refine KM B λT H C Z L G R Q u M N l h q=>?_;unfold IL at h;split at h
 ·rename_i s;obtain⟨v,rfl,o⟩:=l.one_inv;have f:=o.rp u;split at h
  ·rename_i a b e;rw[e]at f;obtain⟨p,J,rfl,g,w⟩:=Rp.tup_inv f;obtain⟨x,y,rfl,A,z⟩:=w.two_inv;rw[A.int_inv,z.int_inv]at g;exact⟨p,a,b,rfl,SqT.of g,q _ _ C h (Same.refl _) (.int _)⟩
  ·grind
 ·grind
end
section
variable {X:Cx}{k j:Nat}{x:Str}{ps:ZZ}{sp:Sp}{e a b c:Expr}{es:Ya}{t:TA}{te tf tg:TE}{p pos:Pos}
def fz(C:Callee X.prog X.w X.K X.mg X.base CX0 k x ps sp)(h:UH j X.A)(r:PA X (e::es) t)(l:autoParam (k<=j) au_1)(n:autoParam (Gl X x) au_0)(g:autoParam ((x==("__debug__" : Str))=false) au_1)(o:autoParam (starEach (e::es) X.env=(false,eval e X.env)::starEach es X.env) au_0)(f:autoParam ((backTo pos<|starEach es X.env).any (·.1)=false) au_0) :
  PE X (.Call (.Name x p) (e::es) [] pos) (P3 sp [] E0 t):=Dc C (h.mono l) Xf r n g o f
def jx(K:ZQ)(g:PE X a te)(f:PE X b tf)(h:autoParam (X.K=K) au_0)(hs:autoParam (AK b) au_7):PE X (.Subscript a b pos) (tOp (λx y H Q=>T3 K x y H Q\/Tg K x y H Q) te tf):=IQ (DB h) g f hs
def ln(K:ZQ)(g:X.mg "len"=none)(l:PE X a te)(o:autoParam (X.K=K) au_0)(h:autoParam (Gl X "len") au_0)(hs:autoParam (starEach [a] X.env=(false,eval a X.env)::starEach [] X.env) au_0)(f:autoParam ((backTo pos<|starEach [] X.env).any (·.1)=false) au_0) :
  PE X (.Call (.Name "len" p) [a] [] pos) (tCB (λxs H Q=>∃x n,xs=[x]/\BR K x H n/\Q (.int (n:Nat)) H)<|Xk te XT):=Xw (Zmt o) h g PySem.boot_len (Xr l Xv hs) (by decide) rfl hs f
def cq(K:ZQ)(f:UH j X.A)(h:PE X a te)(g:PE X b tf)(l:autoParam (X.K=K) au_0):PT X (.Compare a [.Eq] [b] pos) (Bu<|tOp (λx y H Q=>rEq x y H Q\/PR K false x y H Q) te tf):=Kq (N4 f.units0 l) h g (Kl _)
def cn(K:ZQ)(f:UH j X.A)(h:PE X a te)(g:PE X b tf)(l:autoParam (X.K=K) au_0):PT X (.Compare a [.NotEq] [b] pos) (Bu<|tOp (λx y H Q=>rNe x y H Q\/PR K true x y H Q) te tf):=Kq (Zmz f.units0 l) h g (Kl _)
def az(f:PE X a te)(g:autoParam (starEach [a] X.env=(false,eval a X.env)::starEach [] X.env) au_0):PA X [a] (Xk te XT):=Xr f Xv g
def bz(g:PE X a te)(f:PE X b tf)(l:autoParam (starEach [a,b] X.env=(false,eval a X.env)::starEach [b] X.env) au_0)(h:autoParam (starEach [b] X.env=(false,eval b X.env)::starEach [] X.env) au_0):PA X [a,b] (Xk te<|Xk tf XT):=Xr g (Xr f Xv h) l
def dz(h:PE X a te)(g:PE X b tf)(f:PE X c tg)(o:autoParam (starEach [a,b,c] X.env=(false,eval a X.env)::starEach [b,c] X.env) au_0)(n:autoParam (starEach [b,c] X.env=(false,eval b X.env)::starEach [c] X.env) au_0)(l:autoParam (starEach [c] X.env=(false,eval c X.env)::starEach [] X.env) au_0):PA X [a,b,c] (Xk te<|Xk tf<|Xk tg XT):=Xr h (Xr g (Xr f Xv l) n) o
end
section
variable {K:ZQ}{mg:ZU}{E:L2.St->XK}{ta tb tc:TE}{a b c:PTE}
def sz(f:U5 K mg E ta a):US K mg E (Xk ta XT) (Kt a Pm):=XS f UN
def tz(g:U5 K mg E ta a)(f:U5 K mg E tb b):US K mg E (Xk ta<|Xk tb XT) (Kt a<|Kt b Pm):=XS g (sz f)
def uz(h:U5 K mg E ta a)(g:U5 K mg E tb b)(f:U5 K mg E tc c):US K mg E (Xk ta<|Xk tb<|Xk tc XT) (Kt a<|Kt b<|Kt c Pm):=XS h (tz g f)
end
section
variable {K:ZQ}{h:Heap}{mg:ZU}{C C':Addr}{x m q:Str}{st:Stmt}{ps:ZZ}
abbrev Bd(x q:Str)(st:Stmt)(ps:ZZ):Prop:=∀(kV g n:Value) (p:Yd) (l o:Value) (f:ZY),f.length=ps.length->bindArgs (PySem.W.fnOf x q (K4 st) (Xb st) (U6 st) .none kV g n p l o) ⟨f,[]⟩=pure (ps.zip f)
def DI.e (D:DI K x st) (X:K.In h) (g:h.Ns mainGlobals mg) (b:Bd x x st ps:=by
  intro _ _ _ _ _ _ us f
  first
   |(obtain⟨_,rfl⟩:=Pu.Sn f;rfl)
   |(obtain⟨_,_,rfl⟩:=Pu.SH f;rfl)
   |(obtain⟨_,_,_,rfl⟩:=Pu.BE f;rfl)
   |(obtain⟨_,_,_,_,rfl⟩:=Pu.Dn f;rfl)
   |(obtain⟨_,_,_,_,_,rfl⟩:=Pu.OZ f;rfl)):Def K mg x st ps:=D.d X g b
def MI.e (D:MI K C m q st) (e:C'=C) (b:Bd m q st ps:=by
  intro _ _ _ _ _ _ us f
  first
   |(obtain⟨_,rfl⟩:=Pu.Sn f;rfl)
   |(obtain⟨_,_,rfl⟩:=Pu.SH f;rfl)
   |(obtain⟨_,_,_,rfl⟩:=Pu.BE f;rfl)
   |(obtain⟨_,_,_,_,rfl⟩:=Pu.Dn f;rfl)):UY K (UU K C' m) m q st ps:=D.d e b
def MI.j (D:MI K C "__init__" q st) (e:C'=C) (mk:PySem.W.makesIn K C=true) (g:PySem.W.keepIn K (.ref C)=true) (b:Bd "__init__" q st ps:=by
  intro _ _ _ _ _ _ us f
  first
   |(obtain⟨_,rfl⟩:=Pu.Sn f;rfl)
   |(obtain⟨_,_,rfl⟩:=Pu.SH f;rfl)
   |(obtain⟨_,_,_,rfl⟩:=Pu.BE f;rfl)):UY K (Mk K C') "__init__" q st ps:=D.i e mk g b
end
section
variable {P:Program}{w:World}{K:ZQ}{mg:ZU}{base:Heap}{N ps:ZZ}{sp:Sp}{p:PTS}{x q:Str}{st:Stmt}{k:Nat}{W:Addr->Prop}
structure Uz (K:ZQ) (mg:ZU) (N ps:ZZ) (sp:Sp) (p:PTS):Prop where
 len:∀vs H Q E,sp vs H Q E->vs.length=ps.length
 run:∀vs H Q E t,sp vs H Q E->UJ K mg (λ_=>E) t p->t {nx:=λ_ H'=>Q .non H',rt:=Q} (start N vs) H
def Uz.a (f:∀ds R X,c ds R X->ds.length=ps.length/\p {nx:=λ_=>R (.sh .non),rt:=R,ex:=λ_ e=>X e} (KG N ds)) (g:autoParam (ps.length<=N.length) au_1):Uz K mg N ps (UA mg c K) p:=
 ⟨λ_ _ _ _ h=>Zkw h λds R X z=>(f ds R X z).1,λ_ _ _ _ _ h s=>Zee h s g f⟩
def Uz.b (g:∀f R X,c f R X->f.length=ps.length/\p {nx:=λ_=>R (.sh .non),rt:=R,ex:=λ_ e=>X e} (Ta N f)) (l:autoParam (ps.length<=N.length) au_1):Uz K mg N ps (spS mg c K) p:=
 ⟨λ_ _ _ _ h=>OH h λn R X z=>(g n R X z).1,λ_ _ _ _ _ h s=>Zmr h s l g⟩
def Uz.c {c y} (g:∀o f R X,c o f R X->f.length=ps.length/\p (DG o R X) (PN N o f)) (l:autoParam (ps.length+1<=N.length) au_1):Uz K mg N (y::ps) (spW mg c K) p:=
 ⟨λ_ _ _ _ h=>Zhc h λo n R X z=>(g o n R X z).1,λ_ _ _ _ _ h s=>Zfw h s l g⟩
def Uz.d {c y z} (l:∀o1 f g R X,c o1 f g R X->g.length=ps.length/\p (IM o1 f R X) (KR N o1 f g)) (n:autoParam (ps.length+2<=N.length) au_1):Uz K mg N (y::z::ps) (Td mg c K) p:=
 ⟨λ_ _ _ _ h=>Zlz h λo1 f o R X z=>(l o1 f o R X z).1,λ_ _ _ _ _ h s=>Om h s n l⟩
def _root_.Own.Def.oz (D:Def K mg x st ps) (S:U7 N ps (U6 st))
  (l:∀f g A outer s H E,UH k (A.deeper<|envOfC x (U6 st) s.heap.objs.size f g)->
   ∃t,PSs (Xj CX0 P w K mg base N x (U6 st) f g A outer s H E).nox (Xb st) t/\UJ K mg (λ_=>E) t p) (u:Uz K mg N ps sp p):Callee P w K mg base CX0 (k+1) x ps sp:=
 D.ok S u.len λf g A outer s H o Q E n h=>(l f g A outer s H E n).elim λt z=>⟨t,z.1,u.run _ _ _ _ _ h z.2⟩
def _root_.Own.Def.ox (D:Def K mg x st ps) (S:U7 N ps (U6 st))
  (l:∀f g A outer s H E,UH k (A.deeper<|envOfC x (U6 st) s.heap.objs.size f g)->
   ∃t,PSs (Xj (ExcR.CXe P w) P w K mg base N x (U6 st) f g A outer s H E) (Xb st) t/\UJ K mg (λ_=>E) t p) (u:Uz K mg N ps sp p):Callee P w K mg base (ExcR.CXe P w) (k+1) x ps sp:=
 ExcR.Def.okX D S u.len λf g A outer s H o Q E n h=>(l f g A outer s H E n).elim λt z=>⟨t,z.1,u.run _ _ _ _ _ h z.2⟩
def UY.oz (D:UY K W x q st ps) (S:U7 N ps (U6 st))
  (l:∀f g A outer s H E,UH k (A.deeper<|envOfC q (U6 st) s.heap.objs.size f g)->
   ∃t,PSs (Xj CX0 P w K mg base N q (U6 st) f g A outer s H E).nox (Xb st) t/\UJ K mg (λ_=>E) t p) (u:Uz K mg N ps sp p):KJ P w K mg base CX0 (k+1) W ps sp:=
 D.ok S u.len λf g A outer s H o Q E n h=>(l f g A outer s H E n).elim λt z=>⟨t,z.1,u.run _ _ _ _ _ h z.2⟩
def UY.ox (D:UY K W x q st ps) (S:U7 N ps (U6 st))
  (l:∀f g A outer s H E,UH k (A.deeper<|envOfC q (U6 st) s.heap.objs.size f g)->
   ∃t,PSs (Xj (ExcR.CXe P w) P w K mg base N q (U6 st) f g A outer s H E) (Xb st) t/\UJ K mg (λ_=>E) t p) (u:Uz K mg N ps sp p):KJ P w K mg base (ExcR.CXe P w) (k+1) W ps sp:=
 D.okX S u.len λf g A outer s H o Q E n h=>(l f g A outer s H E n).elim λt z=>⟨t,z.1,u.run _ _ _ _ _ h z.2⟩
end
section
variable {K:ZQ}{h:Heap}{mg:ZU}{x:Str}{C:Addr}
structure EI (K:ZQ) (x:Str) (C:Addr):Prop where
 a:PySem.W.nsIn K mainGlobals x=some (some<|.ref C)
 g:ExcR.XY K C
def ei(a:PySem.W.nsIn K mainGlobals x=some (some<|.ref C))(q:PySem.W.excIn K C [.type "ValueError",.type "Exception",.type "BaseException",.type "object"] "ValueError.__new__"=true)(g:PySem.W.findIn K (.ref C) "__getattribute__"=some (some<|.builtin "BaseException.__getattribute__"))(f:PySem.W.findIn K (.ref C) "__getattr__"=some none)(l:PySem.W.findIn K (.ref C) "__class__"=some (some<|.builtin "object.__class__"))(i:PySem.W.clsIn K C=some d):EI K x C:=⟨a,⟨⟨q⟩,g,f,l,by rw[i];rfl⟩⟩
def EI.c (y:EI K x C) (X:K.In h) (f:h.Ns mainGlobals mg):ExcR.UC mg x=C:=ExcR.GJ (Qy X f y.a)
def EI.m (y:EI K x C) (X:K.In h) (f:h.Ns mainGlobals mg):mg x=some (.ref<|ExcR.UC mg x):=by rw[y.c X f];exact Qy X f y.a
def EI.k (y:EI K x C) (X:K.In h) (f:h.Ns mainGlobals mg):ExcR.XY K (ExcR.UC mg x):=by rw[y.c X f];exact y.g
end
section
variable {K:ZQ}{mg:ZU}{E:L2.St->XK}{H0 H H1 H':Hp}{B Z Z':Addr->Prop}{σ:L2.St}{γ:Γ}
def Zf7{f:List (Addr×List D)}{k j c}(h:ixN f.length k=some j)(g:f[j]?=some c):atI (f.map λc=>V.ref c.1) k=some (.ref c.1):=by
 unfold atI
 grind
end
theorem NoFld.of:∀{xs:ZZ},(xs.all λx=>!(m==x))=true->NoFld m xs
 |[],_,_|_::_,_,[]=>rfl
 |x::xs,h,v::f=>by
  rw[VT,Ql]at h;show(match m==x with|true=>some v|false=>(xs.zip f).lookup m)=none
  rw[show(m==x)=false by simpa using h.1];exact NoFld.of h.2 f
theorem FldAt.of (n:(f==f)=true):∀{xs}{j:Nat},((xs.take j).all λx=>!(f==x))=true->xs[j]?=some f->FldAt f xs j
 |[],_,_,e,_,_=>by simp at e
 |_::_,_,_,_,[],e=>rfl
 |x::xs,0,_,e,v::g,_=>by
  simp_all
 |x::xs,j+1,h,e,v::g,l=>by
  rw[List.take_succ_cons,VT,Ql]at h;show(match f==x with|true=>some v|false=>(xs.zip g).lookup f)=(v::g)[j+1]?
  rw[show(f==x)=false by simpa using h.1];exact FldAt.of n h.2 (by grind) g (by grind)
theorem PutAt.of:∀{xs:ZZ},(xs.all λx=>decide (x≠f))=true->PutAt f xs
 |[],_,[],_,_=>rfl
 |[],_,_::_,_,e|_::_,_,[],_,e=>by cases e
 |x::xs,h,v::g,y,e=>by
  rw[VT,Ql]at h;show(if x=f then(x,y)::xs.zip g else(x,v)::XI f y (xs.zip g))=(x,v)::(xs++[f]).zip (g++[y]);rw[W2 (Wy h.1),PutAt.of h.2 g y (by grind)]
end Pu
namespace M
open L2 Own Pu
theorem Mg{ws}(s:∀q∈ws,q.1≠q.2)(v:¬ ∃r,Ring hs ws r):∀n f,f.length=n->(∀x∈f,x∈hs)->∃o,o.Perm f/\Keeps ws o
 | 0,f,h,_=>⟨[],by rw[Q1.mp h],.nil⟩
 |n+1,f,h,g=>by
  have p:f≠[]:=λz=>by rw[z]at h;simp at h
  have hx:∃x∈f,∀y∈f,(y,x)∉ws:=WQ λz=>by
   obtain⟨r,R⟩:=GD s p λx hx=>WQ λk=>z ⟨x,hx,λy l w=>k ⟨y,l,w⟩⟩;exact v ⟨r,{R with sub:=λx hx=>g x (R.sub x hx)}⟩
  obtain⟨x,hx,l⟩:=hx;obtain⟨o,u,B⟩:=Mg s v n (f.erase x) (by grind) λz A=>g z (List.mem_of_mem_erase A);exact⟨x::o,(u.cons x).trans (List.perm_cons_erase hx).symm,QE.mpr ⟨λb C=>l b (List.mem_of_mem_erase<|u.mem_iff.mp C),B⟩⟩
end M
namespace ExcR
open L2
open Sem (wp)
open Builtin Builtin.ObjectAttr
noncomputable def NM:ZY:=[.type "ValueError",.type "Exception",.type "BaseException",.type "object"]
noncomputable def AL:ZY->Bool
 | .ref _::r=>AL r
 |l=>l==NM
structure Ze3 (K:ZQ) (C:Addr):Prop where
 po:(PySem.W.clsIn K C).any (λcd=>AL cd.mro&&cd.hasDict)=true
 sa:PySem.W.findIn K (.ref C) "__setattr__"=some (some<|.builtin "object.__setattr__")
end ExcR
namespace ExcR
open L2
section
variable {X:Cx}{pins:ZT}{σ:L2.St}{H:Hp}{s:Shared}{a b:Addr}
noncomputable def er(H:Hp)(a:Addr):Hp:=λb=>if b=a then none else H b
end
def Zfk(K:ZQ)(C f:Addr):Prop:=∃(s:Yd) (g:ClassData) (sl:Array (Yc)) (h:ZY) (r p o n l:Yc),K.lookup C=some ⟨.type "type",s,.cls g,sl⟩/\g.mro=.ref C::h/\
 sl.toList=[r,p,o,n,some (.builtin "ValueError.__new__"),l]/\g.hasDel=false/\PySem.W.tailIn K NM h=true/\PySem.W.nsOkIn K g.ns=true/\PySem.W.nsIn K g.ns "__init__"=some (some<|.ref f)
structure Zbr (K:ZQ) (C f:Addr):Prop where
 q:Zfk K C f
 fn:PySem.W.typeIn K (.ref f)=some (.type "function")
 st:Ze3 K C
 ga:PySem.W.findIn K (.ref C) "__getattribute__"=some (some<|.builtin "BaseException.__getattribute__")
 gt:PySem.W.findIn K (.ref C) "__getattr__"=some none
 nm:NoAttr K C "members"
 cl:PySem.W.findIn K (.ref C) "__class__"=some (some<|.builtin "object.__class__")
end ExcR
namespace Pu
open L2 Own
structure RI (K:ZQ) (x:Str) (C:Addr) (q:Str) (st:Stmt):Prop where
 a:PySem.W.nsIn K mainGlobals x=some (some<|.ref C)
 ex:∃f fd,ExcR.Zbr K C f/\Fun K "__init__" q st f fd
section
variable {K:ZQ}{h:Heap}{mg:ZU}{x q:Str}{st:Stmt}{C M N f:Addr}
def Zjc{cd:ClassData}(m:PySem.W.excIn K M ExcR.NM "ValueError.__new__"=true):PySem.W.tailIn K ExcR.NM (.ref M::ExcR.NM)=true:=by
 unfold PySem.W.excIn at m;split at m
 next A cd sl g=>
  split at m
  next E B v u s r n p y w=>
   simp only[Ql,beq_iff_eq,Bool.not_eq_true']at m;obtain⟨⟨⟨_,z⟩,o⟩,l⟩:=m;unfold PySem.W.tailIn;rw[Bool.or_eq_true];right
   try dsimp only
   rw[g]
   try dsimp only
   rw[o,l];rfl
  grind
 next=>cases m
def ri{cd sl y k0 k1 k2 k3 k5 T es n oc B U o kV s z g ct}(a:PySem.W.nsIn K mainGlobals x=some (some<|.ref C))(l:K.lookup C=some ⟨.type "type",dd,.cls cd,sl⟩)(u:cd.mro=.ref C :: .ref M::[.type "ValueError",.type "Exception",.type "BaseException",.type "object"])(dl:cd.hasDel=false)(r:cd.hasDict=true)(p:sl.toList=[k0,k1,k2,k3,some (.builtin "ValueError.__new__"),k5])(v:cd.ns=N)(G:K.lookup N=some ⟨T,Y,.dict es n,y⟩)(A:(es.toList.all λe=>match e.key with | .str _ _=>true|_=>false)=true)(i:PySem.W.nsIn K N "__init__"=some (some<|.ref f))(m:PySem.W.excIn K M [.type "ValueError",.type "Exception",.type "BaseException",.type "object"] "ValueError.__new__"=true)(fn:PySem.W.isFn K (.ref f)=true)(w:PySem.W.findIn K (.ref C) "__setattr__"=some (some<|.builtin "object.__setattr__"))(L:PySem.W.findIn K (.ref C) "__getattribute__"=some (some<|.builtin "BaseException.__getattribute__"))(J:PySem.W.findIn K (.ref C) "__getattr__"=some none)(H:PySem.W.findIn K (.ref C) "__class__"=some (some<|.builtin "object.__class__"))(nm:PySem.W.findIn K (.ref C) "members"=some none)(E:K.lookup f=some ⟨oc,B,.func (PySem.W.fnOf "__init__" q (K4 st) (Xb st) (U6 st) .none kV s z U g ct),o⟩)(c:PySem.W.codeIn K g q=true)(k:PySem.W.keepIn K (.ref f)=true):RI K x C q st:=by
 have Q:PySem.W.clsIn K C=some cd:=by unfold PySem.W.clsIn;rw[l]
 refine⟨a,f,_,⟨?_,beq_iff_eq.mp fn,⟨?_,w⟩,L,J,nm,H⟩,SD E c k⟩
 ·refine⟨dd,cd,sl,_,k0,k1,k2,k3,k5,l,u,p,dl,Zjc (cd:=cd) m,?_,by rw[v];exact i⟩;rw[v];unfold PySem.W.nsOkIn;rw[G];show(es.all _)=true;rw[←Array.all_toList];omega
 ·rw[Q];show(ExcR.AL cd.mro&&cd.hasDict)=true;rw[u,r];rfl
end
end Pu
namespace M
open L2 Own Pu
def FR.one (h:FR hs x r) (o:FR hs x A):r=A:=by
 rcases h with⟨rfl,h⟩|⟨l,t,rfl,v,w,B⟩
 ·rcases o with⟨rfl,_⟩|⟨s,p,rfl,g,n,_⟩
  ·rfl
  ·exact absurd n (h s g p)
 ·rcases o with⟨rfl,o⟩|⟨s,p,rfl,g,n,u⟩
  ·exact absurd w (o l v t)
  ·rcases B s g p n with z|⟨z,y⟩
   ·grind
   ·rcases u l v t w with C|⟨_,f⟩
    ·lia
    ·rcases y with y|⟨rfl,y⟩
     ·rcases f with f|⟨rfl,_⟩<;>lia
     ·rcases f with f|⟨_,f⟩
      ·lia
      ·rcases y with rfl|y
       ·rfl
       ·rcases f with rfl|f
        ·rfl
        ·exact absurd f (Fj y)
noncomputable def pcc(ps:ZR):Int->Int->Int:=λx y=>pcM ps x y ps.length
theorem IS{P:Int->Prop}:∀{hs:ZS},(∃l∈hs,P l)->∃l∈hs,P l/\∀m∈hs,P m->l<=m
 |[],h=>by obtain⟨_,h,_⟩:=h;cases h
 |a::hs,h=>by
  by_cases c:∃l∈hs,P l
  ·obtain⟨l,n,g,f⟩:=IS c;by_cases d:P a/\a<=l
   ·grind
   ·grind
  ·grind
theorem G1{hs:ZS}:∀n {P:ZS->Prop},(∃t,P t/\t.length=n/\∀x∈t,x∈hs)->∃t,P t/\t.length=n/\∀u,P u->u.length=n->(∀x∈u,x∈hs)->t=u\/sl t u
 | 0,P,⟨t,w,o,_⟩=>⟨t,w,o,λu _ p _=>.inl (by grind)⟩
 |n+1,P,h=>by
  have C:∃l∈hs,∃t,P (l::t)/\t.length=n/\∀x∈t,x∈hs:=by
   obtain⟨t,w,o,v⟩:=h;cases t with
   |nil=>cases o
   |cons l t=>grind
  obtain⟨l,_,o,v⟩:=IS C;obtain⟨t,B,A,y⟩:=G1 n o;refine⟨l::t,B,by rw[WM,A],λu p s r=>?_⟩;cases u with
  |nil=>cases s
  |cons m u=>
   have g:=Nat.succ.inj s;have f:=λx hx=>r x (WK _ hx);by_cases e:l=m
   ·subst e;rcases y u p g f with rfl|z
    ·exact .inl rfl
    ·exact .inr (.inr ⟨rfl,z⟩)
   ·have:=v m (r m WW) ⟨u,p,g,f⟩
    exact .inr (.inl<|by lia)
def FR.ex (hs:ZS) (f:ZR):∃r,FR hs f r:=by
 by_cases c:∃l∈hs,∃t,X1 hs f l t
 ·have C:∀n,∀l∈hs,∀t,X1 hs f l t->t.length<=n->∃r,FR hs f r:=λn=>by
   induction n using Nat.strongRecOn with
   |ind n J=>
    intro l p t E B;by_cases d:∃m∈hs,∃u,X1 hs f m u/\u.length<t.length
    ·obtain⟨m,y,u,w,M⟩:=d;exact J u.length (by lia) m y u w (W5 _)
    ·have s:∀m∈hs,∀u,X1 hs f m u->∀x∈m::u,x∈hs:=λm y u w x hx=>by
      rcases W8.mp hx with rfl|hx
      ·exact y
      ·exact(Sr w.1 x hx).1
     obtain⟨v,⟨m,u,rfl,y,w⟩,H,G⟩:=G1 (t.length+1) (P:=λv=>∃m u,v=m::u/\m∈hs/\X1 hs f m u) ⟨l::t,⟨l,t,rfl,p,E⟩,rfl,s l p t E⟩;have L:=Nat.succ.inj H;refine⟨m::u,.inr ⟨m,u,rfl,y,w,λA h o g=>?_⟩⟩;have N:¬o.length<t.length:=λz=>d ⟨A,h,o,g,z⟩;by_cases e:o.length=t.length
     ·refine .inr ⟨by lia,?_⟩;rcases G (A::o) ⟨A,o,rfl,h,g⟩ (by rw[WM,e]) (s A h o g)with z|z|z
      ·grind
      ·exact .inl z
      ·exact .inr ⟨z.1,.inr z.2⟩
     ·exact .inl (by lia)
  obtain⟨l,p,t,B⟩:=c;exact C t.length l p t B (W5 _)
 ·exact⟨[],.inl ⟨rfl,λl p t B=>c ⟨l,p,t,B⟩⟩⟩
end M
namespace Pu
open L2 Own
def hq{A}(h:UH j A)(f:autoParam (k<=j) au_1):UH k A:=h.mono f
section
variable {X:Cx}{sc:Scope}{elt iter tg:Expr}{ifs:Ya}{pos:Pos}{wi:TI}{g:TG}{tc:TT}{te:TE}{x:Str}
def cz(N':ZZ)(φ:ZW)(p:PI X tg iter wi)(n:∀{o C f h ex},PG (Xx X N' sc o C f h ex) tg g/\Tx (Xx X N' sc o C f h ex) ifs tc/\PE (Xx X N' sc o C f h ex) elt te)(l:autoParam (X.calm=true) au_0)(S:autoParam (Sl sc X.env.scope X.N N' φ=true) au_0)(hs:autoParam (∀x,foldedSetIterable iter X.env x=pure x) au_3):PE X (.ListComp elt [⟨tg,iter,ifs,0⟩] sc pos) (N8 φ wi g tc te):=Dw l (.of S) p (λ_ _ _ _ _=>n) hs
def gk(i:Nat)(l:autoParam (decide X.N.Nodup=true) au_8)(f:autoParam (X.N[i]?=some x) au_0)(hx:autoParam (Loc X.env.scope x) au_6)(h:autoParam (X.fn x=true\/X.env.scope.names.lookup x=some .local) au_2):PG X (.Name x pos) (Nn i):=CY (Wy l) f hx h
end
section
variable {P:Program}{w:World}{K:ZQ}{mg:ZU}{base:Heap}{N ps:ZZ}{sp:Sp}{p:PTS}{x q:Str}{st:Stmt}{k:Nat}{W:Addr->Prop}
def _root_.Own.Def.ez (D:Def K mg x st ps) (S:U7 N ps (U6 st))
  (h:∀{f g A outer s H} {E:XK},UH k (A.deeper<|envOfC x (U6 st) s.heap.objs.size f g)->
   ∃t,PSs (Xj CX0 P w K mg base N x (U6 st) f g A outer s H E).nox (Xb st) t/\UJ K mg (λ_=>E) t p) (u:Uz K mg N ps sp p):Callee P w K mg base CX0 (k+1) x ps sp:=D.oz S (λ_ _ _ _ _ _ _=>h) u
def _root_.Own.Def.ey (D:Def K mg x st ps) (S:U7 N ps (U6 st))
  (h:∀{f g A outer s H} {E:XK},UH k (A.deeper<|envOfC x (U6 st) s.heap.objs.size f g)->
   ∃t,PSs (Xj (ExcR.CXe P w) P w K mg base N x (U6 st) f g A outer s H E) (Xb st) t/\UJ K mg (λ_=>E) t p) (u:Uz K mg N ps sp p):Callee P w K mg base (ExcR.CXe P w) (k+1) x ps sp:=D.ox S (λ_ _ _ _ _ _ _=>h) u
def UY.ez (D:UY K W x q st ps) (S:U7 N ps (U6 st))
  (h:∀{f g A outer s H} {E:XK},UH k (A.deeper<|envOfC q (U6 st) s.heap.objs.size f g)->
   ∃t,PSs (Xj CX0 P w K mg base N q (U6 st) f g A outer s H E).nox (Xb st) t/\UJ K mg (λ_=>E) t p) (u:Uz K mg N ps sp p):KJ P w K mg base CX0 (k+1) W ps sp:=D.oz S (λ_ _ _ _ _ _ _=>h) u
def UY.ey (D:UY K W x q st ps) (S:U7 N ps (U6 st))
  (h:∀{f g A outer s H} {E:XK},UH k (A.deeper<|envOfC q (U6 st) s.heap.objs.size f g)->
   ∃t,PSs (Xj (ExcR.CXe P w) P w K mg base N q (U6 st) f g A outer s H E) (Xb st) t/\UJ K mg (λ_=>E) t p) (u:Uz K mg N ps sp p):KJ P w K mg base (ExcR.CXe P w) (k+1) W ps sp:=D.ox S (λ_ _ _ _ _ _ _=>h) u
end
structure Fit {ι:Type} (F:ι->Cx) (K:ZQ) (mg:ZU):Prop where
 k:∀j,(F j).K=K
 m:∀j,(F j).mg=mg
section
variable {ι:Type} (F:ι->Cx) (K:ZQ) (mg:ZU) (E:L2.St->XK)
structure CE (e:Expr) (p:PTE):Prop where
 h:Fit F K mg->∃t,(∀j,PE (F j) e t)/\U5 K mg E t p
structure CT (e:Expr) (p:PTT):Prop where
 h:Fit F K mg->∃t,(∀j,PT (F j) e t)/\XG K mg E t p
structure CW (e:Expr) (p:PTT):Prop where
 h:Fit F K mg->∃t,(∀j,PW (F j) e t)/\XG K mg E t p
structure CA (es:Ya) (p:PTA):Prop where
 h:Fit F K mg->∃t,(∀j,PA (F j) es t)/\US K mg E t p
structure CS (s:Stmt) (p:PTS):Prop where
 h:Fit F K mg->∃t,(∀j,PS (F j) s t)/\UJ K mg E t p
structure CB (b:Yb) (p:PTS):Prop where
 h:Fit F K mg->∃t,(∀j,PSs (F j) b t)/\UJ K mg E t p
structure CI (tg e:Expr) (p:PTI):Prop where
 h:Fit F K mg->∃t,(∀j,PI (F j) tg e t)/\SndI K mg E t p
structure CJ (tg e:Expr) (p:PTI):Prop where
 h:Fit F K mg->∃t,(∀j,PI (F j) tg e t)/\TK K mg E t p
structure CG (e:Expr) (is:ZX) (p:PTG):Prop where
 h:Fit F K mg->∃t,(∀j,PG (F j) e t)/\P6 K is t p
structure CGs (es:Ya) (is:ZX) (p:Nd):Prop where
 h:Fit F K mg->∃t,(∀j,PGs (F j) es t)/\N5 K is t p
structure CF (es:Ya) (p:PTT):Prop where
 h:Fit F K mg->∃t,(∀j,Tx (F j) es t)/\XG K mg E t p
end
section
variable {ι:Type}{F:ι->Cx}{K:ZQ}{mg:ZU}{E:L2.St->XK}{e f g:Expr}{es:Ya}{a b c:PTE}{r:PTA}{x:Str}{pos p1:Pos}{k n:Nat}{s:Stmt}{d1 d2:Yb}{p q:PTS}{t u:PTT}{is:ZX}{pg:PTG}{it:PTI}
def xv(i:Nat)(v:autoParam (∀j,(F j).N[i]?=some x) au_3)(h:autoParam (∀j,Vis (F j).env.scope x) au_9)(l:autoParam ((x==("__debug__" : Str))=false) au_1)(o:autoParam ((x==("__classdict__" : Str))=false) au_1):CE F K mg E (.Name x pos) (Cf i):=.mk λ_=>⟨_,λj=>pv i (v j) (h j) l o,U4 i⟩
def xi:CE F K mg E (.Constant (.int i) k pos) (pC<|.int i):=.mk λ_=>⟨_,λ_=>UI,UB⟩
def xb:CE F K mg E (.Constant (.bool i) k pos) (pC<|.bl i):=.mk λ_=>⟨_,λ_=>TX,Nm⟩
def xs:CE F K mg E (.Constant (.str i) k pos) (pC<|.str i):=.mk λ_=>⟨_,λ_=>Tu,Tq⟩
def xe(h:∀{j},PE (F j) e te)(k:U5 K mg E te a):CE F K mg E e a:=.mk λ_=>⟨_,λ_=>h,k⟩
def xo{r}(w:∀{X},OpR X (binaryOp l) r)(hs:∀{t u},U5 K mg E t a->U5 K mg E u b->U5 K mg E (tOp r t u) c)(A:CE F K mg E e a)(B:CE F K mg E f b):CE F K mg E (.BinOp e l f pos) c:=
 .mk λh=>let ⟨_,z,v⟩:=A.h h;let ⟨_,y,o⟩:=B.h h;⟨_,λj=>PK w (z j) (y j),hs v o⟩
def xx(A:CE F K mg E e a)(B:CE F K mg E f b)(hs:autoParam (AK f) au_7):CE F K mg E (.Subscript e f pos) (p2 a b fIx):=
 .mk λh=>let ⟨_,w,o⟩:=A.h h;let ⟨_,v,l⟩:=B.h h;⟨_,λj=>jx K (w j) (v j) (h.k j) hs,Xh o l⟩
def xl(v:mg "len"=none)(A:CE F K mg E e a)(w:autoParam (∀j,Gl (F j) "len") au_3)(hs:autoParam (∀j,starEach [e] (F j).env=(false,eval e (F j).env)::starEach [] (F j).env) au_3)(l:autoParam (∀j,(backTo pos (starEach [] (F j).env)).any (·.1)=false) au_3) :
  CE F K mg E (.Call (.Name "len" p1) [e] [] pos) (pCB AM<|Kt a Pm):=
 .mk λh=>let ⟨_,y,o⟩:=A.h h;⟨_,λj=>ln K (by rw[h.m j];exact v) (y j) (h.k j) (w j) (hs j) (l j),B3 (sz o)⟩
def xf{ps v}(C:Callee P w K mg base CX0 k x ps (UA mg v K))(H:∀j,UH m (F j).A)(A:CA F K mg E (e::es) r)(N:autoParam (∀j,(F j).prog=P/\(F j).w=w/\(F j).base=base) au_10)(J:autoParam (k<=m) au_1)(L:autoParam (∀j,Gl (F j) x) au_3)(o:autoParam ((x==("__debug__" : Str))=false) au_1)(M:autoParam (∀j,starEach (e::es) (F j).env=(false,eval e (F j).env)::starEach es (F j).env) au_3)(l:autoParam (∀j,(backTo pos (starEach es (F j).env)).any (·.1)=false) au_3) :
  CE F K mg E (.Call (.Name x p1) (e::es) [] pos) (EC v r):=
 .mk λh=>let ⟨_,Q,G⟩:=A.h h;⟨_,λj=>fz (by obtain⟨B,z,y⟩:=N j;rw[B,z,y,h.k j,h.m j];exact C) (H j) (Q j) J (L j) o (M j) (l j),Pz G⟩
def xt(A:CA F K mg E es r):CE F K mg E (.Tuple es k pos) (GX r):=.mk λh=>let ⟨_,o,l⟩:=A.h h;⟨_,λj=>Kf (o j),Kj l⟩
def xL(A:CA F K mg E es r):CE F K mg E (.List es pos) (IG r):=.mk λh=>let ⟨_,o,l⟩:=A.h h;⟨_,λj=>XB (o j),XM l⟩
def a0:CA F K mg E [] Pm:=.mk λ_=>⟨_,λ_=>Xv,UN⟩
def ac(A:CE F K mg E e a)(B:CA F K mg E es r)(y:autoParam (∀j,starEach (e::es) (F j).env=(false,eval e (F j).env)::starEach es (F j).env) au_3):CA F K mg E (e::es) (Kt a r):=
 .mk λh=>let ⟨_,w,o⟩:=A.h h;let ⟨_,v,l⟩:=B.h h;⟨_,λj=>Xr (w j) (v j) (y j),XS o l⟩
def a1(A:CE F K mg E e a)(h:autoParam (∀j,starEach [e] (F j).env=(false,eval e (F j).env)::starEach [] (F j).env) au_3):CA F K mg E [e] (Kt a Pm):=ac A a0 h
def a2(A:CE F K mg E e a)(B:CE F K mg E f b)(l:autoParam (∀j,starEach [e,f] (F j).env=(false,eval e (F j).env)::starEach [f] (F j).env) au_3)(h:autoParam (∀j,starEach [f] (F j).env=(false,eval f (F j).env)::starEach [] (F j).env) au_3):CA F K mg E [e,f] (Kt a<|Kt b Pm):=ac A (a1 B h) l
def a3(A:CE F K mg E e a)(B:CE F K mg E f b)(C:CE F K mg E g c)(o:autoParam (∀j,starEach [e,f,g] (F j).env=(false,eval e (F j).env)::starEach [f,g] (F j).env) au_3)(l:autoParam (∀j,starEach [f,g] (F j).env=(false,eval f (F j).env)::starEach [g] (F j).env) au_3)(h:autoParam (∀j,starEach [g] (F j).env=(false,eval g (F j).env)::starEach [] (F j).env) au_3):CA F K mg E [e,f,g] (Kt a<|Kt b<|Kt c Pm):=ac A (a2 B C l h) o
def te(h:∀{j},PT (F j) e tt)(k:XG K mg E tt t):CT F K mg E e t:=.mk λ_=>⟨_,λ_=>h,k⟩
def tc{r}(w:∀{X},OpR X (compareOp l) r)(hs:∀{t u},U5 K mg E t a->U5 K mg E u b->U5 K mg E (tOp r t u) c)(A:CE F K mg E e a)(B:CE F K mg E f b)(y:behindInMarks l f=false:=by exact Kl _):CT F K mg E (.Compare e [l] [f] pos) (Tc c):=
 .mk λh=>let ⟨_,C,v⟩:=A.h h;let ⟨_,z,o⟩:=B.h h;⟨_,λj=>Kq w (C j) (z j) y,XU (hs v o)⟩
def tq(v:∀j,UH n (F j).A)(A:CE F K mg E e a)(B:CE F K mg E f b):CT F K mg E (.Compare e [.Eq] [f] pos) (Tc<|p2 a b<|Nv false):=
 .mk λh=>let ⟨_,y,o⟩:=A.h h;let ⟨_,w,l⟩:=B.h h;⟨_,λj=>cq K (v j) (y j) (w j) (h.k j),XU (NJ o l)⟩
def tn(v:∀j,UH n (F j).A)(A:CE F K mg E e a)(B:CE F K mg E f b):CT F K mg E (.Compare e [.NotEq] [f] pos) (Tc<|p2 a b<|Nv true):=
 .mk λh=>let ⟨_,y,o⟩:=A.h h;let ⟨_,w,l⟩:=B.h h;⟨_,λj=>cn K (v j) (y j) (w j) (h.k j),XU (Gs o l)⟩
def ti(v:∀j,UH n (F j).A)(A:CE F K mg E e a)(B:CE F K mg E f b)(w:autoParam (behindInMarks .In f=false) au_11):CT F K mg E (.Compare e [.In] [f] pos) (Tc<|p2 a b<|fIn false):=
 .mk λh=>let ⟨_,z,o⟩:=A.h h;let ⟨_,y,l⟩:=B.h h;⟨_,λj=>Kq (CP (Kd<|v j)<|h.k j) (z j) (y j) w,XU (Sj o l)⟩
def tI(v:∀j,UH n (F j).A)(A:CE F K mg E e a)(B:CE F K mg E f b)(w:autoParam (behindInMarks .NotIn f=false) au_11):CT F K mg E (.Compare e [.NotIn] [f] pos) (Tc<|p2 a b<|fIn true):=
 .mk λh=>let ⟨_,z,o⟩:=A.h h;let ⟨_,y,l⟩:=B.h h;⟨_,λj=>Kq (Ib (Kd<|v j)<|h.k j) (z j) (y j) w,XU (Sj o l)⟩
def tt(A:CE F K mg E e a)(o:autoParam (∀j whole,isTrue e (F j).env whole=(do let v ←whole;standAt e.pos;holding [v] (truthy v))) au_7):CT F K mg E e (M5 a):=.mk λh=>let ⟨_,w,l⟩:=A.h h;⟨_,λj=>Cg (w j) (h.k j) (o j),Zd8 l⟩
def tN(A:CT F K mg E e t):CT F K mg E (.UnaryOp .Not e pos) (IW t):=.mk λh=>let ⟨_,o,l⟩:=A.h h;⟨_,λj=>A4 (o j),Zk8 l⟩
def tp(A:CW F K mg E e t):CT F K mg E e t:=.mk λh=>let ⟨_,o,l⟩:=A.h h;⟨_,λj=>(o j).pt,l⟩
def wa(A:CT F K mg E e t)(B:CW F K mg E (.BoolOp .And (f::es) pos) u):CW F K mg E (.BoolOp .And (e::f::es) pos) (HF t u):=.mk λh=>let ⟨_,w,o⟩:=A.h h;let ⟨_,v,l⟩:=B.h h;⟨_,λj=>RM (w j) (v j),Ol o l⟩
def wo(A:CT F K mg E e t)(B:CW F K mg E (.BoolOp .Or (f::es) pos) u):CW F K mg E (.BoolOp .Or (e::f::es) pos) (pOr t u):=.mk λh=>let ⟨_,w,o⟩:=A.h h;let ⟨_,v,l⟩:=B.h h;⟨_,λj=>Zmo (w j) (v j),Zdy o l⟩
def wA(A:CT F K mg E e t):CW F K mg E (.BoolOp .And [e] pos) t:=.mk λh=>let ⟨_,o,l⟩:=A.h h;⟨_,λj=>Ze4 (o j),l⟩
def wO(A:CT F K mg E e t):CW F K mg E (.BoolOp .Or [e] pos) t:=.mk λh=>let ⟨_,o,l⟩:=A.h h;⟨_,λj=>Zjp (o j),l⟩
def se(h:∀{j},PS (F j) s l)(k:UJ K mg E l p):CS F K mg E s p:=.mk λ_=>⟨_,λ_=>h,k⟩
def sS(i:Nat)(w:∀j,(F j).N.Nodup)(A:CE F K mg E e a)(o:autoParam (∀j,(F j).N[i]?=some x) au_3)(hx:autoParam (∀j,Loc (F j).env.scope x) au_12)(hs:autoParam (∀j,swapsWith e (some<|.Name x p1) pos.line (F j).env=pure false) au_3)(v:autoParam (∀j,(F j).fn x=true\/(F j).env.scope.names.lookup x=some .local) au_13):CS F K mg E (.Assign [.Name x p1] e pos) (Fu a<|PJ i):=
 .mk λh=>let ⟨_,y,l⟩:=A.h h;⟨_,λj=>pz i (w j) (y j) (o j) (hx j) (hs j) (v j),Th l (X8 i)⟩
def sR(A:CE F K mg E e a):CS F K mg E (.Return (some e) pos) (MB a):=.mk λh=>let ⟨_,o,l⟩:=A.h h;⟨_,λj=>X4 (o j),Fk l⟩
def sF(i:Nat)(A:CS F K mg E s p):CS F K mg E s (Iq i p):=.mk λh=>let ⟨_,o,l⟩:=A.h h;⟨_,o,Zdp i l⟩
def sI(A:CT F K mg E e t)(B:CB F K mg E d1 p)(C:CB F K mg E d2 q):CS F K mg E (.If e d1 d2 pos) (Lg t p q):=.mk λh=>let ⟨_,z,v⟩:=A.h h;let ⟨_,y,o⟩:=B.h h;let ⟨_,w,l⟩:=C.h h;⟨_,λj=>Az (z j) (y j) (w j),Ri v o l⟩
def sE(A:CE F K mg E e a)(hs:autoParam (∀j,swapsWith e none pos.line (F j).env=pure false) au_3):CS F K mg E (.Expr e pos) (He a):=.mk λh=>let ⟨_,o,l⟩:=A.h h;⟨_,λj=>Kv (o j) (hs j),TY l⟩
def sO(l:ZX)(z:∀{j},PassesOwn (model (F j).prog (F j).w) (F j).A (F j).env (F j).xe)(I:CI F K mg E f e it)(G:CG F K mg f is pg)(B:CB F K mg E d1 p)(C:autoParam (∀j,(F j).calm=true) au_3)(hs:autoParam (∀j x,foldedSetIterable e (F j).env x=pure x) au_7) :
  CS F K mg E (.For f e d1 [] pos) (HE l it pg p):=
 .mk λh=>let ⟨_,L,y⟩:=I.h h;let ⟨_,J,v⟩:=G.h h;let ⟨_,H,o⟩:=B.h h;⟨_,λj=>MX z (C j) (L j) (J j) (H j) (hs j),Zbp l y v o⟩
def sW(l:ZX)(y:∀{j},PassesOwn (model (F j).prog (F j).w) (F j).A (F j).env (F j).xe)(A:CT F K mg E e t)(B:CB F K mg E d1 p):CS F K mg E (.While e d1 [] pos) (My l t p):=
 .mk λh=>let ⟨_,C,v⟩:=A.h h;let ⟨_,z,o⟩:=B.h h;⟨_,λj=>Zg2 y (C j) (z j),Zh7 l v o⟩
def b0:CB F K mg E [] MD:=.mk λ_=>⟨_,λ_=>D2,Aw⟩
def b1(A:CS F K mg E s p):CB F K mg E [s] p:=.mk λh=>let ⟨_,o,l⟩:=A.h h;⟨_,λj=>SY (o j),l⟩
def bc(A:CS F K mg E s p)(B:CB F K mg E d1 q):CB F K mg E (s::d1) (G2 p q):=.mk λh=>let ⟨_,w,o⟩:=A.h h;let ⟨_,v,l⟩:=B.h h;⟨_,λj=>Zeq (w j) (v j),Zg9 o l⟩
def bj(A:CS F K mg E s p)(B:CB F K mg E d1 q):CB F K mg E (s::d1) (Er p q):=.mk λh=>let ⟨_,w,o⟩:=A.h h;let ⟨_,v,l⟩:=B.h h;⟨_,λj=>Zeo (w j) (v j),Zc7 o l⟩
def iL(A:CE F K mg E e a):CI F K mg E f e (pIL a):=.mk λh=>let ⟨_,o,l⟩:=A.h h;⟨_,λj=>P9 (o j) (h.k j),Zih l⟩
def ir(o:mg "range"=none)(A:CA F K mg E [e] r)(v:autoParam (∀j,Gl (F j) "range") au_3)(hs:autoParam (∀j,starEach [e] (F j).env=[(false,eval e (F j).env)]) au_3):CI F K mg E f (.Call (.Name "range" p1) [e] [] pos) (HN r):=
 .mk λh=>let ⟨_,w,l⟩:=A.h h;⟨_,λj=>Zm0 (v j) (by rw[h.m j];exact o) (w j) (hs j),OF l⟩
def iR(v:mg "range"=none)(A:CA F K mg E [e,g] r)(w:autoParam (∀j,Gl (F j) "range") au_3)(hs:autoParam (∀j,starEach [e,g] (F j).env=[(false,eval e (F j).env),(false,eval g (F j).env)]) au_3)(l:autoParam (∀j,starEach [g] (F j).env=[(false,eval g (F j).env)]) au_3):CI F K mg E f (.Call (.Name "range" p1) [e,g] [] pos) (Ii r):=
 .mk λh=>let ⟨_,y,o⟩:=A.h h;⟨_,λj=>Zke (w j) (by rw[h.m j];exact v) (y j) (hs j) (l j),Zat o⟩
def je(h:∀{j},PI (F j) f e l)(k:TK K mg E l it):CJ F K mg E f e it:=.mk λ_=>⟨_,λ_=>h,k⟩
def jL(A:CE F K mg E e a):CJ F K mg E f e (L4 a):=.mk λh=>let ⟨_,o,l⟩:=A.h h;⟨_,λj=>P9 (o j) (h.k j),Nl l⟩
def jI(I:CI F K mg E f e it):CJ F K mg E f e it:=.mk λh=>let ⟨_,o,l⟩:=I.h h;⟨_,o,l.c⟩
def gN(i:Nat)(o:autoParam (∀j,decide (F j).N.Nodup=true) au_14)(h:autoParam (∀j,(F j).N[i]?=some x) au_3)(hx:autoParam (∀j,Loc (F j).env.scope x) au_12)(l:autoParam (∀j,(F j).fn x=true\/(F j).env.scope.names.lookup x=some .local) au_13):CG F K mg (.Name x pos) [i] (PJ i):=.mk λ_=>⟨_,λj=>gk i (o j) (h j) (hx j) (l j),X8 i⟩
def gT(n:Nat){pr}(G:CGs F K mg es is pr)(w:autoParam (∀j,(F j).calm=true) au_3)(v:autoParam (∀j,(assignEach es (F j).env).length=n) au_3)(l:autoParam (∀j,(assignEach es (F j).env).findIdx? (·.1)=none) au_3):CG F K mg (.Tuple es k pos) is (Fy n pr):=
 .mk λh=>let ⟨_,y,o⟩:=G.h h;⟨_,λj=>SS (w j) (y j) (h.k j) (v j) (l j),Fq o⟩
def g0:CGs F K mg [] [] LN:=.mk λ_=>⟨_,λ_=>SL,FT⟩
def gc(G:CG F K mg e is pg)(B:CGs F K mg es w l)(hs:autoParam (∀j,(assignEach (e::es) (F j).env).map (·.2)=assign e (F j).env::(assignEach es (F j).env).map (·.2)) au_3):CGs F K mg (e::es) (is++w) (MP pg l):=
 .mk λh=>let ⟨_,z,v⟩:=G.h h;let ⟨_,y,o⟩:=B.h h;⟨_,λj=>TC (z j) (y j) (hs j),NB v o⟩
def f0:CF F K mg E [] IC:=.mk λ_=>⟨_,λ_=>PZ,T8⟩
def f1(A:CT F K mg E e t):CF F K mg E [e] t:=.mk λh=>let ⟨_,o,l⟩:=A.h h;⟨_,λj=>BL (o j),l⟩
noncomputable abbrev Blk(F:ι->Cx)(N':ZZ)(h:Scope):ι×List (Str×Addr)×Addr×Shared×Hp×List Addr->Cx:=λj=>Xx (F j.1) N' h j.2.1 j.2.2.1 j.2.2.2.1 j.2.2.2.2.1 j.2.2.2.2.2
def xC(N':ZZ)(φ:ZW)(I:CJ F K mg E f e it)(G:CG (Blk F N' v) K mg f is pg)(T:CF (Blk F N' v) K mg E es t)(A:CE (Blk F N' v) K mg E g a)(Y:autoParam (∀j,(F j).calm=true) au_3)(S:autoParam (∀j,Sl v (F j).env.scope (F j).N N' φ=true) au_3)(hs:autoParam (∀j x,foldedSetIterable e (F j).env x=pure x) au_7)(h1:autoParam ((φ.filterMap id).Nodup) au_1)(h2:autoParam (∀j∈is,φ[j]?=some none) au_1) :
  CE F K mg E (.ListComp g [⟨f,e,es,0⟩] v pos) (De φ it pg t a):=.mk λh=>by
 have w:Fit (Blk F N' v) K mg:=⟨λj=>h.k j.1,λj=>h.m j.1⟩;obtain⟨_,U,J⟩:=I.h h;obtain⟨_,Q,H⟩:=G.h w;obtain⟨_,M,B⟩:=T.h w;obtain⟨_,L,z⟩:=A.h w;exact⟨_,λj=>Dw (Y j) (.of<|S j) (U j) (λy C l o ex=>⟨Q (j,y,C,l,o,ex),M (j,y,C,l,o,ex),L (j,y,C,l,o,ex)⟩) (hs j),Pa J H B z h1 h2⟩
def sr(A:CE F K mg E e a):CS F K mg E (.Return (some e) pos) (D7 a):=.mk λh=>let ⟨_,o,l⟩:=A.h h;⟨_,λj=>X4 (o j),Zan l⟩
def sV(i:Nat)(v:autoParam (∀j,(F j).N[i]?=some x) au_3)(h:autoParam (∀j,Vis (F j).env.scope x) au_9)(l:autoParam ((x==("__debug__" : Str))=false) au_1)(o:autoParam ((x==("__classdict__" : Str))=false) au_1):CS F K mg E (.Return (some<|.Name x p1) pos) (Ax i):=.mk λ_=>⟨_,λj=>X4 (pv i (v j) (h j) l o),Zm3 i⟩
def sA(i:Nat)(A:CE F K mg E e a)(G:autoParam (∀j,(F j).N[i]?=some x) au_3)(z:autoParam (∀j,Vis (F j).env.scope x) au_9)(B:autoParam ((x==("__debug__" : Str))=false) au_1)(C:autoParam ((x==("__classdict__" : Str))=false) au_1){apos cpos}(v:autoParam (∀j,attributeBase (.Name x p1) "append" (F j).env (eval (.Name x p1) (F j).env)=eval (.Name x p1) (F j).env) au_3)(w:autoParam (∀j,((backTo cpos (starEach [e] (F j).env)).all (λx=>!x.1)&&(backToKw cpos (keywordEach [] (F j).env)).all (λx=>x.1.isSome)&&decide ([e].length+([]:List Keyword).length+(if ([]:List Keyword).isEmpty then 0 else 1)<30))=true) au_3)(o:autoParam ((apos.endLine==cpos.line)=true) au_0)(hs:autoParam (∀j,starEach [e] (F j).env=(false,eval e (F j).env)::starEach [] (F j).env) au_3)(l:autoParam (∀j,(backTo cpos (starEach [] (F j).env)).any (·.1)=false) au_3)(hw:autoParam (∀j,swapsWith (.Call (.Attribute (.Name x p1) "append" apos) [e] [] cpos) none pos.line (F j).env=pure false) au_3):CS F K mg E (.Expr (.Call (.Attribute (.Name x p1) "append" apos) [e] [] cpos) pos) (CK i a):=
 .mk λh=>let ⟨_,H,y⟩:=A.h h;⟨_,λj=>Kv (B6 Qd Vg Vh NK (pv i (G j) (z j) B C) (Xr (H j) Xv<|hs j) (h.k j) (v j) (w j) o (hs j)<|l j) (hw j),Zlo i y⟩
def sU(i:Nat){l o}(B:∀j,(F j).N.Nodup)(w:∀{X},PIp X l (ipI o))(A:CE F K mg E e a)(y:autoParam (∀j,(F j).N[i]?=some x) au_3)(hx:autoParam (∀j,Loc (F j).env.scope x) au_12)(z:autoParam (∀j,(F j).fn x=true\/(F j).env.scope.names.lookup x=some .local) au_13):CS F K mg E (.AugAssign (.Name x p1) l e pos) (Fb i o a):=
 .mk λh=>let ⟨_,C,v⟩:=A.h h;⟨_,λj=>Zc5 (B j) (y j) (hx j) (C j) w (z j),Zac v⟩
def sC(i:Nat)(N':ZZ)(φ:ZW){y py spos}(hN:∀j,(F j).N.Nodup)(I:CJ F K mg E f e it)(G:CG (Blk F N' v) K mg f is pg)(T:CF (Blk F N' v) K mg E es t)(A:CE (Blk F N' v) K mg E g a)(hy:autoParam (∀j,(F j).N[i]?=some y) au_3)(hl:autoParam (∀j,(F j).env.scope.names.lookup y=some .local) au_3)(hc:autoParam (∀j,(F j).calm=true) au_3)(S:autoParam (∀j,Sl v (F j).env.scope (F j).N N' φ=true) au_3)(hs:autoParam (∀j x,foldedSetIterable e (F j).env x=pure x) au_7)(h1:autoParam ((φ.filterMap id).Nodup) au_1)(h2:autoParam (∀j∈is,φ[j]?=some none) au_1)(hw:autoParam (∀j,swapsWith (.ListComp g [⟨f,e,es,0⟩] v pos) (some<|.Name y py) spos.line (F j).env=pure true) au_3) :
  CS F K mg E (.Assign [.Name y py] (.ListComp g [⟨f,e,es,0⟩] v pos) spos) (Fu (De φ it pg t a)<|PJ i):=.mk λh=>by
 have w:Fit (Blk F N' v) K mg:=⟨λj=>h.k j.1,λj=>h.m j.1⟩;obtain⟨_,Y,L⟩:=I.h h;obtain⟨_,U,J⟩:=G.h w;obtain⟨_,Q,H⟩:=T.h w;obtain⟨_,M,B⟩:=A.h w;exact⟨_,λj=>R0 (hN j) (hy j) (hl j) (hc j) (.of<|S j) (Y j) (λz C l o ex=>⟨U (j,z,C,l,o,ex),Q (j,z,C,l,o,ex),M (j,z,C,l,o,ex)⟩) (hs j) (hw j),Th (Pa L J H B h1 h2) (X8 i)⟩
def sX(i:Nat)(B:CE F K mg E f b)(A:CE F K mg E e a)(M:autoParam (∀j,(F j).N[i]?=some x) au_3)(G:autoParam (∀j,Vis (F j).env.scope x) au_9)(H:autoParam ((x==("__debug__" : Str))=false) au_1)(J:autoParam ((x==("__classdict__" : Str))=false) au_1){q1}(L:autoParam (∀j v,assign (.Subscript (.Name x p1) f q1) (F j).env v=(do
   let l ←holding [v] (eval (.Name x p1) (F j).env)
   let o ←holding [v,l] (eval f (F j).env)
   standAt q1
   holding [v,l,o] (setItem l o v)
   release [v,l,o] [])) au_7)(hs:autoParam (∀j,swapsWithSole [.Subscript (.Name x p1) f q1] e pos.line (F j).env=pure false) au_3)(hw:autoParam (∀j,swappedStores [.Subscript (.Name x p1) f q1] e (F j).env=pure none) au_3)(Q:autoParam (∀j,(assignEach [.Subscript (.Name x p1) f q1] (F j).env).map (·.2)=[assign (.Subscript (.Name x p1) f q1) (F j).env]) au_3):CS F K mg E (.Assign [.Subscript (.Name x p1) f q1] e pos) (Ck i b a):=
 .mk λh=>let ⟨_,C,y⟩:=B.h h;let ⟨_,z,w⟩:=A.h h;⟨_,λj=>Ld (z j) (Ep (pv i (M j) (G j) H J) (C j) M0<|L j) (hs j) (hw j) (Q j),Zg0 i y w⟩
structure CO {ι:Type} (F:ι->Cx) (K:ZQ) (mg:ZU) (E:L2.St->XK) (o:Option Expr) (p:PTO):Prop where
 h:Fit F K mg->∃t,(∀j,PO (F j) o t)/\Pt K mg E t p
def o0:CO F K mg E none Eg:=.mk λ_=>⟨_,λ_=>Ir,Mm⟩
def o1(A:CE F K mg E e a):CO F K mg E (some e) (Ia a):=.mk λh=>let ⟨_,o,l⟩:=A.h h;⟨_,λj=>Bf (o j),Bz l⟩
def xp{lo o l u v}(A:CE F K mg E e a)(L:CO F K mg E lo l)(U:CO F K mg E o u):CE F K mg E (.Subscript e (.Slice lo o none v) pos) (pSl a l u):=
 .mk λh=>let ⟨_,G,z⟩:=A.h h;let ⟨_,C,y⟩:=L.h h;let ⟨_,B,w⟩:=U.h h;⟨_,λj=>Cd (CC<|h.k j) (G j) (C j) (B j),Zf9 z y w⟩
def xn(A:CE F K mg E e a):CE F K mg E (.UnaryOp .Not e pos) (M6 a):=.mk λh=>let ⟨_,o,l⟩:=A.h h;⟨_,λj=>GR (o j),Hh l⟩
def sQ{cpos v}(B:ExcR.XY K (ExcR.UC mg x))(y:mg x=some (.ref<|ExcR.UC mg x))(H:∀{j},ExcR.FI (F j) v)(A:CA F K mg (λ_=>v) (e::es) r)(G:autoParam (∀j,(F j).calm=true) au_3)(z:autoParam (∀j,Gl (F j) x) au_3)(o:autoParam ((x==("__debug__" : Str))=false) au_1)(C:autoParam (∀j,starEach (e::es) (F j).env=(false,eval e (F j).env)::starEach es (F j).env) au_3)(l:autoParam (∀j,(backTo cpos (starEach es (F j).env)).any (·.1)=false) au_3)(hx:autoParam (SC x=none) au_0) :
  CS F K mg (λ_=>v) (.Raise (some<|.Call (.Name x p1) (e::es) [] cpos) none pos) (EW x r):=
 .mk λh=>let ⟨_,J,w⟩:=A.h h;⟨_,λj=>ExcR.Zcj (by rw[h.k j];exact B.c) (by rw[h.m j];exact y) H (G j) (J j) (z j) o (C j) (l j),Rc w hx⟩
def xg{ps y v}(C:Callee P w K mg base (ExcR.CXe P w) k x ps (UA mg y K))(J:∀j,UH m (F j).A)(hx:∀{j},K0 (ExcR.CXe P w) (F j) v)(A:CA F K mg (λ_=>v) (e::es) r)(Q:autoParam (∀j,(F j).prog=P/\(F j).w=w/\(F j).base=base) au_10)(L:autoParam (k<=m) au_1)(M:autoParam (∀j,Gl (F j) x) au_3)(o:autoParam ((x==("__debug__" : Str))=false) au_1)(N:autoParam (∀j,starEach (e::es) (F j).env=(false,eval e (F j).env)::starEach es (F j).env) au_3)(l:autoParam (∀j,(backTo pos (starEach es (F j).env)).any (·.1)=false) au_3) :
  CE F K mg (λ_=>v) (.Call (.Name x p1) (e::es) [] pos) (MO y r):=
 .mk λh=>let ⟨_,T,H⟩:=A.h h;⟨_,λj=>Dc (by obtain⟨G,B,z⟩:=Q j;rw[G,B,z,h.k j,h.m j];exact C) ((J j).mono L) hx (T j) (M j) o (N j) (l j),Zba H⟩
variable {pw:PTW}
end
section
variable {P:Program}{w:World}{K:ZQ}{mg:ZU}{base:Heap}{N ps:ZZ}{sp:Sp}{p:PTS}{x q:Str}{st:Stmt}{k:Nat}{W:Addr->Prop}
def _root_.Own.Def.fz (D:Def K mg x st ps) (S:U7 N ps (U6 st))
  (o:∀{f g A outer s H} {E:XK},(∀{n:Type},n->UH k (A.deeper<|envOfC x (U6 st) s.heap.objs.size f g))->(Unit->N.Nodup)->
   CB (λ_:Unit=>(Xj CX0 P w K mg base N x (U6 st) f g A outer s H E).nox) K mg (λ_=>E) (Xb st) p) (u:Uz K mg N ps sp p):Callee P w K mg base CX0 (k+1) x ps sp:=
 D.ez S (λr=>let ⟨t,h,l⟩:=(o (λ_=>r) λ_=>S.nd).h ⟨λ_=>rfl,λ_=>rfl⟩;⟨t,h (),l⟩) u
def _root_.Own.Def.fy (D:Def K mg x st ps) (S:U7 N ps (U6 st))
  (o:∀{f g A outer s H} {E:XK},(∀{n:Type},n->UH k (A.deeper<|envOfC x (U6 st) s.heap.objs.size f g))->(Unit->N.Nodup)->
   CB (λ_:Unit=>Xj (ExcR.CXe P w) P w K mg base N x (U6 st) f g A outer s H E) K mg (λ_=>E) (Xb st) p) (u:Uz K mg N ps sp p):Callee P w K mg base (ExcR.CXe P w) (k+1) x ps sp:=
 D.ey S (λr=>let ⟨t,h,l⟩:=(o (λ_=>r) λ_=>S.nd).h ⟨λ_=>rfl,λ_=>rfl⟩;⟨t,h (),l⟩) u
def UY.fz (D:UY K W x q st ps) (S:U7 N ps (U6 st))
  (o:∀{f g A outer s H} {E:XK},(∀{n:Type},n->UH k (A.deeper<|envOfC q (U6 st) s.heap.objs.size f g))->(Unit->N.Nodup)->
   CB (λ_:Unit=>(Xj CX0 P w K mg base N q (U6 st) f g A outer s H E).nox) K mg (λ_=>E) (Xb st) p) (u:Uz K mg N ps sp p):KJ P w K mg base CX0 (k+1) W ps sp:=
 D.ez S (λr=>let ⟨t,h,l⟩:=(o (λ_=>r) λ_=>S.nd).h ⟨λ_=>rfl,λ_=>rfl⟩;⟨t,h (),l⟩) u
def UY.fy (D:UY K W x q st ps) (S:U7 N ps (U6 st))
  (o:∀{f g A outer s H} {E:XK},(∀{n:Type},n->UH k (A.deeper<|envOfC q (U6 st) s.heap.objs.size f g))->(Unit->N.Nodup)->
   CB (λ_:Unit=>Xj (ExcR.CXe P w) P w K mg base N q (U6 st) f g A outer s H E) K mg (λ_=>E) (Xb st) p) (u:Uz K mg N ps sp p):KJ P w K mg base (ExcR.CXe P w) (k+1) W ps sp:=
 D.ey S (λr=>let ⟨t,h,l⟩:=(o (λ_=>r) λ_=>S.nd).h ⟨λ_=>rfl,λ_=>rfl⟩;⟨t,h (),l⟩) u
end
mutual
noncomputable def py:D->PyData
 | .int i=>.int i
 | .bl b=>.bool b
 | .str x=>.str x
 | .tup f=>.tuple (pys f)
 | .lst f=>.list (pys f)
 | .fL g=>.list (g.map .int)
 |_=>.none
noncomputable def pys:List D->List PyData
 |[]=>[]
 |d::r=>py d::pys r
end
end Pu
namespace Pu
open L2 Own
section
variable {K:ZQ}{mg:ZU}{E:L2.St->XK}{H0 H H1 H':Hp}{B Z Z':Addr->Prop}{σ:L2.St}{γ:Γ}
abbrev PTL:=Γ->(List (List D)->Prop)->(Str->Prop)->Prop
noncomputable def pLc(a:PTE)(r:PTL):PTL:=λγ R X=>a γ (λs=>match s with
 | .own (.lst g)=>X9 g=true/\r γ (λf=>R (g::f)) X
 |_=>False) X
def HD(K:ZQ)(mg:ZU)(E:L2.St->XK)(h:Bool)(t:TA)(r:PTL):Prop:=∀(H0:Hp) (B:Addr->Prop) (H:Hp) (σ:L2.St) (γ:Γ) (R:List (List D)->Prop) (X:Str->Prop) (Q:List V->Hp->Prop),U9 K H0 B H σ γ->r γ R X->
 (∀(f:List (Addr×List D)) (H':Hp),R (f.map (·.2))->Same H H'->(∀c∈f,(H c.1=none\/h=false/\E5 γ σ c.1)/\X9 c.2=true/\∃g,H' c.1=some (.lst g)/\Rps K H' c.2 g)->(f.map (·.1)).Nodup->Q (f.map λc=>V.ref c.1) H')->
 (∀c H',X c->Same H H'->XE mg (E σ) c H')->t σ H Q
def sl_cons{A:Bool}{te:TE}{a:PTE}{u:TA}{r:PTL}(ha:U5 K mg E te a)(Y:HD K mg E A u r):HD K mg E A (Xk te u) (pLc a r):=by
 intro H0 B H σ γ R X Q g h q x;refine ha H0 B H σ γ _ X _ g h (λs v H1 n o N=>?_) x;have l:=g.grow o;split at n
 ·rename_i ds;obtain⟨a,rfl,a0,M,a1,a2⟩:=N;refine Y H0 B H1 σ γ _ X _ l n.2 (λcs H2 U p y T=>?_) λc H' f S'=>x c H' f (o.trans S');refine q ((a,ds)::cs) H2 U (o.trans p) (λc f=>?_) ?_
  ·rcases W8.mp f with rfl|f
   ·exact⟨.inl (a0 a rfl),n.1,M,p _ _ a1,Rps.mono (off_sub.trans p) a2⟩
   ·obtain⟨L,J,G⟩:=y c f;exact⟨L.imp (λz=>o.free z) id,J,G⟩
  ·refine Qg.mpr ⟨λz=>?_,T⟩;obtain⟨c,f,C⟩:=WZ.mp z;rcases(y c f).1 with w|⟨_,w⟩
   ·rw[show c.1=a from C,a1]at w
    cases w
   ·rw[show c.1=a from C]at w
    have:=g.zm a (.inr w)
    rw[a0 a rfl]at this;exact this
 ·exact n.elim
end
open M
section
variable {K:ZQ}{mg:ZU}{E:L2.St->XK}{H0 H H1 H':Hp}{B Z Z' P:Addr->Prop}{σ:L2.St}{γ:Γ}
def U9.lendB (E:U9 K H0 B H σ γ) (g:Same H H1) (r:∀b,P b->H b=none) (p:∀b,P b->Mut (H1 b)):U9 K H0 (λb=>B b\/P b) H1 σ γ:=by
 have S:Same (Pu.off (zof B γ σ) H) (Pu.off (zof (λb=>B b\/P b) γ σ) H1):=UF g λb o f z y=>by
  rcases y with(y|y)|y
  ·exact z (.inl y)
  ·rw[r b y]at f;cases f
  ·exact z (.inr y)
 refine⟨E.same.trans g,E.len,λb f=>f.elim (λh=>KQ g (E.bm b h)) (p b),E.own,λi s n=>?_⟩;obtain⟨v,l,h⟩:=E.slot i s n;refine⟨v,l,?_⟩;cases s with
 |bor d=>exact h
 |sh d=>exact Rp.mono S h
 |own o=>
  obtain⟨a,rfl,u,e⟩:=h;exact⟨a,rfl,u,e.mono S λb _ x hx=>g _ _ hx⟩
 |view o=>exact h
 |tmp d=>exact h
def inP(w:Addr×List (Addr×List D))(b:Addr):Prop:=b=w.1\/∃c∈w.2,b=c.1
noncomputable def OC(a b:PTE):PTE:=λγ R X=>a γ (λs=>b γ (λu=>match s,u with
 | .own (.ins x C xs h),.own (.ins y n f g)=>n=C/\f=xs/\∀l,R (.own<|.vls l C xs [(x,h),(y,g)])
 |_,_=>False) X) X
def O8{te tf:TE}{a b:PTE}(ha:U5 K mg E te a)(f:U5 K mg E tf b):U5 K mg E (SU<|Xk te<|Xk tf XT) (OC a b):=by
 intro H0 B H σ γ R X Q M h q qx;refine ha H0 B H σ γ _ X _ M h (λs v H1 h1 U t1=>?_) qx;by_cases hs:∃x C xs N,s=.own (.ins x C xs N)
 ·obtain⟨x,C,xs,N,rfl⟩:=hs;obtain⟨a1,rfl,n1,o1⟩:=t1;have m1:=o1.mut;have env1:=M.lendB (P:=inP (x,N)) U n1 m1;refine f H0 _ H1 σ γ _ X _ env1 h1 (λu w H2 n G t2=>?_) λc H' L S'=>qx c H' L (U.trans S');have hu:(∃y C' g A,u=.own (.ins y C' g A))\/¬ ∃y C' g A,u=.own (.ins y C' g A):=Classical.em _;rcases hu with⟨y,C',g,A,rfl⟩|hu
  ·have n:C'=C/\g=xs/\∀l,R (.own<|.vls l C xs [(x,N),(y,A)]):=n;obtain⟨rfl,rfl,hR⟩:=n;obtain⟨a2,rfl,n2,o2⟩:=t2;have m2:=o2.mut;obtain⟨rfl,l1,⟨dx1,k1⟩,c1,d1⟩:=o1;obtain⟨rfl,l2,⟨dx2,k2⟩,c2,d2⟩:=o2;refine⟨by show 2<=sizeLine;decide,λl Y=>?_⟩;have T:Same H2 (upd H2 l<|.lst [.ref a1,.ref a2]):=Xq Y;have p1:∀b,inP (a1,N) b->∃o,H1 b=some o:=λb f=>Kr (m1 b f);have p2:∀b,inP (a2,A) b->∃o,H2 b=some o:=λb f=>Kr (m2 b f)
   have nl1:∀b,inP (a1,N) b->l≠b:=λb f z=>by
    obtain⟨o,r⟩:=p1 b f;rw[←z,G.free Y]at r;cases r
   have nl2:∀b,inP (a2,A) b->l≠b:=λb f z=>by
    obtain⟨o,r⟩:=p2 b f;rw[←z,Y]at r;cases r
   have ap:∀b,inP (a1,N) b->inP (a2,A) b->False:=λb h1 n=>by
    obtain⟨o,r⟩:=p1 b h1;rw[n2 b n]at r;cases r
   refine q _ _ _ (hR l) ((U.trans G).trans T) ⟨l,rfl,λb f=>?_,rfl,UZ,λw hw=>?_,⟨λw hw=>?_,λi j w w' b J p f hb'=>?_⟩⟩
   ·rcases f with rfl|⟨w,hw,f⟩
    ·exact(U.trans G).free Y
    ·rcases W8.mp hw with rfl|hw
     ·exact n1 b f
     ·rw[Wx.mp hw]at f;exact U.free (n2 b f)
   ·rcases W8.mp hw with rfl|hw
    ·refine⟨l1,⟨dx1,T _ _ (G _ _ k1)⟩,λc L=>?_⟩;obtain⟨us,u1,u2⟩:=c1 c L;refine⟨us,T _ _ (G _ _ u1),Rps.mono (UF (G.trans T) λb o f z y=>?_) u2⟩;rcases y with y|rfl|⟨w,hw,y⟩
     ·exact z (.inl y)
     ·rw[G.free Y]at f;cases f
     ·rcases W8.mp hw with rfl|hw
      ·exact z (.inr y)
      ·rw[Wx.mp hw]at y;rw[n2 b y]at f;cases f
    ·rw[Wx.mp hw];refine⟨l2,⟨dx2,T _ _ k2⟩,λc L=>?_⟩;obtain⟨us,u1,u2⟩:=c2 c L;refine⟨us,T _ _ u1,Rps.mono (UF T λb o f z y=>?_) u2⟩;rcases y with y|rfl|⟨w,hw,y⟩
     ·exact z (.inl<|y.imp .inl id)
     ·rw[Y]at f;cases f
     ·rcases W8.mp hw with rfl|hw
      ·exact z (.inl<|.inl<|.inr y)
      ·rw[Wx.mp hw]at y;exact z (.inr y)
   ·rcases W8.mp hw with rfl|hw
    ·exact⟨d1,λz=>nl1 l z rfl⟩
    ·rw[Wx.mp hw];exact⟨d2,λz=>nl2 l z rfl⟩
   ·match i,j,J,p with
    | 0,0,_,_=>rfl
    | 1,1,_,_=>rfl
    | 0,1,J,p=>cases J;cases p;exact(ap b f hb').elim
    | 1,0,J,p=>cases J;cases p;exact(ap b hb' f).elim
    |i+2,_,J,_=>cases J
    | 0,j+2,_,p=>cases p
    | 1,j+2,_,p=>cases p
  ·split at n
   ·exact absurd ⟨_,_,_,_,rfl⟩ hu
   ·exact n.elim
 ·
  refine f H0 _ H1 σ γ _ X _ (M.grow U) h1 (λu w H2 n G t2=>?_) λc H' L S'=>qx c H' L (U.trans S');split at n
  ·exact absurd ⟨_,_,_,_,rfl⟩ hs
  ·exact n.elim
def KY{f:Type}{l:List f}{m:Nat}{a v:f}(h:v∈l.set m a):v=a\/∃k,k≠m/\l[k]?=some v:=by
 obtain⟨k,g,e⟩:=List.getElem_of_mem h;have o:(l.set m a)[k]?=some v:=by rw[Wv g,e]
 rcases UX o with⟨_,e,_⟩|⟨n,e⟩
 ·exact .inl e.symm
 ·exact .inr ⟨k,n,e⟩
def Zkf{c:Pw2}{i j:Nat}{x C:Addr}{xs:ZZ}{U:List (Addr×List (Addr×List D))}{y:Addr}{T:List (Addr×List D)}{m n:Nat}{w:Addr×List (Addr×List D)}{e:Addr×List D}{ss ss':List S}{us:List V}{R:Γ->D->Prop}{Q:VK}(env:U9 K H0 B H σ γ)(hB:∀b,B b->∃o,H0 b=some o)(S1:Same H H1)(hij:i≠j)(hi:γ[i]?=some (some<|.own<|.vls x C xs U))(hj:γ[j]?=some (some<|.own<|.nsl y T))(hw:U[m]?=some w)(he:T[n]?=some e)(t1:TVs K (zof B γ σ) H0 H H1 ss us)(hp:passes ss=some ss')(hc:c (.ins w.1 C xs w.2) (.lsA e.1 e.2) ss' (λo1' o2' d=>∃r p,o1'=.ins w.1 C xs r/\o2'=.lsA e.1 p/\R ((γ.set i<|some<|.own<|.vls x C xs<|U.set m (w.1,r)).set j (some<|.own<|.nsl y<|T.set n (e.1,p))) d) (λ_ _ _=>False))(q:∀γ' d v H',R γ' d->U9 K H0 B H' σ γ'->Fr B H σ γ H' σ γ'->Rp K (off (zof B γ' σ) H') d v->Q v H'):Td mg c K (.ref w.1 :: .ref e.1::us) H1 Q E0:=by
 have g:=env.grow S1;have wm:w∈U:=W4 hw;have em:e∈T:=W4 he;obtain⟨v1,hv1,J,rfl,f1,ex,g1,g2,g3,g4⟩:=g.slot i _ hi;subst ex;obtain⟨v2,hv2,M,rfl,f2,ey,k1,k2,k3⟩:=g.slot j _ hj;subst ey;have apO:∀b,(O.vls J C xs U).adr J b->¬(O.nsl M T).adr M b:=λb z y=>hij (env.own i j _ _ _ _ b hi hj hv1 hv2 z y);have G:∀b,inP w b->(O.vls J C xs U).adr J b:=λb h=>.inr ⟨w,wm,h⟩;have L:(O.nsl M T).adr M e.1:=.inr ⟨e,em,rfl⟩;have z1:∀b,(O.vls J C xs U).adr J b->zof B γ σ b:=λb h=>.inr ⟨i,_,_,hi,hv1,h⟩;have z2:∀b,(O.nsl M T).adr M b->zof B γ σ b:=λb h=>.inr ⟨j,_,_,hj,hv2,h⟩;have ex1:∀b,(O.vls J C xs U).adr J b->∃o,H1 b=some o:=λb h=>Kr (g.zm b<|z1 b h);have ex2:∀b,(O.nsl M T).adr M b->∃o,H1 b=some o:=λb h=>Kr (g.zm b<|z2 b h)
 let tw:Addr->Prop:=λb=>inP w b\/b=e.1
 have za:∀b,tw b->zof B γ σ b:=λb f=>f.elim (λh=>z1 b (G b h)) λh=>by rw[h];exact z2 _ L
 have h0:∀b,tw b->H0 b=none:=λb f=>f.elim (λh=>f1 b (G b h)) λh=>by rw[h];exact f2 _ L
 have nx:¬tw J:=λz=>z.elim (g3 w wm).2 λz=>apO J (.inl rfl) (by rw[z];exact L);have nd:=Qg.mp k3;have ny:¬tw M:=λz=>z.elim (λz=>apO M (G _ z) (.inl rfl)) λz=>nd.1 (by rw[z];exact Vl em)
 have no1:∀(k:Nat) v b,k≠m->U[k]?=some v->inP v b->¬tw b:=λk v b nk l f z=>by
  rcases z with z|z
  ·exact nk (g4 k m v w b l hw f z)
  ·exact apO b (.inr ⟨v,W4 l,f⟩) (by rw[z];exact L)
 have no2:∀(k:Nat) v,k≠n->T[k]?=some v->¬tw v.1:=λk v nk l z=>by
  rcases z with z|z
  ·exact apO v.1 (G _ z) (.inr ⟨v,W4 l,rfl⟩)
  ·exact nk (FJ nd.2 (by rw[W6,l];exact Qk some z)<|by rw[W6,he];rfl)
 have dn:Same (off (zof B γ σ) H1) (off (λb=>(zof B γ σ b/\¬tw b)\/tw b) H1):=UF (Same.refl _) λb _ _ z y=>z (y.elim (λy=>y.1)<|za b);obtain⟨p1,⟨dx,p2⟩,p3⟩:=g2 w wm;obtain⟨es,r1,r2⟩:=k2 e em;refine⟨.ins w.1 C xs w.2,.lsA e.1 e.2,w.1,e.1,ss',us,λb=>zof B γ σ b/\¬tw b,_,_,rfl,λb f=>⟨g.zm b f.1,f.2⟩,λb z y=>apO b (G b z) (by rw[show b=e.1 from y];exact L),⟨rfl,p1,⟨dx,p2⟩,λc hc=>let ⟨us,u1,u2⟩:=p3 c hc;⟨us,u1,Rps.mono dn u2⟩,(g3 w wm).1⟩,⟨rfl,es,r1,Rps.mono dn r2⟩,?_,NP hp,hc,λo1' o2' d v H' hR A rd=>?_,λ_ _ _ _ z=>z.elim⟩
 ·refine t1.pass g.same env.zm S1 (λb x hx=>Xe (g.same b x hx) λw=>?_) (UF (Same.refl _) λb _ _ z y=>z (y.elim (λy=>y.1)<|za b)) hp;rw[h0 b w]at hx;cases hx
 ·obtain⟨r,p,rfl,rfl,hR⟩:=hR;have same:∀b o,H1 b=some o->¬tw b->H' b=some o:=λb o h z=>A.same b o (Xe h z)
  have n1:∀b,(O.vls J C xs<|U.set m (w.1,r)).adr J b->(O.vls J C xs U).adr J b\/H1 b=none:=λb f=>by
   rcases f with f|⟨v,hv,f⟩
   ·exact .inl (.inl f)
   ·rcases KY hv with rfl|⟨k,_,l⟩
    ·exact(A.new1 b f).imp (G b) id
    ·exact .inl (.inr ⟨v,W4 l,f⟩)
  have n2:∀b,(O.nsl M<|T.set n (e.1,p)).adr M b->(O.nsl M T).adr M b:=λb f=>by
   rcases f with f|⟨v,hv,f⟩
   ·exact .inl f
   ·rcases KY hv with rfl|⟨k,_,l⟩
    ·exact .inr ⟨e,em,f⟩
    ·exact .inr ⟨v,W4 l,f⟩
  generalize eg:(γ.set i<|some<|S.own<|.vls J C xs<|U.set m (w.1,r)).set j (some<|.own<|.nsl M<|T.set n (e.1,p))=Y at hR
  have get:∀(k:Nat) (s:S),Y[k]?=some (some s)->(k=j/\s=.own (.nsl M<|T.set n (e.1,p)))\/(k=i/\s=.own (.vls J C xs<|U.set m (w.1,r)))\/(k≠i/\k≠j/\γ[k]?=some (some s)):=λk s h=>by
   rw[←eg]at h;rcases UX h with⟨e1,e2,_⟩|⟨e1,e2⟩
   ·exact .inl ⟨e1,(WB e2).symm⟩
   ·rcases UX e2 with⟨f1,f2,_⟩|⟨f1,f2⟩
    ·exact .inr (.inl ⟨f1,(WB f2).symm⟩)
    ·exact .inr (.inr ⟨f1,e1,f2⟩)
  have hz:∀b o,H1 b=some o->zof B Y σ b->zof B γ σ b:=λb o N z=>by
   rcases z with z|⟨k,fs,a',e1,e2,e3⟩
   ·exact .inl z
   ·rcases get k _ e1 with⟨rfl,q⟩|⟨rfl,q⟩|⟨_,_,q⟩
    ·cases q
     rw[hv2]at e2;cases e2
     exact z2 b (n2 b e3)
    ·cases q
     rw[hv1]at e2;cases e2
     rcases n1 b e3 with h|h
     ·exact z1 b h
     ·rw[h]at N;cases N
    ·exact .inr ⟨k,fs,a',q,e2,e3⟩
  have hzz:∀b o,H' b=some o->¬((zof B γ σ b/\¬tw b)\/two (.ins w.1 C xs r) (.lsA e.1 p) w.1 e.1 b)->¬zof B Y σ b:=λb o _ nn z=>by
   rcases z with z|⟨k,fs,a',e1,e2,e3⟩
   ·refine nn (.inl ⟨.inl z,λw=>?_⟩);obtain⟨u,hu⟩:=hB b z;rw[h0 b w]at hu;cases hu
   ·rcases get k _ e1 with⟨rfl,q⟩|⟨rfl,q⟩|⟨nk,nk',q⟩
    ·cases q
     rw[hv2]at e2;cases e2
     rcases e3 with rfl|⟨v,hv,rfl⟩
     ·exact nn (.inl ⟨z2 _ (.inl rfl),ny⟩)
     ·rcases KY hv with rfl|⟨k,nk,l⟩
      ·exact nn (.inr<|.inr rfl)
      ·exact nn (.inl ⟨z2 _ (.inr ⟨v,W4 l,rfl⟩),no2 k v nk l⟩)
    ·cases q
     rw[hv1]at e2;cases e2
     rcases e3 with rfl|⟨v,hv,f⟩
     ·exact nn (.inl ⟨z1 _ (.inl rfl),nx⟩)
     ·rcases KY hv with rfl|⟨k,nk,l⟩
      ·exact nn (.inr<|.inl f)
      ·exact nn (.inl ⟨z1 _ (.inr ⟨v,W4 l,f⟩),no1 k v b nk l f⟩)
    ·refine nn (.inl ⟨.inr ⟨k,fs,a',q,e2,e3⟩,λw=>?_⟩);rcases w with w|w
     ·exact nk (env.own k i a' _ fs _ b q hi e2 hv1 e3<|G b w)
     ·exact nk' (env.own k j a' _ fs _ b q hj e2 hv2 e3<|by rw[w];exact L)
  have up:∀{ds:List D} {vs:List V},Rps K (off (λb=>(zof B γ σ b/\¬tw b)\/two (.ins w.1 C xs r) (.lsA e.1 p) w.1 e.1 b) H') ds vs->Rps K (off (zof B Y σ) H') ds vs:=λh=>Rps.mono (UF (Same.refl _) λb o N z=>hzz b o N z) h
  have stay:∀{ds:List D} {vs:List V},Rps K (off (zof B γ σ) H1) ds vs->Rps K (off (zof B Y σ) H') ds vs:=λh=>Rps.mono (λb o f=>by
   obtain⟨q1,q2⟩:=Ku f;exact Xe (same b o q1 λz=>q2 (za b z)) λz=>q2 (hz b o q1 z)) h
  obtain⟨_,q1,⟨dx',q2⟩,q3,q4⟩:=A.at1;obtain⟨_,vs',q5,q6⟩:=A.at2;have fresh1:∀b o,inP (w.1,r) b->H1 b=some o->inP w b:=λb o f N=>(A.new1 b f).resolve_right λz=>by rw[z]at N;cases N
  have or1:OR K (off (zof B Y σ) H') H' J (.vls J C xs<|U.set m (w.1,r)):=by
   refine⟨rfl,?_,λv hv=>?_,λv hv=>?_,λa b v v' z ha f hz1 hz2=>?_⟩
   ·rw[show(U.set m (w.1,r)).map (λw=>V.ref w.1)=U.map λw=>V.ref w.1 by
     rw[Jy];apply QZ;intro k;rw[Jv];split
     ·rename_i l;subst l;split
      ·rw[W6,hw];rfl
      ·rename_i h;rw[Q7 (by simpa using h)]
     ·rfl]
    exact same _ _ g1 nx
   ·rcases KY hv with rfl|⟨k,nk,l⟩
    ·exact⟨q1,⟨dx',q2⟩,λc hc=>let ⟨us,u1,u2⟩:=q3 c hc;⟨us,u1,up u2⟩⟩
    ·obtain⟨s1,⟨sx,s2⟩,s3⟩:=g2 v (W4 l);exact⟨s1,⟨sx,same _ _ s2 (no1 k v _ nk l<|.inl rfl)⟩,λc hc=>let ⟨us,u1,u2⟩:=s3 c hc;⟨us,same _ _ u1 (no1 k v _ nk l<|.inr ⟨c,hc,rfl⟩),stay u2⟩⟩
   ·rcases KY hv with rfl|⟨k,nk,l⟩
    ·refine⟨q4,λz=>?_⟩;obtain⟨o,N⟩:=ex1 J (.inl rfl);exact(g3 w wm).2 (fresh1 J o z N)
    ·exact g3 v (W4 l)
   ·rcases UX ha with⟨rfl,e1,_⟩|⟨na,ha⟩
    ·rcases UX f with⟨rfl,_,_⟩|⟨nb,f⟩
     ·rfl
     ·subst e1;obtain⟨o,N⟩:=ex1 z (.inr ⟨v',W4 f,hz2⟩);exact g4 a b w v' z hw f (fresh1 z o hz1 N) hz2
    ·rcases UX f with⟨eb,e1,_⟩|⟨nb,f⟩
     ·subst e1;obtain⟨o,N⟩:=ex1 z (.inr ⟨v,W4 ha,hz1⟩);exact(g4 a m v w z ha hw hz1<|fresh1 z o hz2 N).trans eb.symm
     ·exact g4 a b v v' z ha f hz1 hz2
  have mf:(T.set n (e.1,p)).map (·.1)=T.map (·.1):=by
   rw[Jy];apply QZ;intro k;rw[Jv];split
   ·rename_i l;subst l;split
    ·rw[W6,he];rfl
    ·rename_i h;rw[Q7 (by simpa using h)]
   ·rfl
  have or2:OR K (off (zof B Y σ) H') H' M (.nsl M<|T.set n (e.1,p)):=by
   refine⟨rfl,?_,λv hv=>?_,by rw[mf];exact k3⟩
   ·have:=Qk (List.map V.ref) mf
    rw[Qi,Qi]at this;rw[show(T.set n (e.1,p)).map (λc=>V.ref c.1)=T.map λc=>V.ref c.1 from this]
    exact same _ _ k1 ny
   ·rcases KY hv with rfl|⟨k,nk,l⟩
    ·exact⟨vs',q5,up q6⟩
    ·obtain⟨us,u1,u2⟩:=k2 v (W4 l);exact⟨us,same _ _ u1 (no2 k v nk l),stay u2⟩
  have hm:∀b,(O.vls J C xs U).adr J b\/(O.nsl M T).adr M b->Mut (H' b):=λb f=>by
   by_cases z:tw b
   ·rcases z with z|z
    ·exact A.at1.mut b (A.old1 b z)
    ·exact A.at2.mut b (A.old2 b z)
   ·obtain⟨o,N⟩:=f.elim (ex1 b) (ex2 b);rw[same b o N z,←N];exact g.zm b (f.elim (z1 b)<|z2 b)
  have ap':∀b,(O.vls J C xs<|U.set m (w.1,r)).adr J b->¬(O.nsl M<|T.set n (e.1,p)).adr M b:=λb h1 h2=>by
   rcases n1 b h1 with h|h
   ·exact apO b h (n2 b h2)
   ·obtain⟨o,N⟩:=ex2 b (n2 b h2);rw[h]at N;cases N
  obtain⟨t1,t2⟩:=g.change2 (o1':=.vls J C xs (U.set m (w.1,r))) (o2':=.nsl M (T.set n (e.1,p))) (H':=H') hij hi hj hv1 hv2 (λb o N a1 a2=>same b o N λz=>z.elim (λz=>a1 (G b z)) λz=>a2 (by rw[z];exact L)) hm n1 (λb f=>.inl (n2 b f)) ap' (by rw[eg];exact or1) (by rw[eg];exact or2);rw[eg]at t1 t2;exact q Y d v H' hR t1 ((Fr.grow S1).trans t2) (Rp.mono (λb o h=>let ⟨p1,p2⟩:=Ku h;Xe p1 (hzz b o p1 p2)) rd)
noncomputable def MN(i j p:Nat)(c:Pw2)(r:PTA):PTW:=λγ R X=>match γ[i]?,γ[j]?,γ[p]? with
 |some (some<|.own<|.vls x C xs h),some (some<|.own<|.nsl y u),some (some<|.sh<|.int k)=>∃m w n e,ixN h.length k=some m/\h[m]?=some w/\ixN u.length k=some n/\u[n]?=some e/\r γ (λv=>match passes v with
  |some l=>c (.ins w.1 C xs w.2) (.lsA e.1 e.2) l (λs o d=>∃g f,s=.ins w.1 C xs g/\o=.lsA e.1 f/\R ((γ.set i<|some<|.own<|.vls x C xs<|h.set m (w.1,g)).set j (some<|.own<|.nsl y<|u.set n (e.1,f))) d) (λ_ _ _=>False)
  |none=>False) (X γ)
 |_,_,_=>False
def Zew{f:List (Addr×List (Addr×List D))}{k:Int}{j:Nat}{w:Addr×List (Addr×List D)}(h:ixN f.length k=some j)(g:f[j]?=some w):atI (f.map λw=>V.ref w.1) k=some (.ref w.1):=by
 unfold atI;rw[Wt,h];show(f.map λw=>V.ref w.1)[j]?=_;rw[W6,g];rfl
def Gm(i j p:Nat)(s:i≠j){c:Pw2}{v:TA}{r:PTA}(hr:US K mg E v r) :
  KH K mg E (P3 (Td mg c K) [] E0<|Xk (tOp (λx y H Q=>T3 K x y H Q\/Tg K x y H Q) (X6 i)<|X6 p)<|Xk (tOp (λx y H Q=>T3 K x y H Q\/Tg K x y H Q) (X6 j)<|X6 p) v) (MN i j p c r):=by
 intro H0 B H σ γ R X Q hB f h q T;unfold MN at h;split at h
 ·rename_i x C xs ws y cs k A z hp;obtain⟨m,w,n,e,a1,a2,a3,a4,h⟩:=h;obtain⟨v1,o,Y,rfl,_,ex,g1,_⟩:=f.slot i _ A;obtain⟨v2,l,U,rfl,_,ey,k1,_⟩:=f.slot j _ z;obtain⟨v3,g,L⟩:=f.slot p _ hp;cases L
  refine⟨_,o,_,g,.inl ⟨Y,_,k,.ref w.1,rfl,rfl,SqL.of g1,Zew a1 a2,?_⟩⟩;refine⟨_,l,_,g,.inl ⟨U,_,k,.ref e.1,rfl,rfl,SqL.of k1,Zf7 a3 a4,?_⟩⟩;refine hr H0 B H σ γ _ _ _ f h (λss J H1 u S1 M=>?_) λc H' hc G=>T γ c H' hc (f.grow G) (Fr.grow G);show Td mg c K ((V.ref w.1::V.ref e.1::J)++[]) H1 Q E0;rw[Qn];split at u
  ·rename_i N ep;exact Zkf f hB S1 s A z a2 a4 M ep u q
  ·exact u.elim
 ·exact h.elim
noncomputable def Hq(i:Nat)(b a:PTE):PTS:=λR γ=>match γ[i]? with
 |some (some<|.own<|.vls x C xs g)=>a γ (λs=>match s with
  | .own (.ins y l f h)=>b γ (λz=>match z.d with
   | .int k=>∃j,ixN g.length k=some j/\l=C/\f=xs/\R.nx (γ.set i<|some<|.own<|.vls x C xs<|g.set j (y,h))
   |_=>False) (R.ex γ)
  |_=>False) (R.ex γ)
 |_=>False
def Zd4(i:Nat){tb te:TE}{a b:PTE}(g:U5 K mg E tb b)(ha:U5 K mg E te a):UJ K mg E (PV te<|Ci (X6 i) tb D3) (Hq i b a):=by
 intro H0 B H σ γ R D' hB n h e;have hx:∀c H',R.ex γ c->Same H H'->XE mg (E σ) c H':=λc H' M S'=>e.ex σ γ c H' M (n.grow S') (Fr.grow S');unfold Hq at h;split at h
 ·rename_i x C xs p hi;obtain⟨v,hv,l,rfl,f1,ex,g1,g2,g3,g4⟩:=n.slot i _ hi;subst ex;refine ha H0 B H σ γ _ _ _ n h (λs u H1 h1 S1 t1=>?_) hx;split at h1
  ·rename_i y G f L;refine⟨_,hv,g H0 B H1 σ γ _ _ _ (n.grow S1) h1 (λz t H2 h2 S2 t2=>?_) λc H' M S'=>hx c H' M (S1.trans S')⟩;have env2:=(n.grow S1).grow S2;have A:=S1.trans S2;have rz:=t2.rp env2.same;split at h2
   ·rename_i k ek;rw[ek]at rz;obtain⟨j,hj,rfl,rfl,hR⟩:=h2;obtain⟨a1,rfl,n1,o1⟩:=t1;have m1:=o1.mut;obtain⟨rfl,q1,⟨dx,q2⟩,q3,q4⟩:=o1;refine⟨l,_,k,j,rfl,rz.int_inv,A _ _ g1,by rw[Wt];exact hj,?_⟩;have p1:∀b,inP (a1,L) b->∃o,H1 b=some o:=λb g=>Kr (m1 b g);have zo:∀b,(O.vls l G f p).adr l b->zof B γ σ b:=λb h=>.inr ⟨i,_,_,hi,hv,h⟩;have exo:∀b,(O.vls l G f p).adr l b->∃o,H b=some o:=λb h=>Kr (n.zm b<|zo b h)
    have na:∀b,(O.vls l G f p).adr l b->¬inP (a1,L) b:=λb h z=>by
     obtain⟨o,Y⟩:=exo b h;rw[n1 b z]at Y;cases Y
    have hadr:∀b,(O.vls l G f<|p.set j (a1,L)).adr l b->(O.vls l G f p).adr l b\/H b=none:=λb g=>by
     rcases g with g|⟨v,hv,g⟩
     ·exact .inl (.inl g)
     ·rcases KY hv with rfl|⟨k,_,Q⟩
      ·exact .inr (n1 b g)
      ·exact .inl (.inr ⟨v,W4 Q,g⟩)
    have hl:l≠a1:=λz=>na l (.inl rfl) (.inl z);generalize eH:upd H2 l (.lst ((p.map λw=>V.ref w.1).set j (.ref a1)))=H3;have N:∀b o,H2 b=some o->b≠l->H3 b=some o:=λb o h z=>by rw[←eH,UR z];exact h
    have zn:∀b,zof B (γ.set i<|some<|.own<|.vls l G f<|p.set j (a1,L)) σ b->zof B γ σ b\/inP (a1,L) b:=λb z=>by
     rcases z with z|⟨k,fs,a',e1,e2,e3⟩
     ·exact .inl (.inl z)
     ·rcases UX e1 with⟨rfl,q,_⟩|⟨_,q⟩
      ·cases q
       rw[hv]at e2;cases e2
       rcases e3 with e3|⟨v,J,g⟩
       ·exact .inl (zo b<|.inl e3)
       ·rcases KY J with rfl|⟨k,_,Q⟩
        ·exact .inr g
        ·exact .inl (zo b<|.inr ⟨v,W4 Q,g⟩)
      ·exact .inl (.inr ⟨k,fs,a',q,e2,e3⟩)
    have stay:∀{dd:List D} {vs:List V},Rps K (off (zof B γ σ) H) dd vs->Rps K (off (zof B (γ.set i<|some<|.own<|.vls l G f<|p.set j (a1,L)) σ) H3) dd vs:=λh=>Rps.mono (λb o g=>by
     obtain⟨r1,r2⟩:=Ku g;refine Xe (N b o (A _ _ r1) λz=>r2 (by rw[z];exact zo l (.inl rfl))) λz=>?_;rcases zn b z with z|z
     ·exact r2 z
     ·rw[n1 b z]at r1;cases r1) h
    have new:∀{dd:List D} {vs:List V},Rps K (off (λb=>zof B γ σ b\/inP (a1,L) b) H1) dd vs->Rps K (off (zof B (γ.set i<|some<|.own<|.vls l G f<|p.set j (a1,L)) σ) H3) dd vs:=λh=>Rps.mono (λb o g=>by
     obtain⟨r1,r2⟩:=Ku g;exact Xe (N b o (S2 _ _ r1) λz=>r2 (.inl<|by rw[z];exact zo l (.inl rfl))) λz=>r2 (zn b z)) h
    have hm:∀b,(O.vls l G f p).adr l b->Mut (H3 b):=λb g=>by
     by_cases z:b=l
     ·rw[z,←eH,UZ];trivial
     ·obtain⟨o,Y⟩:=exo b g;rw[N b o (A _ _ Y) z,←Y];exact n.zm b (zo b g)
    have or1:OR K (off (zof B (γ.set i<|some<|.own<|.vls l G f<|p.set j (a1,L)) σ) H3) H3 l (.vls l G f<|p.set j (a1,L)):=by
     refine⟨rfl,?_,λv J=>?_,λv J=>?_,λa b v v' z ha r U T=>?_⟩
     ·rw[←eH,UZ,Jy]
     ·rcases KY J with rfl|⟨k,nk,Q⟩
      ·exact⟨q1,⟨dx,N _ _ (S2 _ _ q2) (Ne.symm hl)⟩,λc M=>let ⟨us,u1,u2⟩:=q3 c M;⟨us,N _ _ (S2 _ _ u1) λz=>na l (.inl rfl) (.inr ⟨c,M,z.symm⟩),new u2⟩⟩
      ·obtain⟨s1,⟨sx,s2⟩,s3⟩:=g2 v (W4 Q);have nv:=(g3 v<|W4 Q).2;exact⟨s1,⟨sx,N _ _ (A _ _ s2) λz=>nv (.inl z.symm)⟩,λc M=>let ⟨us,u1,u2⟩:=s3 c M;⟨us,N _ _ (A _ _ u1) λz=>nv (.inr ⟨c,M,z.symm⟩),stay u2⟩⟩
     ·rcases KY J with rfl|⟨k,nk,Q⟩
      ·exact⟨q4,na l (.inl rfl)⟩
      ·exact g3 v (W4 Q)
     ·rcases UX ha with⟨rfl,e1,_⟩|⟨na',ha⟩
      ·rcases UX r with⟨rfl,_,_⟩|⟨nb,r⟩
       ·rfl
       ·subst e1;exact(na z (.inr ⟨v',W4 r,T⟩) U).elim
      ·rcases UX r with⟨eb,e1,_⟩|⟨nb,r⟩
       ·subst e1;exact(na z (.inr ⟨v,W4 ha,U⟩) T).elim
       ·exact g4 a b v v' z ha r U T
    obtain⟨k1,k2⟩:=n.change (o':=.vls l G f (p.set j (a1,L))) (H':=H3) hi hv (λb o Y nb=>N b o (A _ _ Y) λz=>nb (.inl z)) hm hadr or1;exact e.nx _ _ _ hR k1 k2
   ·exact h2.elim
  ·exact h1.elim
 ·exact h.elim
noncomputable def Zdk(a b:PTE):PTE:=λγ R X=>a γ (λs=>b γ (λu=>match s,u with
 | .own (.lst g),.own (.lst f)=>∀l x y,R (.own<|.nsl l [(x,g),(y,f)])
 |_,_=>False) X) X
def Zad{te tf:TE}{a b:PTE}(ha:U5 K mg E te a)(g:U5 K mg E tf b):U5 K mg E (SU<|Xk te<|Xk tf XT) (Zdk a b):=by
 intro H0 B H σ γ R X Q r h q N;refine ha H0 B H σ γ _ X _ r h (λs v H1 h1 A t1=>?_) N;by_cases hs:∃Y,s=.own (.lst Y)
 ·obtain⟨Y,rfl⟩:=hs;obtain⟨a1,rfl,n1,us,M,u2⟩:=t1;have G:=r.lendB (P:=λb=>b=a1) A n1 (λb g=>by rw[g,M];trivial);refine g H0 _ H1 σ γ _ X _ G h1 (λu w H2 p C t2=>?_) λc H' f S'=>N c H' f (A.trans S');have U:(∃J,u=.own (.lst J))\/¬ ∃J,u=.own (.lst J):=Classical.em _;rcases U with⟨J,rfl⟩|U
  ·have p:∀l x y,R (.own<|.nsl l [(x,Y),(y,J)]):=p;obtain⟨a2,rfl,T,ws,w1,w2⟩:=t2;refine⟨by show 2<=sizeLine;decide,λl n=>?_⟩;have L:Same H2 (upd H2 l<|.lst [.ref a1,.ref a2]):=Xq n;have x1:=C _ _ M
   have ne:a1≠a2:=λz=>by
    have:=T a2 rfl
    rw[←z,M]at this;cases this
   have l1:l≠a1:=λz=>by rw[z,x1]at n;cases n
   have l2:l≠a2:=λz=>by rw[z,w1]at n;cases n
   refine q _ _ _ (p l a1 a2) ((A.trans C).trans L) ⟨l,rfl,λb g=>?_,rfl,UZ,λc f=>?_,?_⟩
   ·rcases g with rfl|⟨c,f,rfl⟩
    ·exact(A.trans C).free n
    ·rcases W8.mp f with rfl|f
     ·exact n1 _ rfl
     ·rw[Wx.mp f];exact A.free (T _ rfl)
   ·rcases W8.mp f with rfl|f
    ·refine⟨us,L _ _ x1,Rps.mono (UF (C.trans L) λb o g z y=>?_) u2⟩;rcases y with y|rfl|⟨c,f,y⟩
     ·exact z (.inl y)
     ·rw[C.free n]at g;cases g
     ·rcases W8.mp f with rfl|f
      ·exact z (.inr y)
      ·rw[Wx.mp f]at y;rw[T b y]at g;cases g
    ·rw[Wx.mp f];refine⟨ws,L _ _ w1,Rps.mono (UF L λb o g z y=>?_) w2⟩;rcases y with y|rfl|⟨c,f,y⟩
     ·exact z (.inl<|y.imp .inl id)
     ·rw[n]at g;cases g
     ·rcases W8.mp f with rfl|f
      ·exact z (.inl<|.inl<|.inr y)
      ·rw[Wx.mp f]at y;exact z (.inr y)
   ·show[l,a1,a2].Nodup;simp[l1,l2,ne]
  ·split at p
   ·exact absurd ⟨_,rfl⟩ U
   ·exact p.elim
 ·refine g H0 _ H1 σ γ _ X _ (r.grow A) h1 (λu w H2 p C t2=>?_) λc H' f S'=>N c H' f (A.trans S');split at p
  ·exact absurd ⟨_,rfl⟩ hs
  ·exact p.elim
def Zbj{ps f:ZR}(l:ps.length=f.length):((List.range ps.length).all λj=>decide (ps.getD j (0,0)=f.getD j (0,0)))=decide (ps=f):=by
 rw[V4,QR,decide_eq_true_iff];refine⟨λh=>List.ext_getElem l λj g n=>?_,λh j _=>by rw[h];exact Ww rfl⟩
 have:=Wy (h j<|Ji.mpr g)
 rwa[WA,WA,Wv g,Wv n]at this
noncomputable def Mc:R2:=λx y H Q=>∃(p q:Addr) (f g:ZR),x=.ref p/\y=.ref q/\LAt Kg H p f/\LAt Kg H q g/\f.length=g.length/\f.length<=100000/\Q (.bl (!decide (f=g))) H
def Zbn{X:Cx}(hu:X.A.units<cLine)(G:X.A.in1.units<cLine):OpR X (compareOp .NotEq) Mc:=by
 intro pins s σ H x y v u Q I rx ry h;obtain⟨p,q,n,l,rfl,rfl,⟨xs,hp,Y⟩,⟨ys,hq,U⟩,hl,hz,k⟩:=h;obtain rfl:v=Value.ref p:=rx;obtain rfl:u=Value.ref q:=ry;obtain⟨g,N,p1,_⟩:=I.list (SqL.of hp);obtain⟨f,M,p2,_⟩:=I.list (SqL.of hq);have l1:=N.length;have l2:=M.length;have m1:=Y.1;have m2:=U.1
 have C:∀(A:Around),A.units<cLine->∀(j:Nat) (w:j<g.toArray.size) (r:j<f.toArray.size),SeqAt.EqAt A s g.toArray[j] f.toArray[j] (decide (n.getD j (0,0)=l.getD j (0,0))):=λA hA j w r=>by
  have L:j<g.length:=by simpa using w
  have J:j<f.length:=by simpa using r
  have T:j<n.length:=by lia
  have o:j<l.length:=by lia
  obtain⟨a,ea,pa⟩:=Y.2 j n[j] (Wv T);obtain⟨b,eb,pb⟩:=U.2 j l[j] (Wv o);obtain⟨u',eu,ru⟩:=N.get ea;obtain⟨w',ew,z⟩:=M.get eb
  have e1:g.toArray[j]=u':=by
   have:g[j]?=some g[j]:=Wv L
   rw[this]at eu;simpa using WB eu
  have e2:f.toArray[j]=w':=by
   have:f[j]?=some f[j]:=Wv J
   rw[this]at ew;simpa using WB ew
  rw[e1,e2,WA,WA,Wv T,Wv o];exact EH I hA ru z pa pb
 refine SeqAt.RcNeAt.lists p1.isList p2.isList (by simp;lia) hu (λj w r=>C _ G j w r) _ _ _ _ ⟨.bl (!decide (n=l)),H,I,?_,k⟩;show _=Value.bool (!decide (n=l));rw[←Zbj hl,WX,←l1,m1]
def RS:S->S->(S->Prop)->Prop:=λx y R=>∃f g:ZR,x.d=.lst (f.map prD)/\y.d=.lst (g.map prD)/\f.length=g.length/\f.length<=100000/\R (.sh<|.bl (!decide (f=g)))
def Zcp{l g:TE}{a b:PTE}(N:U5 K mg E l a)(M:U5 K mg E g b):U5 K mg E (tOp Mc l g) (p2 a b RS):=by
 refine Ky N M λH0 H H2 Z x y v u R Q n s1 hm w s h q=>?_;obtain⟨A,z,Y,U,L,G,T⟩:=h;have r:=w.rp n;have o:=s.rp n;rw[Y]at r;rw[U]at o;obtain⟨p,rfl,J⟩:=r.pairs_inv;obtain⟨C,rfl,f⟩:=o.pairs_inv;exact⟨p,C,A,z,rfl,rfl,J,f,L,G,q _ _ H2 T (Same.refl _) (.bl _)⟩
end
end Pu
namespace T
open L2
noncomputable def top(i:Nat):Stmt:=PySem.Challenge.pw_stripmeld_k48_whole_two_villages.main.body.getD i (.Pass ⟨0,0,0,0⟩)
noncomputable abbrev Dt:Stmt:=top 22
def OM:U7 ["holder"] ["holder"] (U6 Dt):=Pu.fs
noncomputable abbrev BW:Stmt:=top 23
def Rn:U7 ["width"] ["width"] (U6 BW):=Pu.fs
noncomputable abbrev Fd:Stmt:=top 24
def Zfn:U7 ["strips","holder","width"] ["strips"] (U6 Fd):=Pu.fs
noncomputable abbrev Ft:Stmt:=top 25
def Zdu:U7 ["strips"] ["strips"] (U6 Ft):=Pu.fs
noncomputable abbrev Ce:Stmt:=top 27
def Zhl:U7 ["strips","ahead","behind","to_pass","cost","holder","width"] ["strips","ahead","behind"] (U6 Ce):=Pu.fs
noncomputable abbrev An:Stmt:=top 29
def Zam:U7 ["strips","place"] ["strips","place"] (U6 An):=Pu.fs
noncomputable abbrev Fn:Stmt:=top 32
def Hl:U7 ["paths","left","wishes","longer","reached","path","holder"] ["paths","left","wishes"] (U6 Fn):=Pu.fs
noncomputable abbrev AS:Stmt:=top 33
def Zdi:U7 ["least","holders","wishes","paths","left","rings","reached"] ["least","holders","wishes"] (U6 AS):=Pu.fs
noncomputable abbrev Fc:Stmt:=top 34
def Za7:U7 ["holders","wishes","ring","least","found"] ["holders","wishes"] (U6 Fc):=Pu.fs
noncomputable abbrev Ds:Stmt:=top 35
def Zab:U7 ["strips","wishes","ring"] ["strips","wishes"] (U6 Ds):=Pu.fs
noncomputable abbrev Ag:Stmt:=top 37
def RD:U7 ["strips","place"] ["strips","place"] (U6 Ag):=Pu.fs
noncomputable abbrev FK:Stmt:=top 38
def Zfm:U7 ["strips","place","holder","strip"] ["strips","place","holder"] (U6 FK):=Pu.fs
noncomputable abbrev Dx:Stmt:=top 39
def Zg4:U7 ["strips","place","width","strip"] ["strips","place","width"] (U6 Dx):=Pu.fs
noncomputable abbrev FE:Stmt:=top 40
def Zlh:U7 ["strips","place","left","right"] ["strips","place"] (U6 FE):=Pu.fs
noncomputable abbrev Co:Stmt:=top 41
def Zgt:U7 ["wishes","ahead","behind"] ["wishes","ahead","behind"] (U6 Co):=Pu.fs
noncomputable abbrev Ar:Stmt:=top 42
def Zgx:U7 ["wishes","ahead","behind"] ["wishes","ahead","behind"] (U6 Ar):=Pu.fs
noncomputable abbrev Ca:Stmt:=top 44
def Mh:U7 ["strips","holders","costs","ahead","behind"] ["strips"] (U6 Ca):=Pu.fs
noncomputable abbrev Ai:Stmt:=top 45
def Zey:U7 ["holders","sets","holder"] ["holders"] (U6 Ai):=Pu.fs
noncomputable abbrev FW:Stmt:=top 46
def Zh5:U7 ["members","holder"] ["members","holder"] (U6 FW):=Pu.fs
noncomputable abbrev A8:Stmt:=top 47
def Zdl:U7 ["members","holder","wishes"] ["members","holder","wishes"] (U6 A8):=Pu.fs
noncomputable abbrev Dh:Stmt:=top 48
def Zcz:U7 ["members","holder","wishes"] ["members","holder","wishes"] (U6 Dh):=Pu.fs
noncomputable abbrev A5:Stmt:=top 49
def Zcd:U7 ["members","last","least","pairs","others"] ["members","last","least","pairs"] (U6 A5):=Pu.fs
noncomputable abbrev Da:Stmt:=top 50
def Zct:U7 ["members","first","least","pairs","others"] ["members","first","least","pairs"] (U6 Da):=Pu.fs
noncomputable abbrev FP:Stmt:=top 51
def Ie:U7 ["strips","wishes","pairs","least","members","lasts"] ["strips","wishes","pairs"] (U6 FP):=Pu.fs
noncomputable abbrev Aa:Stmt:=top 52
def Zhg:U7 ["strips","wishes","least"] ["strips","wishes"] (U6 Aa):=Pu.fs
noncomputable abbrev FH:Stmt:=top 53
def G3:U7 ["strips","wishes","pairs","least","members","order","firsts","best"] ["strips","wishes"] (U6 FH):=Pu.fs
noncomputable abbrev Fw:Stmt:=top 54
def Zb1:U7 ["strips","wishes"] ["strips","wishes"] (U6 Fw):=Pu.fs
noncomputable abbrev Fg:Stmt:=inClass (top 57) 0
def Zhi:U7 ["self","strips"] ["self","strips"] (U6 Fg):=Pu.fs
noncomputable abbrev Ah:Stmt:=inClass (top 57) 1
def Zlk:U7 ["self"] ["self"] (U6 Ah):=Pu.fs
noncomputable abbrev FS:Stmt:=inClass (top 57) 2
def Zak:U7 ["self"] ["self"] (U6 FS):=Pu.fs
noncomputable abbrev AF:Stmt:=inClass (top 57) 3
def Rf:U7 ["self"] ["self"] (U6 AF):=Pu.fs
noncomputable abbrev Do:Stmt:=inClass (top 57) 4
def Zi8:U7 ["self"] ["self"] (U6 Do):=Pu.fs
noncomputable abbrev AV:Stmt:=inClass (top 57) 5
def Zkb:U7 ["self","deed","field","wishes"] ["self","deed","field","wishes"] (U6 AV):=Pu.fs
noncomputable abbrev Fm:Stmt:=inClass (top 57) 6
def Rg:U7 ["self","place","holder","field"] ["self","place","holder"] (U6 Fm):=Pu.fs
noncomputable abbrev AU:Stmt:=inClass (top 57) 7
def Zax:U7 ["self","place","width","field"] ["self","place","width"] (U6 AU):=Pu.fs
noncomputable abbrev CN:Stmt:=inClass (top 57) 8
def Zd1:U7 ["self","place","field"] ["self","place"] (U6 CN):=Pu.fs
noncomputable abbrev As:Stmt:=inClass (top 57) 9
def Zjy:U7 ["self","ahead","behind","wishes"] ["self","ahead","behind"] (U6 As):=Pu.fs
noncomputable abbrev CM:Stmt:=inClass (top 57) 10
def Ry:U7 ["self","ahead","behind","wishes"] ["self","ahead","behind"] (U6 CM):=Pu.fs
noncomputable abbrev Dv:Stmt:=inClass (top 57) 11
def Zfx:U7 ["self"] ["self"] (U6 Dv):=Pu.fs
noncomputable abbrev AX:Stmt:=inClass (top 57) 13
def Zfg:U7 ["self"] ["self"] (U6 AX):=Pu.fs
noncomputable abbrev Dk:Stmt:=inClass (top 57) 14
def Zby:U7 ["self"] ["self"] (U6 Dk):=Pu.fs
noncomputable abbrev Cr:Stmt:=inClass (top 57) 15
def Zb9:U7 ["self"] ["self"] (U6 Cr):=Pu.fs
noncomputable abbrev D1:Stmt:=top 59
def Zf3:U7 ["_law_script","_law_k"] ["_law_script","_law_k"] (U6 D1):=Pu.fs
noncomputable abbrev FL:Stmt:=top 60
def Zbl:U7 ["_law_found"] ["_law_found"] (U6 FL):=Pu.fs
noncomputable abbrev CD:Stmt:=top 61
def Zls:U7 ["_law_cell","_law_place_here","_law_first"] ["_law_cell","_law_place_here"] (U6 CD):=Pu.fs
noncomputable abbrev D5:Stmt:=top 62
def Zj9:U7 ["_law_script","_law_k"] ["_law_script","_law_k"] (U6 D5):=Pu.fs
noncomputable abbrev Av:Stmt:=top 63
def Zja:U7 ["_law_script"] ["_law_script"] (U6 Av):=Pu.fs
noncomputable abbrev F5:Stmt:=top 64
def Ziq:U7 ["_law_cell","_law_wide","_law_least"] ["_law_cell"] (U6 F5):=Pu.fs
noncomputable abbrev Fi:Stmt:=top 65
def Zk5:U7 ["_law_menu_here","_law_k"] ["_law_menu_here","_law_k"] (U6 Fi):=Pu.fs
noncomputable abbrev BX:Stmt:=top 66
def Ziz:U7 ["_law_found","_law_due","_law_k"] ["_law_found","_law_due"] (U6 BX):=Pu.fs
noncomputable abbrev FF:Stmt:=top 67
def Zk1:U7 ["_law_found","_law_due","_law_k","_law_j"] ["_law_found","_law_due"] (U6 FF):=Pu.fs
noncomputable abbrev Cz:Stmt:=top 68
def Zaj:U7 ["_law_found","_law_due","_law_j"] ["_law_found","_law_due"] (U6 Cz):=Pu.fs
noncomputable abbrev Ab:Stmt:=top 69
def Zi9:U7 ["_law_found","_law_due","_law_k"] ["_law_found","_law_due"] (U6 Ab):=Pu.fs
noncomputable abbrev A6:Stmt:=top 70
def O1:U7 ["_law_strips","_law_owners"] ["_law_strips"] (U6 A6):=Pu.fs
noncomputable abbrev AW:Stmt:=top 71
def Zas:U7 ["_law_strips","_law_order","_law_ranks","_law_total","_law_k","_law_j"] ["_law_strips","_law_order"] (U6 AW):=Pu.fs
noncomputable abbrev D4:Stmt:=top 72
def Zcb:U7 ["_law_order","_law_wishes","_law_one","_law_two"] ["_law_order","_law_wishes"] (U6 D4):=Pu.fs
noncomputable abbrev Dg:Stmt:=top 73
def Zf5:U7 ["_law_holders","_law_rows","_law_turn","_law_grown","_law_row_here"] ["_law_holders"] (U6 Dg):=Pu.fs
noncomputable abbrev FZ:Stmt:=top 74
def Zku:U7 ["_law_strips","_law_wishes","_law_best_here","_law_order","_law_price_here"] ["_law_strips","_law_wishes"] (U6 FZ):=Pu.fs
noncomputable abbrev Al:Stmt:=top 75
def Zgf:U7 ["_law_holders","_law_wishes","_law_rows","_law_grown","_law_row_here","_law_holder_here"] ["_law_holders","_law_wishes"] (U6 Al):=Pu.fs
noncomputable abbrev Cp:Stmt:=top 76
def Ziy:U7 ["_law_strips","_law_deed_here","_law_place_here","_law_holder_here","_law_width_here","_law_parts"] ["_law_strips","_law_deed_here"] (U6 Cp):=Pu.fs
noncomputable abbrev CV:Stmt:=top 77
def Zc4:U7 ["_law_wishes","_law_deed_here","_law_pair_here"] ["_law_wishes","_law_deed_here"] (U6 CV):=Pu.fs
noncomputable abbrev F7:Stmt:=top 78
def Zei:U7 ["_law_now","_law_deed_here","_law_step_here"] ["_law_now","_law_deed_here"] (U6 F7):=Pu.fs
noncomputable abbrev AO:Stmt:=top 79
def Rh:U7 ["_law_village","_law_deed_here"] ["_law_village","_law_deed_here"] (U6 AO):=Pu.fs
noncomputable abbrev Cb:Stmt:=top 80
def Ze2:U7 ["_law_village","_law_past"] ["_law_village","_law_past"] (U6 Cb):=Pu.fs
noncomputable abbrev Aj:Stmt:=top 81
def EA:U7 ["_law_village","_law_past","_law_deed_here","_law_step_here","_law_found"] ["_law_village","_law_past","_law_deed_here"] (U6 Aj):=Pu.fs
noncomputable abbrev F3:Stmt:=top 82
def Zeh:U7 ["_law_script","_law_menu_here","_law_many","_law_rest","_law_strips","_law_k","_law_cell","_law_width_here"] ["_law_script","_law_menu_here","_law_many"] (U6 F3):=Pu.fs
noncomputable abbrev Au:Stmt:=top 83
def Zcn:U7 ["_law_script","_law_most"] ["_law_script","_law_most"] (U6 Au):=Pu.fs
noncomputable abbrev Cq:Stmt:=top 84
def Zds:U7 ["_law_cell","_law_good"] ["_law_cell","_law_good"] (U6 Cq):=Pu.fs
noncomputable abbrev FY:Stmt:=top 85
def OO:U7 ["_law_cell","_law_strips"] ["_law_cell","_law_strips"] (U6 FY):=Pu.fs
noncomputable abbrev F6:Stmt:=top 86
def Zdc:U7 ["_law_cell","_law_menu_here","_law_pool","_law_one","_law_two","_law_ahead"] ["_law_cell","_law_menu_here"] (U6 F6):=Pu.fs
noncomputable abbrev Dj:Stmt:=top 87
def Mn:U7 ["_law_script","_law_menu_here","_law_seed","_law_many","_law_deeds","_law_k","_law_pair_here"] ["_law_script","_law_menu_here"] (U6 Dj):=Pu.fs
noncomputable abbrev AR:Stmt:=top 88
def Zdn:U7 ["_law_cell","_law_strips","_law_place_here"] ["_law_cell","_law_strips","_law_place_here"] (U6 AR):=Pu.fs
noncomputable abbrev Cw:Stmt:=top 89
def Zfh:U7 ["_law_cell","_law_menu_here","_law_now","_law_kind","_law_rest","_law_place_here","_law_more","_law_pair_here"] ["_law_cell","_law_menu_here","_law_now"] (U6 Cw):=Pu.fs
noncomputable abbrev Af:Stmt:=top 90
def RY:U7 ["_law_village","_law_now","_law_ring_here","_law_due"] ["_law_village","_law_now"] (U6 Af):=Pu.fs
noncomputable abbrev Pg:Stmt:=top 91
def Rw:U7 ["_law_script","_law_menu_here","_law_strips","_law_other","_law_handed","_law_villages","_law_pasts","_law_deed_here","_law_k","_law_cell"] ["_law_script"] (U6 Pg):=Pu.fs
structure Glob (K:ZQ) (mg:ZU):Prop where
 ZJ:mg "any"=none
 ZN:mg "bool"=none
 ZK:mg "int"=none
 Zc:mg "isinstance"=none
 len:mg "len"=none
 Zg:mg "list"=none
 ZC:mg "max"=none
 ZL:mg "min"=none
 Zf:mg "range"=none
 ZO:mg "set"=none
 Zh:mg "sorted"=none
 ZP:mg "str"=none
 ZM:mg "sum"=none
 Zo:mg "tuple"=none
 Zw:∃u,mg "HOLDERS"=some u/\RelV (.int 10) u
 Zl:∃u,mg "STRIPS"=some u/\RelV (.int 40) u
 Zm:∃u,mg "WIDEST"=some u/\RelV (.int 1000) u
 Zn:∃u,mg "MOST_WISHES"=some u/\RelV (.int 20) u
 Zp:∃u,mg "MOST_DEEDS"=some u/\RelV (.int 100) u
 Zi:mg "TooManyStrips"=some (.ref<|ExcR.UC mg "TooManyStrips")
 Zj:ExcR.XY K (ExcR.UC mg "TooManyStrips")
 Z3:mg "BadHolder"=some (.ref<|ExcR.UC mg "BadHolder")
 Z4:ExcR.XY K (ExcR.UC mg "BadHolder")
 Z5:mg "BadWidth"=some (.ref<|ExcR.UC mg "BadWidth")
 Z6:ExcR.XY K (ExcR.UC mg "BadWidth")
 Zq:mg "NoStrip"=some (.ref<|ExcR.UC mg "NoStrip")
 Zr:ExcR.XY K (ExcR.UC mg "NoStrip")
 Z7:mg "OwnStrip"=some (.ref<|ExcR.UC mg "OwnStrip")
 Z8:ExcR.XY K (ExcR.UC mg "OwnStrip")
 ZD:mg "BadPart"=some (.ref<|ExcR.UC mg "BadPart")
 ZE:ExcR.XY K (ExcR.UC mg "BadPart")
 Zs:mg "UnlikeHolders"=some (.ref<|ExcR.UC mg "UnlikeHolders")
 Zt:ExcR.XY K (ExcR.UC mg "UnlikeHolders")
 ZF:mg "TooWide"=some (.ref<|ExcR.UC mg "TooWide")
 ZG:ExcR.XY K (ExcR.UC mg "TooWide")
 Zx:mg "LikeHolders"=some (.ref<|ExcR.UC mg "LikeHolders")
 Zy:ExcR.XY K (ExcR.UC mg "LikeHolders")
 Z1:mg "WishStands"=some (.ref<|ExcR.UC mg "WishStands")
 Z2:ExcR.XY K (ExcR.UC mg "WishStands")
 Zu:mg "TooManyWishes"=some (.ref<|ExcR.UC mg "TooManyWishes")
 Zv:ExcR.XY K (ExcR.UC mg "TooManyWishes")
 ZH:mg "NoWish"=some (.ref<|ExcR.UC mg "NoWish")
 ZI:ExcR.XY K (ExcR.UC mg "NoWish")
 Z9:mg "BookFull"=some (.ref<|ExcR.UC mg "BookFull")
 ZA:ExcR.XY K (ExcR.UC mg "BookFull")
 Zz:mg "NothingDone"=some (.ref<|ExcR.UC mg "NothingDone")
 Z0:ExcR.XY K (ExcR.UC mg "NothingDone")
 Zk:mg "Village"=some (.ref<|ExcR.UC mg "Village")
 Za:Cls K (ExcR.UC mg "Village")
 Zb:NoAttr K (ExcR.UC mg "Village") "book"
 Zd:NoAttr K (ExcR.UC mg "Village") "fields"
 Ze:NoAttr K (ExcR.UC mg "Village") "wished"
def Nb:Pu.FldAt "book" ["book","fields","wished"] 0:=.of (by decide +kernel) (by decide +kernel) rfl
def Za9:Pu.PutAt "book" []:=.of (by decide +kernel)
def FN:Pu.FldAt "fields" ["book","fields","wished"] 1:=.of (by decide +kernel) (by decide +kernel) rfl
def Zid:Pu.PutAt "fields" ["book"]:=.of (by decide +kernel)
def F4:Pu.FldAt "wished" ["book","fields","wished"] 2:=.of (by decide +kernel) (by decide +kernel) rfl
def Zdg:Pu.PutAt "wished" ["book","fields"]:=.of (by decide +kernel)
def Ph:Pu.NoFld "strips" ["book","fields","wished"]:=.of (by decide +kernel)
def P1:Pu.NoFld "wishes" ["book","fields","wished"]:=.of (by decide +kernel)
def O9:Pu.NoFld "deeds" ["book","fields","wished"]:=.of (by decide +kernel)
def Sy:Pu.NoFld "check_room" ["book","fields","wished"]:=.of (by decide +kernel)
def NS:Pu.NoFld "enter" ["book","fields","wished"]:=.of (by decide +kernel)
def Zcw:Pu.NoFld "sell" ["book","fields","wished"]:=.of (by decide +kernel)
def Zb3:Pu.NoFld "part" ["book","fields","wished"]:=.of (by decide +kernel)
def Zld:Pu.NoFld "unite" ["book","fields","wished"]:=.of (by decide +kernel)
def Zbg:Pu.NoFld "wish" ["book","fields","wished"]:=.of (by decide +kernel)
def Zha:Pu.NoFld "drop" ["book","fields","wished"]:=.of (by decide +kernel)
def Zgu:Pu.NoFld "take_back" ["book","fields","wished"]:=.of (by decide +kernel)
def Zly:Pu.NoFld "ring" ["book","fields","wished"]:=.of (by decide +kernel)
def O5:Pu.NoFld "order" ["book","fields","wished"]:=.of (by decide +kernel)
def Zer:Pu.NoFld "cost" ["book","fields","wished"]:=.of (by decide +kernel)
end T
namespace M
open L2 Own Pu
noncomputable def Zlc:Pc:=λf R X=>∃h:Int,f=[.int h]/\X2 (Ni h) X (R<|.sh .non)
noncomputable def F0(h:Int):Option Str:=if 1<=h/\h<=1000 then none else some "BadWidth"
noncomputable def Zb0:Pc:=λf R X=>∃h:Int,f=[.int h]/\X2 (F0 h) X (R<|.sh .non)
noncomputable def Hm(_:ZQ):Sp:=λh H Q _=>∃(l:Addr) (f:ZR),h=[.ref l]/\LAt Kg H l f/\Field f/\f.length<=50/\
 ∀(q:Addr) (g:Hp),H q=none->Same H g->g q=some (.lst ((UD f).map V.int))->Q (.ref q) g
noncomputable def Ed:Pc:=λg R _=>∃f:ZR,g=[.lst (f.map prD)]/\Field f/\f.length<=50/\R (.own ((UD f).map D.int))
def NF{P:Program}{w:World}{K:ZQ}{f:ZU}{base:Heap}(C:Callee P w K f base CX0 1 "holders_of" ["strips"] (Hm K)):Callee P w K f base CX0 1 "holders_of" ["strips"] (UA f Ed K):=R3 C λG R X A H Q E r p x B=>by
 obtain⟨l,rfl,y,o,u⟩:=p;obtain⟨v,rfl,g⟩:=r.one_inv;obtain⟨a,rfl,s⟩:=g.pairs_inv;exact⟨a,l,rfl,s,y,o,λq z n S h=>x _ _ z u S (Zm4 n h)⟩
noncomputable def ON:Pc:=λg R _=>∃(f:ZR) (x y:Int),g=[.lst (f.map prD),.int x,.int y]/\Field f/\R (.sh<|.int<|pcM f x y f.length)
noncomputable def Od:Pc:=λg R X=>∃(f:ZR) (p:Int),g=[.lst (f.map prD),.int p]/\(if p<1\/(f.length:Int)<=p then X "NoStrip" else R (.sh .non))
noncomputable def Zji:Pc:=λr R _=>∃(l:Int) (g:List (ZS)) (f:ZS) (o:ZR),r=[.lst (g.map<|em l),.lst (f.map D.int),.lst (o.map prD)]/\g.Pairwise sl/\f.Pairwise (· < ·)/\(∀p∈g,p.length<=100)/\f.length<=100/\
 ∀n,LG o l (λp h=>p∈g/\h∈f) n->n.length<=f.length->R (.own<|n.map<|em l)
noncomputable def Zkl:Pc:=λg R X=>∃(f:ZR) (p:Int),g=[plD f,.int p]/\X2 (B7 f p) X (R<|.sh .non)
noncomputable def Zdv:Pc:=λg R X=>∃(f:ZR) (a b:Int),g=[plD f,.int a,.int b]/\f.length<=1000/\X2 (Xy f a b) X (R<|.own ((Nr f a b).map prD))
noncomputable def Zh6:Pc:=λg R _=>∃f:ZS,g=[.lst (f.map D.int)]/\f.length<=10/\R (.own ((UW f).map tD))
noncomputable def Zg6:Pc:=λg R _=>∃(f:ZS) (h:Int),g=[tD f,.int h]/\f.length<=1000/\R (.sh<|tD<|UK f h)
noncomputable def RR:Pc:=λl R _=>∃(g:ZS) (h:Int) (f:ZR),l=[tD g,.int h,.lst (f.map prD)]/\f.length<=50/\R (.sh<|.bl<|Po f g h)
noncomputable def Zmx:Pc:=λl R _=>∃(g:ZS) (h:Int) (f:ZR),l=[tD g,.int h,.lst (f.map prD)]/\f.length<=50/\R (.sh<|.bl<|firstM f g h)
noncomputable def Zea(C:Addr):Pc:=λh R _=>∃(bk:List (Str×ZS)) (fs g:List (ZR)) (f:ZR),h=[K7 C bk (fs++[f]) g]/\R (.own<|f.map prD)
noncomputable def Zkd(C:Addr):Pc:=λh R _=>∃(bk:List (Str×ZS)) (fs g:List (ZR)) (f:ZR),h=[K7 C bk fs (g++[f])]/\R (.own<|f.map prD)
noncomputable def O7(C:Addr):Pc:=λg R _=>∃(bk:List (Str×ZS)) (fs f:List (ZR)),g=[K7 C bk fs f]/\R (.own<|bk.map dD)
noncomputable def Tn(bk:List (Str×ZS)):Option Str:=if 100<=bk.length then some "BookFull" else none
noncomputable def Zkj(C:Addr):Pc:=λg R X=>∃(bk:List (Str×ZS)) (fs f:List (ZR)),g=[K7 C bk fs f]/\X2 (Tn bk) X (R<|.sh .non)
noncomputable def Ziv(C:Addr):Pw:=λo n R _=>∃(x b1 l h:Addr) (bk:List (Str×ZS)) (fs g:List (ZR)) (q:Str×ZS) (f w:ZR),o=vO C x b1 l h bk fs g/\n=[.sh (dD q),.sh (plD f),.sh (plD w)]/\bk.length<=1000/\fs.length<=1000/\g.length<=1000/\
 R (vO C x b1 l h (bk++[q]) (fs++[f]) (g++[w])) (.int (bk.length+1))
noncomputable def Zc6(C:Addr):Pw:=λo l R X=>∃(x b1 h g:Addr) (bk:List (Str×ZS)) (fs f:List (ZR)),o=vO C x b1 h g bk fs f/\l=[]/\fs.length=bk.length+1/\f.length=bk.length+1/\
 (bk=[]->X (vO C x b1 h g bk fs f) "NothingDone")/\∀b0 q,bk=b0++[q]->R (vO C x b1 h g b0 fs.dropLast f.dropLast) (dD q)
noncomputable def Zgg:Pc:=λg R _=>∃(f:ZS) (k:Int),g=[.scr f,.int k]/\0<=k/\R (.sh<|.int<|f.getD k.toNat 0)
noncomputable def Zkv:Pc:=λf R _=>∃i:Int,f=[.int i]/\R (.sh<|.bl true)
noncomputable def Os:Pc:=λf R _=>∃c p:Int,f=[.int c,.int p]/\R (.sh<|.int<|mixP c p)
noncomputable def Zcl:Pc:=λf R _=>∃c:Int,f=[.int c]/\∀m,P7 m->R (.own<|m.map D.int)
noncomputable def Zl7:Pc:=λf R _=>∃(m:ZS) (k:Int),f=[.lst (m.map D.int),.int k]/\P7 m/\∀h:Int,1<=h->h<=10->h=Zjw m k->R (.sh<|.int h)
noncomputable def Zbw:Pc:=λg R _=>∃f:ZR,g=[.lst (f.map prD)]/\f.length<=50/\R (.own ((UD f).map D.int))
noncomputable def Zkc:Pc:=λg R _=>∃(f:ZR) (os:ZS),g=[.lst (f.map prD),.lst (os.map D.int)]/\Field f/\f.length<=50/\(∀p∈f,p.1∈os)/\R (.sh<|.int<|KS f os f.length)
noncomputable def Kx(os:ZS)(q:Int×Int):Bool:=decide (q.1∈os)&&(decide (q.2∈os)&&decide (os.idxOf q.2<os.idxOf q.1))
noncomputable def Zmu:Pc:=λg R _=>∃(os:ZS) (f:ZR),g=[.lst (os.map D.int),.lst (f.map prD)]/\((∀q∈f,Kx os q=false)->R (.sh<|.bl true))/\((∃q∈f,Kx os q=true)->R (.sh<|.bl false))
noncomputable abbrev ilD(r:ZS):D:=.lst (r.map D.int)
noncomputable def Zc9:Pc:=λg R _=>∃f:ZS,g=[.lst (f.map D.int)]/\f.Nodup/\f.length<=10/\R (.sh<|.lst ((Xa f f.length).map ilD))
noncomputable def RE:Pc:=λh R _=>∃(g:ZS) (f:ZR) (r:ZS),h=[.lst (g.map D.int),.lst (f.map prD)]/\g.Nodup/\g.length<=10/\(∀q∈f,q.1≠q.2)/\f.length<=20/\FR g f r/\R (.sh<|.lst<|r.map D.int)
noncomputable def Zek:Pq:=λg R _=>∃(f:ZR) (x:Dd),g=[.sh (plD f),.sh (dD x.q)]/\x.land=true/\f.length<=40/\R (.own [.int (codeN<|x.err f []),plD (x.fld' f)])
noncomputable def Zlq:Pq:=λf R _=>∃(w:ZR) (x:Dd),f=[.sh (plD w),.sh (dD x.q)]/\x.land=false/\w.length<=20/\R (.own [.int (codeN<|x.err [] w),plD (x.wsh' w)])
noncomputable def Zh0:Pc:=λf R _=>∃c g:Int,f=[.int c,.int g]/\∀v:Int,R (.sh<|.int v)
noncomputable def Zlw:Pc:=λg R _=>∃(c:Int) (f:ZR),g=[.int c,plD f]/\f.length<=1000/\∀v:Int,R (.sh<|.int v)
noncomputable def Zgw:Pc:=λg R _=>∃(c:Int) (f:ZR) (p:Int),g=[.int c,plD f,.int p]/\f.length<=1000/\Field f/\∀v:Int,R (.sh<|.int v)
noncomputable def RQ:Pc:=λg R X=>∃f:ZR,g=[plD f]/\f.length<=1000/\X2 (Nc f) X (R<|.sh .non)
noncomputable def Zir:Pc:=λh R _=>∃(l:Int) (f:ZS) (g:ZR),h=[.int l,.lst (f.map D.int),.lst (g.map prD)]/\f.Nodup/\f.length<=50/\∀r,RF f g l r->r.length<=60->R (.sh<|.lst<|r.map D.int)
noncomputable def Zco:Pc:=λg R X=>∃(f:ZR) (p h:Int),g=[plD f,.int p,.int h]/\f.length<=1000/\X2 (Ke f p h) X (R<|.own (Pj f p h |>.map prD))
noncomputable def OI:Pc:=λg R X=>∃(f:ZR) (p w:Int),g=[plD f,.int p,.int w]/\f.length<=1000/\X2 (X0 f p w) X (R<|.own ((KE f p w).map prD))
noncomputable def Zd2:Pc:=λg R X=>∃(f:ZR) (p:Int),g=[plD f,.int p]/\f.length<=1000/\X2 (Xm f p) X (R<|.own ((KF f p).map prD))
noncomputable def R5:Pc:=λg R X=>∃(f:ZR) (a b:Int),g=[plD f,.int a,.int b]/\f.length<=1000/\X2 (Xt f a b) X (R<|.own ((f++[(a,b)]).map prD))
noncomputable def Ob:Pc:=λh R _=>∃f:ZR,h=[.lst (f.map prD)]/\Field f/\f.length<=50/\
 ∀g:List (List Key×V),(∀x∈UD f,∀y∈UD f,UL g [.inl x,.inl y]=some (.int<|pcM f x y f.length))->R (.own<|.dT g)
noncomputable def Zhb:Pc:=λh R _=>∃(f:ZS) (l:Int) (le g:List (List Key×V)) (c:Int->Int) (v:Int),h=[tD f,.int l,.dT le,.dT g]/\f.length<=1000/\UL le (kT<|UK f l)=some (.int v)/\
 (∀m∈UK f l,UL g [.inl m,.inl l]=some (.int<|c m))/\R (.sh<|.int (v+((UK f l).map c).sum))
noncomputable def Zmg:Pc:=λh R _=>∃(f:ZS) (l:Int) (le g:List (List Key×V)) (c:Int->Int) (v:Int),h=[tD f,.int l,.dT le,.dT g]/\f.length<=1000/\UL le (kT<|UK f l)=some (.int v)/\
 (∀m∈UK f l,UL g [.inl l,.inl m]=some (.int<|c m))/\R (.sh<|.int (v+((UK f l).map c).sum))
noncomputable def Br(bk:List (Str×ZS))(w:ZR)(a b:Int):Option Str:=if 100<=bk.length then some "BookFull" else Xy w a b
noncomputable def Re(C:Addr):Pw:=λo r R X=>∃(x b1 n l:Addr) (bk:List (Str×ZS)) (fs g:List (ZR)) (f w:ZR) (p h:Int),o=vO C x b1 n l bk (fs++[f]) (g++[w])/\r=[.sh (.int p),.sh (.int h)]/\bk.length<=1000/\fs.length<=900/\g.length<=900/\w.length<=1000/\
 X2 (Br bk w p h) (X<|vO C x b1 n l bk (fs++[f]) (g++[w])) (R (vO C x b1 n l (bk++[(("drop" : Str),[p,h])]) (fs++[f]++[f]) (g++[w]++[Nr w p h]))<|.int (bk.length+1))
noncomputable def Zix:Pc:=λg R _=>∃(f:ZS) (k:Int),g=[.scr f,.int k]/\0<=k/\∀v:Int,R (.sh<|.int v)
noncomputable def OD:Pc:=λg R _=>∃f:ZS,g=[.scr f]/\∀v:Int,R (.sh<|.int v)
noncomputable def Zbu:Pc:=λf R _=>∃xs:ZS,f=[.lst (xs.map D.int),.lst (xs.map D.int)]/\xs.length<=1000000/\R (.sh<|.bl true)
noncomputable def Zeg:Pc:=λg R _=>∃f:ZR,g=[.lst (f.map prD),.lst (f.map prD)]/\f.length<=1000000/\R (.sh<|.bl true)
noncomputable def Zg8:Pc:=λf R _=>∃q:Str×ZS,f=[dD q,dD q]/\q.2.length<=100/\R (.sh<|.bl true)
noncomputable def O0:Pc:=λh R _=>∃f g:ZR,h=[.lst (f.map prD),.lst (g.map prD)]/\Field f/\f.length<=50/\(UD f).length<=10/\(∀q∈g,q.1≠q.2)/\(¬ ∃r,Ring (UD f) g r)/\∀o,KI g (pcc f) (UD f) o->R (.own<|.lst [.int (oc (pcc f) o),.lst (o.map D.int)])
noncomputable def Ze9:Pq:=λg R _=>∃(f w:ZR) (h:List D) (x:Dd),g=[.sh (.tup (plD f::plD w::h)),.sh (dD x.q)]/\f.length<=40/\w.length<=20/\R (.own [.int (codeN<|x.err f w),plD (x.nf f w),plD (x.nw f w)])
noncomputable def Zca:Pc:=λh R _=>∃(g m:ZS) (n:Int),h=[.scr g,.lst (m.map D.int),.int n]/\P7 m/\0<=n/\n<=1000/\∀f:ZR,Field f->f.length=n.toNat->R (.own<|f.map prD)
noncomputable def OP:Pc:=λh R _=>∃(g:ZS) (n:Int),h=[.scr g,.int n]/\0<=n/\n<=1000/\∀f:ZS,(f.length:Int)<=n->R (.own<|f.map D.int)
noncomputable def Zjr:Pc:=λf R _=>∃(c:Int) (m:ZS),f=[.int c,.lst (m.map D.int)]/\P7 m/\∀a b:Int,R (.sh<|prD (a,b))
noncomputable def Zje:Pc:=λh R _=>∃(f:ZS) (g:ZR),h=[.lst (f.map D.int),.lst (g.map prD)]/\f.Nodup/\f.length<=50/\∀r,FR f g r->r.length<=60->R (.sh<|.lst<|r.map D.int)
noncomputable def Zim:Pc:=λn R _=>∃(f g:ZR) (l:List (List Key×V)) (c:Int->Int->Int),n=[.lst (f.map prD),.lst (g.map prD),.dT l]/\Field f/\f.length<=50/\g.length<=50/\(∀q∈g,q.1≠q.2)/\
 (∀x∈UD f,∀y∈UD f,UL l [.inl x,.inl y]=some (.int<|c x y))/\GU (UD f) g/\∀h,Tab g c (UW<|UD f) h->R (.own<|.dT h)
noncomputable def Zdf(C:Addr):Pw:=λo g R X=>∃(x:Addr) (f:ZR),o=.ins x C [] []/\g=[.sh (plD f)]/\f.length<=1000/\X2 (Nc f) (X<|.ins x C [] []) (∀b1 l h,R (vO C x b1 l h [] [f] [[]]) .non)
noncomputable def BS(bk:List (Str×ZS))(f:ZR)(p h:Int):Option Str:=if 100<=bk.length then some "BookFull" else Ke f p h
noncomputable def Zme(C:Addr):Pw:=λo r R X=>∃(x b1 n l:Addr) (bk:List (Str×ZS)) (fs g:List (ZR)) (f w:ZR) (p h:Int),o=vO C x b1 n l bk (fs++[f]) (g++[w])/\r=[.sh (.int p),.sh (.int h)]/\bk.length<=1000/\fs.length<=900/\g.length<=900/\f.length<=1000/\
 X2 (BS bk f p h) (X<|vO C x b1 n l bk (fs++[f]) (g++[w])) (R (vO C x b1 n l (bk++[(("sell" : Str),[p,h])]) (fs++[f]++[Pj f p h]) (g++[w]++[w]))<|.int (bk.length+1))
noncomputable def S8(bk:List (Str×ZS))(f:ZR)(p h:Int):Option Str:=if 100<=bk.length then some "BookFull" else X0 f p h
noncomputable def Zh1(C:Addr):Pw:=λo r R X=>∃(x b1 n l:Addr) (bk:List (Str×ZS)) (fs g:List (ZR)) (f w:ZR) (p h:Int),o=vO C x b1 n l bk (fs++[f]) (g++[w])/\r=[.sh (.int p),.sh (.int h)]/\bk.length<=1000/\fs.length<=900/\g.length<=900/\f.length<=1000/\
 X2 (S8 bk f p h) (X<|vO C x b1 n l bk (fs++[f]) (g++[w])) (R (vO C x b1 n l (bk++[(("part" : Str),[p,h])]) (fs++[f]++[KE f p h]) (g++[w]++[w]))<|.int (bk.length+1))
noncomputable def BN(bk:List (Str×ZS))(f:ZR)(p:Int):Option Str:=if 100<=bk.length then some "BookFull" else Xm f p
noncomputable def RU(C:Addr):Pw:=λo n R X=>∃(x b1 l h:Addr) (bk:List (Str×ZS)) (fs g:List (ZR)) (f w:ZR) (p:Int),o=vO C x b1 l h bk (fs++[f]) (g++[w])/\n=[.sh (.int p)]/\bk.length<=1000/\fs.length<=900/\g.length<=900/\f.length<=1000/\
 X2 (BN bk f p) (X<|vO C x b1 l h bk (fs++[f]) (g++[w])) (R (vO C x b1 l h (bk++[(("unite" : Str),[p])]) (fs++[f]++[KF f p]) (g++[w]++[w]))<|.int (bk.length+1))
noncomputable def BU(bk:List (Str×ZS))(w:ZR)(a b:Int):Option Str:=if 100<=bk.length then some "BookFull" else Xt w a b
noncomputable def RX(C:Addr):Pw:=λo r R X=>∃(x b1 n l:Addr) (bk:List (Str×ZS)) (fs g:List (ZR)) (f w:ZR) (p h:Int),o=vO C x b1 n l bk (fs++[f]) (g++[w])/\r=[.sh (.int p),.sh (.int h)]/\bk.length<=1000/\fs.length<=900/\g.length<=900/\w.length<=1000/\
 X2 (BU bk w p h) (X<|vO C x b1 n l bk (fs++[f]) (g++[w])) (R (vO C x b1 n l (bk++[(("wish" : Str),[p,h])]) (fs++[f]++[f]) (g++[w]++[w++[(p,h)]]))<|.int (bk.length+1))
noncomputable def Zma:Pc:=λf R _=>∃bk:List (Str×ZS),f=[.lst (bk.map dD),.lst (bk.map dD)]/\(∀q∈bk,q.2.length<=100)/\bk.length<=1000/\R (.sh<|.bl true)
noncomputable def Zl1:Pc:=λh R _=>∃(g m:ZS),h=[.scr g,.lst (m.map D.int)]/\P7 m/\∀f:ZR,f.length<=24->R (.own (f.map λq=>dD (Dd.wish q.1 q.2).q))
noncomputable def Oi:Pc:=λh R _=>∃(c:Int) (m:ZS) (f w:ZR) (g:List D),h=[.int c,.lst (m.map D.int),.tup (plD f::plD w::g)]/\P7 m/\f.length<=1000/\Field f/\w.length<=1000/\(∀x:Dd,R (.sh<|dD x.q))/\R (.sh<|.tup [.str "back"])
noncomputable def Zj4:Pc:=λh R _=>∃(f g:ZR),h=[.lst (f.map prD),.lst (g.map prD)]/\Field f/\f.length<=50/\(∀q∈g,q.1≠q.2)/\(¬ ∃r,Ring (UD f) g r)/\R (.sh .non)
noncomputable def RN(C:Addr):Pc:=λh R _=>∃(bk:List (Str×ZS)) (fs g:List (ZR)) (f w:ZR),h=[K7 C bk (fs++[f]) (g++[w])]/\Field f/\f.length<=50/\∀r,FR (UD f) w r->r.length<=60->R (.sh<|.lst<|r.map D.int)
noncomputable def F8(bk:List (Str×ZS))(f w:ZR)(d:Dd):Option Str:=if 100<=bk.length then some "BookFull" else d.err f w
noncomputable def Zbt(C:Addr):Pw:=λo n R X=>∃(x b1 l h:Addr) (bk:List (Str×ZS)) (fs g:List (ZR)) (f w:ZR) (d:Dd),o=vO C x b1 l h bk (fs++[f]) (g++[w])/\n=[.sh (dD d.q)]/\bk.length<=1000/\fs.length<=900/\g.length<=900/\f.length<=1000/\w.length<=1000/\
 X2 (F8 bk f w d) (X<|vO C x b1 l h bk (fs++[f]) (g++[w])) (R (vO C x b1 l h (bk++[d.q]) (fs++[f]++[d.fld f]) (g++[w]++[d.wsh w]))<|.int (bk.length+1))
noncomputable def RK(C:Addr):Pc:=λh R _=>∃(f0:ZR) (f:List (Dd×ZR×ZR)),h=[K7 C (bkH f) (fsH f0 f) (wsH f),.lst (Xp f0 f)]/\f.length<=200/\(∀g∈fsH f0 f,g.length<=1000)/\(∀g∈wsH f,g.length<=1000)/\R (.sh<|.bl true)
noncomputable def Ze7:Pc:=λl R _=>∃(f g:ZR),l=[.lst (f.map prD),.lst (g.map prD)]/\Field f/\f.length<=50/\g.length<=50/\(∀q∈g,q.1≠q.2)/\(¬ ∃r,Ring (UD f) g r)/\
 ∀h,Mo g (pcc f) (UW<|UD f) h->R (.own<|h.map D.int)
noncomputable def Zmi:Pc:=λh R _=>∃(f g:ZR),h=[.lst (f.map prD),.lst (g.map prD)]/\Field f/\f.length<=50/\g.length<=50/\(∀q∈g,q.1≠q.2)/\(¬ ∃r,Ring (UD f) g r)/\
 ∀o,KI g (pcc f) (UD f) o->R (.own<|o.map D.int)
noncomputable def Zki(C:Addr):Pw2:=λo1 n l R _=>∃(x b1 h g a:Addr) (f0:ZR) (f:Xo) (q:D),o1=vO C x b1 h g (bkH f) (fsH f0 f) (wsH f)/\n=.lsA a (Xp f0 f)/\l=[.sh q]/\f.length<100/\FineH f0 f/\
 ((q=.tup [.str "back"]/\R (vO C x b1 h g (bkH f.dropLast) (fsH f0 f.dropLast)<|wsH f.dropLast) (.lsA a<|Xp f0 f.dropLast) (.bl true))\/
  ∃d:Dd,q=dD d.q/\R (vO C x b1 h g (bkH<|Kh f0 f d) (fsH f0<|Kh f0 f d)<|wsH<|Kh f0 f d) (.lsA a<|Xp f0<|Kh f0 f d) (.bl true))
noncomputable def OU:Pc:=λh R _=>∃(f g:ZR),h=[.lst (f.map prD),.lst (g.map prD)]/\Field f/\f.length<=50/\g.length<=50/\(∀q∈g,q.1≠q.2)/\(¬ ∃r,Ring (UD f) g r)/\
 ∀v,Kn g (pcc f) (UD f) v->R (.sh<|.int v)
noncomputable def Oa(C:Addr):Pc:=λh R _=>∃(bk:List (Str×ZS)) (fs g:List (ZR)) (f w:ZR),h=[K7 C bk (fs++[f]) (g++[w])]/\Field f/\f.length<=50/\w.length<=50/\(∀q∈w,q.1≠q.2)/\(¬ ∃r,Ring (UD f) w r)/\∀o,KI w (pcc f) (UD f) o->R (.own<|o.map D.int)
noncomputable def Zh8(C:Addr):Pc:=λh R _=>∃(bk:List (Str×ZS)) (fs g:List (ZR)) (f w:ZR),h=[K7 C bk (fs++[f]) (g++[w])]/\Field f/\f.length<=50/\w.length<=50/\(∀q∈w,q.1≠q.2)/\(¬ ∃r,Ring (UD f) w r)/\∀v,Kn w (pcc f) (UD f) v->R (.sh<|.int v)
noncomputable def Zis(C:Addr):Pc:=λh R _=>∃(bk:List (Str×ZS)) (fs g:List (ZR)) (f w:ZR) (e:D),h=[K7 C bk (fs++[f]) (g++[w]),.tup [plD f,plD w,e]]/\Field f/\f.length<=40/\KW w/\R (.sh<|.bl true)
structure Fv (P:Program) (w:World) (K:ZQ) (mg:ZU) (base:Heap):Type
variable {P:Program}{w:World}{K:ZQ}{mg:ZU}{base:Heap}
abbrev Cal(_:Fv P w K mg base):=Callee P w K mg base
abbrev Cam(_:Fv P w K mg base):=KJ P w K mg base
abbrev Cxe(_:Fv P w K mg base):=ExcR.CXe P w
abbrev UM(_:Fv P w K mg base):=ExcR.UC mg "Village"
variable (ζ:Fv P w K mg base)
abbrev Mp:Prop:=Cal ζ (Cxe ζ) 1 "check_holder" ["holder"] (UA mg Zlc K)
abbrev Mw:Prop:=Cal ζ (Cxe ζ) 1 "check_width" ["width"] (UA mg Zb0 K)
abbrev Zff:Prop:=Cal ζ CX0 1 "holders_of" ["strips"] (UA mg Ed K)
abbrev IY:Prop:=Cal ζ CX0 1 "pair_cost" ["strips","ahead","behind"] (UA mg ON K)
abbrev MH:Prop:=Cal ζ (Cxe ζ) 1 "check_neighbours" ["strips","place"] (UA mg Od K)
abbrev MQ:Prop:=Cal ζ CX0 1 "longer_paths" ["paths","left","wishes"] (UA mg Zji K)
abbrev L5:Prop:=Cal ζ (Cxe ζ) 1 "check_place" ["strips","place"] (UA mg Zkl K)
abbrev EO:Prop:=Cal ζ (Cxe ζ) 1 "without_wish" ["wishes","ahead","behind"] (UA mg Zdv K)
abbrev HR:Prop:=Cal ζ CX0 1 "sets_of" ["holders"] (UA mg Zh6 K)
abbrev LL:Prop:=Cal ζ CX0 1 "without" ["members","holder"] (UA mg Zg6 K)
abbrev HC:Prop:=Cal ζ CX0 1 "may_lie_last" ["members","holder","wishes"] (UA mg RR K)
abbrev EZ:Prop:=Cal ζ CX0 1 "may_lie_first" ["members","holder","wishes"] (UA mg Zmx K)
abbrev HQ:Prop:=Cam ζ CX0 1 (UU K (UM ζ) "strips") ["self"] (UA mg (Zea<|UM ζ) K)
abbrev HY:Prop:=Cam ζ CX0 1 (UU K (UM ζ) "wishes") ["self"] (UA mg (Zkd<|UM ζ) K)
abbrev Ho:Prop:=Cam ζ CX0 1 (UU K (UM ζ) "deeds") ["self"] (UA mg (O7<|UM ζ) K)
abbrev DN:Prop:=Cam ζ (Cxe ζ) 1 (UU K (UM ζ) "check_room") ["self"] (UA mg (Zkj<|UM ζ) K)
abbrev L7:Prop:=Cam ζ CX0 1 (UU K (UM ζ) "enter") ["self","deed","field","wishes"] (Pu.spW mg (Ziv<|UM ζ) K)
abbrev Gh:Prop:=Cam ζ (Cxe ζ) 1 (UU K (UM ζ) "take_back") ["self"] (Pu.spW mg (Zc6<|UM ζ) K)
abbrev E9:Prop:=Cal ζ CX0 1 "_law_at" ["_law_script","_law_k"] (UA mg Zgg K)
abbrev Iw:Prop:=Cal ζ CX0 1 "_law_whole" ["_law_found"] (UA mg Zkv K)
abbrev Gn:Prop:=Cal ζ CX0 1 "_law_mix" ["_law_cell","_law_place_here"] (UA mg Os K)
abbrev L9:Prop:=Cal ζ CX0 1 "_law_menu" ["_law_cell"] (UA mg Zcl K)
abbrev GO:Prop:=Cal ζ CX0 1 "_law_holder" ["_law_menu_here","_law_k"] (UA mg Zl7 K)
abbrev HW:Prop:=Cal ζ CX0 1 "_law_present" ["_law_strips"] (UA mg Zbw K)
abbrev Ij:Prop:=Cal ζ CX0 1 "_law_price" ["_law_strips","_law_order"] (UA mg Zkc K)
abbrev E7:Prop:=Cal ζ CX0 1 "_law_kept" ["_law_order","_law_wishes"] (UA mg Zmu K)
abbrev LZ:Prop:=Cal ζ CX0 1 "_law_orders" ["_law_holders"] (UA mg Zc9 K)
abbrev IV:Prop:=Cal ζ CX0 1 "_law_ring" ["_law_holders","_law_wishes"] (UA mg RE K)
abbrev Ei:Prop:=Cal ζ CX0 1 "_law_field_step" ["_law_strips","_law_deed_here"] (Pu.spS mg Zek K)
abbrev Mr:Prop:=Cal ζ CX0 1 "_law_wish_step" ["_law_wishes","_law_deed_here"] (Pu.spS mg Zlq K)
abbrev IR:Prop:=Cal ζ CX0 1 "_law_odd" ["_law_cell","_law_good"] (UA mg Zh0 K)
abbrev LW:Prop:=Cal ζ CX0 1 "_law_place" ["_law_cell","_law_strips"] (UA mg Zlw K)
abbrev DX:Prop:=Cal ζ CX0 1 "_law_width" ["_law_cell","_law_strips","_law_place_here"] (UA mg Zgw K)
abbrev IF:Prop:=Cal ζ (Cxe ζ) 2 "check_strips" ["strips"] (UA mg RQ K)
abbrev Gv:Prop:=Cal ζ CX0 2 "ring_from" ["least","holders","wishes"] (UA mg Zir K)
abbrev Gw:Prop:=Cal ζ (Cxe ζ) 2 "sold" ["strips","place","holder"] (UA mg Zco K)
abbrev Hi:Prop:=Cal ζ (Cxe ζ) 2 "parted" ["strips","place","width"] (UA mg OI K)
abbrev G7:Prop:=Cal ζ (Cxe ζ) 2 "united" ["strips","place"] (UA mg Zd2 K)
abbrev EF:Prop:=Cal ζ (Cxe ζ) 2 "with_wish" ["wishes","ahead","behind"] (UA mg R5 K)
abbrev LK:Prop:=Cal ζ CX0 2 "pair_costs" ["strips"] (UA mg Ob K)
abbrev Hy:Prop:=Cal ζ CX0 2 "cost_with_last" ["members","last","least","pairs"] (UA mg Zhb K)
abbrev D9:Prop:=Cal ζ CX0 2 "cost_with_first" ["members","first","least","pairs"] (UA mg Zmg K)
abbrev DK:Prop:=Cam ζ (Cxe ζ) 2 (UU K (UM ζ) "drop") ["self","ahead","behind"] (Pu.spW mg (Re<|UM ζ) K)
abbrev Lf:Prop:=Cal ζ CX0 2 "_law_draw" ["_law_script","_law_k"] (UA mg Zix K)
abbrev LO:Prop:=Cal ζ CX0 2 "_law_spare" ["_law_script"] (UA mg OD K)
abbrev IP:Prop:=Cal ζ CX0 2 "_law_row" ["_law_found","_law_due"] (UA mg Zbu K)
abbrev Hs:Prop:=Cal ζ CX0 2 "_law_tuples" ["_law_found","_law_due"] (UA mg Zeg K)
abbrev Gq:Prop:=Cal ζ CX0 2 "_law_deed_is" ["_law_found","_law_due"] (UA mg Zg8 K)
abbrev LX:Prop:=Cal ζ CX0 2 "_law_best" ["_law_strips","_law_wishes"] (UA mg O0 K)
abbrev Gu:Prop:=Cal ζ CX0 2 "_law_step" ["_law_now","_law_deed_here"] (Pu.spS mg Ze9 K)
abbrev El:Prop:=Cal ζ CX0 2 "_law_start" ["_law_script","_law_menu_here","_law_many"] (UA mg Zca K)
abbrev GI:Prop:=Cal ζ CX0 2 "_law_days" ["_law_script","_law_most"] (UA mg OP K)
abbrev EY:Prop:=Cal ζ CX0 2 "_law_pair" ["_law_cell","_law_menu_here"] (UA mg Zjr K)
abbrev M1:Prop:=Cal ζ CX0 3 "find_ring" ["holders","wishes"] (UA mg Zje K)
abbrev MC:Prop:=Cal ζ CX0 3 "least_costs" ["strips","wishes","pairs"] (UA mg Zim K)
abbrev M2:Prop:=Cam ζ (Cxe ζ) 3 (Mk K<|UM ζ) ["self","strips"] (Pu.spW mg (Zdf<|UM ζ) K)
abbrev GV:Prop:=Cam ζ (Cxe ζ) 3 (UU K (UM ζ) "sell") ["self","place","holder"] (Pu.spW mg (Zme<|UM ζ) K)
abbrev LR:Prop:=Cam ζ (Cxe ζ) 3 (UU K (UM ζ) "part") ["self","place","width"] (Pu.spW mg (Zh1<|UM ζ) K)
abbrev D8:Prop:=Cam ζ (Cxe ζ) 3 (UU K (UM ζ) "unite") ["self","place"] (Pu.spW mg (RU<|UM ζ) K)
abbrev DM:Prop:=Cam ζ (Cxe ζ) 3 (UU K (UM ζ) "wish") ["self","ahead","behind"] (Pu.spW mg (RX<|UM ζ) K)
abbrev Ik:Prop:=Cal ζ CX0 3 "_law_book_is" ["_law_found","_law_due"] (UA mg Zma K)
abbrev Iz:Prop:=Cal ζ CX0 3 "_law_opening" ["_law_script","_law_menu_here"] (UA mg Zl1 K)
abbrev DE:Prop:=Cal ζ CX0 3 "_law_deed" ["_law_cell","_law_menu_here","_law_now"] (UA mg Oi K)
abbrev LD:Prop:=Cal ζ CX0 4 "check_no_ring" ["strips","wishes"] (UA mg Zj4 K)
abbrev Lo:Prop:=Cam ζ CX0 4 (UU K (UM ζ) "ring") ["self"] (UA mg (RN<|UM ζ) K)
abbrev IT:Prop:=Cal ζ (Cxe ζ) 4 "_law_call" ["_law_village","_law_deed_here"] (Pu.spW mg (Zbt<|UM ζ) K)
abbrev Ez:Prop:=Cal ζ CX0 4 "_law_stands" ["_law_village","_law_past"] (UA mg (RK<|UM ζ) K)
abbrev Ly:Prop:=Cal ζ CX0 5 "cost_table" ["strips","wishes"] (UA mg Ze7 K)
abbrev Lk:Prop:=Cal ζ CX0 5 "best_order" ["strips","wishes"] (UA mg Zmi K)
abbrev HV:Prop:=Cal ζ CX0 5 "_law_go" ["_law_village","_law_past","_law_deed_here"] (Td mg (Zki<|UM ζ) K)
abbrev Iu:Prop:=Cal ζ CX0 6 "least_cost" ["strips","wishes"] (UA mg OU K)
abbrev IX:Prop:=Cam ζ CX0 6 (UU K (UM ζ) "order") ["self"] (UA mg (Oa<|UM ζ) K)
abbrev M4:Prop:=Cam ζ CX0 7 (UU K (UM ζ) "cost") ["self"] (UA mg (Zh8<|UM ζ) K)
abbrev EG:Prop:=Cal ζ CX0 8 "_law_best_is" ["_law_village","_law_now"] (UA mg (Zis<|UM ζ) K)
abbrev Zbi:Prop:=Cal ζ CX0 9 "law" ["_law_script"] (UA mg Io K)
end M
namespace M
open L2 Own Pu
def Pd(ps:List (ZS))(f:ZS)(i j:Nat)(p:ZS)(h:Int):Prop:=(p∈ps.take i/\h∈f)\/(ps[i]?=some p/\h∈f.take j)
structure LGs (ws:ZR) (l:Int) (P:ZS->Int->Prop) (ls:ZS) (lg:List (ZS)) (kvs:List (Key×V)):Prop where
 g:LG ws l P lg
 nd:(lg.map<|UE l).Nodup
 sub:∀h∈lg.map (UE l),h∈ls
 rc:∀h:Int,(UL kvs<|.inl h).isSome=true↔h∈lg.map (UE l)
 len:kvs.length<=lg.length
def LGs.len_le {n:ZR}{l:Int}{P:ZS->Int->Prop}{g:ZS}{h:List (ZS)}{f:List (Key×V)} (L:LGs n l P g h f):h.length<=g.length:=by
 have:=TZ L.nd L.sub
 rwa[Wt]at this
def LG.congr {f:ZR}{l:Int}{P n:ZS->Int->Prop}{g:List (ZS)} (h:∀p x,P p x↔n p x) (G:LG f l P g):LG f l n g:=
 ⟨λq hq=>let ⟨p,x,a,b⟩:=G.mem q hq;⟨p,x,(h p x).mp a,b⟩,G.srt,λp x a b=>G.has p x ((h p x).mpr a) b⟩
def LGs.congr {n:ZR}{l:Int}{P s:ZS->Int->Prop}{o:ZS}{r:List (ZS)}{f:List (Key×V)} (h:∀p x,P p x↔s p x) (G:LGs n l P o r f):LGs n l s o r f:=⟨G.g.congr h,G.nd,G.sub,G.rc,G.len⟩
def LGs.start {ps:List (ZS)}{f:ZS}{g:ZR}{l:Int}:LGs g l (Pd ps f 0 0) f [] []:=by
 refine⟨⟨(λq hq=>by cases hq),List.Pairwise.nil,λp h a=>?_⟩,Vd,(λh n=>by cases n),(λh=>by simp[UL]),W5 _⟩;rcases a with⟨a,_⟩|⟨_,a⟩
 ·rw[Q2]at a;cases a
 ·rw[Q2]at a;cases a
def LGs.skip {ps:List (ZS)}{f:ZS}{u:ZR}{l:Int}{A:List (ZS)}{n:List (Key×V)}{i j:Nat}{p:ZS}{h:Int} (w:ps[i]?=some p) (J:f[j]?=some h) (hs:ps.Pairwise sl)
  (G:LGs u l (Pd ps f i j) f A n) (no:(UL n<|.inl h).isSome=true\/(UE l p,h)∉u):LGs u l (Pd ps f i (j+1)) f A n:=by
 obtain⟨E,L⟩:=WH.mp J;obtain⟨H,ei⟩:=WH.mp w;have y:∀x,x∈f.take (j+1)↔x∈f.take j\/x=h:=λx=>by rw[WG E,WC,Wx,L]
 refine⟨⟨λq hq=>?_,G.g.srt,λs x a b=>?_⟩,G.nd,G.sub,G.rc,G.len⟩
 ·obtain⟨s,x,a,b⟩:=G.g.mem q hq;exact⟨s,x,a.imp id λz=>⟨z.1,(y x).mpr (.inl z.2)⟩,b⟩
 ·rcases a with a|⟨a1,a2⟩
  ·exact G.g.has s x (.inl a) b
  ·rcases(y x).mp a2 with a2|rfl
   ·exact G.g.has s x (.inr ⟨a1,a2⟩) b
   ·rw[w]at a1;cases a1
    rcases no with no|no
    ·obtain⟨q,hq,e⟩:=WZ.mp ((G.rc x).mp no);obtain⟨v,B,o,rfl,M⟩:=G.g.mem q hq;have ex:B=x:=by rw[Kw]at e;exact e
     subst ex;refine⟨v,hq,?_⟩;rcases o with⟨o,_⟩|⟨o,_⟩
     ·obtain⟨m,C,r⟩:=WY.mp o;rw[WS]at C;rw[Q3]at r
      have:=WU.mp hs m i (by lia) H (by lia)
      rw[r,ei]at this;exact .inr this
     ·rw[w]at o;cases o
      exact .inl rfl
    ·exact absurd b no
def LGs.put {ps:List (ZS)}{r:ZS}{v:ZR}{l:Int}{y:List (ZS)}{s:List (Key×V)}{i j:Nat}{p:ZS}{h:Int} (A:ps[i]?=some p) (Y:r[j]?=some h) (hs:ps.Pairwise sl) (T:r.Pairwise (· < ·))
  (G:LGs v l (Pd ps r i j) r y s) (new:(UL s<|.inl h).isSome=false) (hw:(UE l p,h)∈v):LGs v l (Pd ps r i (j+1)) r (y++[p++[h]]) (putK s (.inl h)<|.bl true):=by
 obtain⟨J,L⟩:=WH.mp Y;obtain⟨U,ei⟩:=WH.mp A;have B:∀x,x∈r.take (j+1)↔x∈r.take j\/x=h:=λx=>by rw[WG J,WC,Wx,L]
 have C:UE l (p++[h])=h:=by rw[Kw];rfl
 have M:h∉y.map (UE l):=λz=>by rw[(G.rc h).mpr z]at new;cases new
 refine⟨⟨λq hq=>?_,?_,λf x a b=>?_⟩,?_,λx hx=>?_,λx=>?_,?_⟩
 ·rcases WC.mp hq with hq|hq
  ·obtain⟨f,x,a,b⟩:=G.g.mem q hq;exact⟨f,x,a.imp id λz=>⟨z.1,(B x).mpr (.inl z.2)⟩,b⟩
  ·rw[Wx.mp hq];exact⟨p,h,.inr ⟨A,(B h).mpr (.inr rfl)⟩,rfl,hw⟩
 ·refine Va.mpr ⟨G.g.srt,by simp,λq hq q' E=>?_⟩;rw[Wx.mp E];obtain⟨f,x,a,rfl,b⟩:=G.g.mem q hq;rcases a with⟨a,_⟩|⟨a1,a2⟩
  ·obtain⟨m,H,o⟩:=WY.mp a;rw[WS]at H;rw[Q3]at o
   have:=WU.mp hs m i (by lia) U (by lia)
   rw[o,ei]at this;exact SQ x h this
  ·rw[A]at a1;cases a1
   obtain⟨m,H,o⟩:=WY.mp a2;rw[WS]at H;rw[Q3]at o
   have:=WU.mp T m j (by lia) J (by lia)
   rw[o,L]at this;exact FX this
 ·have u:∀f x,Pd ps r i j f x->(UE l f,x)∈v->∃n,n++[x]∈y++[p++[h]]/\(n=f\/sl n f):=λf x a b=>let ⟨n,Q,N⟩:=G.g.has f x a b;⟨n,Qr _ Q,N⟩;rcases a with a|⟨a1,a2⟩
  ·exact u f x (.inl a) b
  ·rcases(B x).mp a2 with a2|rfl
   ·exact u f x (.inr ⟨a1,a2⟩) b
   ·rw[A]at a1;cases a1
    exact⟨p,WR _ (Wx.mpr rfl),.inl rfl⟩
 ·rw[WI,Vq,C];refine Qm.mpr ⟨G.nd,by simp,λa ha b hb=>?_⟩;rw[Wx.mp hb];rintro rfl;exact M ha
 ·rw[WI,Vq,C]at hx;rcases WC.mp hx with hx|hx
  ·exact G.sub x hx
  ·rw[Wx.mp hx,←L];exact WL J
 ·rw[WI,Vq,C,Ba,WC,Wx];by_cases e:x=h
  ·subst e;rw[W3 rfl];exact⟨λ_=>.inr rfl,λ_=>rfl⟩
  ·rw[W2 (λz=>e (Sum.inl.inj z)),G.rc];exact⟨.inl,λz=>z.elim id λw=>absurd w e⟩
 ·rw[W7]
  have:=Be s (.inl h) (.bl true)
  have:=G.len
  simp;lia
def Zcq(hs r:ZS):(hs.filter λh=>!decide (h∈r)).map (λh=>D.lst (r.map D.int++[D.int h]))=(nextM hs r).map ilD:=by
 unfold nextM ilD;rw[Qi];apply Jh;intro h _;show _=D.lst ((r++[h]).map D.int);rw[WI];rfl
def Zev{hs:ZS}{rows:List (ZS)}{j:Nat}(h:j<rows.length):((rows.take (j+1)).flatMap (nextM hs))=(rows.take j).flatMap (nextM hs)++nextM hs rows[j]:=by
 rw[WG h,List.flatMap_append];simp
noncomputable def P2:Nat->Nat
 | 0=>1
 |k+1=>P2 k*(10-k)
def GL:∀k,P2 k<=3628800:=by
 have z:∀k,P2 (11+k)=0:=by
  intro k
  induction k with
  |zero=>decide
  |succ k f=>show P2 (11+k)*_=0;rw[f,Nat.zero_mul]
 intro k;by_cases h:k<11
 ·have:∀i:Fin 11,P2 i.1<=3628800:=by decide
  exact this ⟨k,h⟩
 ·have:=z (k-11)
  rw[show 11+(k-11)=k by lia]at this;lia
def Zmq{hs r:ZS}(f:hs.Nodup)(p:hs.length<=10)(o:r.Nodup)(n:∀x∈r,x∈hs):(nextM hs r).length<=10-r.length:=by
 unfold nextM;rw[Wt]
 have:=TZ (Qm.mpr ⟨f.filter (λh=>!decide (h∈r)),o,λa l b g e=>by
  have:=(WT.mp l).2
  rw[e,Ww g]at this;cases this⟩) (ys:=hs) λx hx=>by
  rcases WC.mp hx with hx|hx
  ·exact(WT.mp hx).1
  ·exact n x hx
 rw[W7]at this;lia
theorem AH{hs:ZS}(g:hs.Nodup)(l:hs.length<=10){k:Nat}:∀f:List (ZS),(∀r∈f,r.length=k/\r.Nodup/\∀x∈r,x∈hs)->(f.flatMap<|nextM hs).length<=f.length*(10-k)
 |[],_=>by simp
 |r::f,h=>by
  obtain⟨p,o,n⟩:=h r WW;have a:=Zmq g l o n;have b:=AH g l f λx hx=>h x (WK _ hx);rw[List.flatMap_cons,W7,WM,Nat.add_mul];rw[p]at a;lia
theorem AC{hs:ZS}(f:hs.Nodup)(g:hs.length<=10):∀k,(Xa hs k).length<=P2 k
 | 0=>by unfold Xa;simp[P2]
 |k+1=>by
  show((Xa hs k).flatMap (nextM hs)).length<=P2 k*(10-k);exact W9 (AH f g _ λr h=>rows_mem.mp h) (Jf _<|AC f g k)
noncomputable def eL(w:ZS):D:=.lst (w.map D.int)
def ID(hs:ZS)(f:ZR)(k:Nat)(w:ZS):Prop:=∃l t,w=l::t/\l∈hs/\Path (Gr hs l) f l t/\(l::t).Nodup/\t.length=k
structure TB (hs:ZS) (ws:ZR) (k:Nat) (rows:List (ZS)):Prop where
 mem:∀w,w∈rows↔ID hs ws k w
 srt:rows.Pairwise sl
def NoC(hs:ZS)(f:ZR)(k:Nat):Prop:=∀l t,l∈hs->X1 hs f l t->(l::t).Nodup->t.length<=k->False
def SO(f:ZR)(w:ZS):Prop:=∃l t,w=l::t/\(UE l t,l)∈f
section
variable {hs:ZS}{ws:ZR}{k:Nat}{rows:List (ZS)}{r:ZS}
def Zgs{l:Int}{t:ZS}(h:l∈hs)(f:Path (Gr hs l) ws l t)(g:(l::t).Nodup)(n:k<=t.length):ID hs ws k (l::t.take k):=by
 have e:t=t.take k++t.drop k:=(List.take_append_drop k t).symm;rw[e]at f;refine⟨l,t.take k,rfl,h,(path_app.mp f).1,g.sublist ?_,by rw[WS];lia⟩;exact(QX k t).cons₂ l
def NoC.next (L:TB hs ws (k+1) rows) (h:∀w∈rows,¬SO ws w) (N:NoC hs ws k):NoC hs ws (k+1):=λl t n f g o=>by
 by_cases c:t.length<=k
 ·exact N l t n f g c
 ·exact h _ ((L.mem _).mpr ⟨l,t,rfl,n,f.1,g,by lia⟩) ⟨l,t,rfl,f.2⟩
def NoC.zero (f:∀q∈ws,q.1≠q.2):NoC hs ws 0:=λl t o g n h=>by
 have:t=[]:=Q1.mp (by lia)
 subst this;exact f _ g.2 rfl
def RB(n:∀q∈ws,q.1≠q.2)(F:FR hs ws r)(L:TB hs ws k [])(N:NoC hs ws k):r=[]:=by
 rcases F with⟨e,_⟩|⟨l,t,rfl,f,h,o⟩
 ·exact e
 ·have R:=A1 n f h λu g=>by rcases o l f u g with z|⟨z,_⟩<;>lia
  by_cases c:t.length<=k
  ·exact(N l t f h R.nodup c).elim
  ·have:=(L.mem _).mpr (Zgs (k:=k) f h.1 R.nodup<|by lia)
   cases this
def IB{a b:ZS}(g:sl a b)(f:sl b a):False:=FD (BG g f)
def Zdj(J:∀q∈ws,q.1≠q.2)(F:FR hs ws r)(L:TB hs ws (k+1) rows)(N:NoC hs ws k){i:Nat}(E:i<rows.length)(hc:SO ws rows[i])(Y:∀w∈rows.take i,¬SO ws w):r=rows[i]:=by
 obtain⟨m,u,G,y,Q,hn,C⟩:=(L.mem rows[i]).mp (WL E);obtain⟨m',u',o,A⟩:=hc;rw[G]at o;cases o
 have h:X1 hs ws m u:=⟨Q,A⟩;rcases F with⟨_,F⟩|⟨l,t,rfl,s,g,f⟩
 ·exact absurd h (F m y u)
 ·have R:=A1 J s g λv H=>by rcases f l s v H with z|⟨z,_⟩<;>lia
  have ht:¬t.length<=k:=λz=>N l t s g R.nodup z;have x:t.length=k+1:=by rcases f m y u h with z|⟨z,_⟩<;>lia
  have M:(l::t)∈rows:=(L.mem _).mpr ⟨l,t,rfl,s,g.1,R.nodup,x⟩;obtain⟨j,T,B⟩:=WY.mp M;have U:i<=j:=Nat.le_of_not_lt λz=>Y (l::t) (WY.mpr ⟨j,by rw[WS];lia,by rw[Q3,B]⟩) ⟨l,t,rfl,g.2⟩;by_cases e:i=j
  ·subst e;exact B.symm
  ·have p:=WU.mp L.srt i j E T (by lia);rw[G,B]at p;exfalso;rcases f m y u h with z|⟨_,z⟩
   ·lia
   ·rcases z with z|⟨z,n⟩
    ·exact IB p (.inl z)
    ·subst z;rcases n with n|n
     ·subst n;exact FD p
     ·exact IB p (sl_cons.mpr n)
end
def Okh(f:ZR)(l:Int)(t:ZS)(h:Int):Prop:=l<h/\¬h∈l::t/\(UE l t,h)∈f
def PdR(rows:List (ZS))(ns:ZS)(i j:Nat)(w:ZS)(h:Int):Prop:=(w∈rows.take i/\h∈ns)\/(rows[i]?=some w/\h∈ns.take j)
noncomputable def Pk(o:Option (ZS))(h:Int):Bool:=match o with|some w=>decide (¬h∈w)|none=>true
structure GRs (ws:ZR) (rows:List (ZS)) (ns:ZS) (i j c:Nat) (g:List (ZS)):Prop where
 mem:∀q,q∈g↔∃l t h,PdR rows ns i j (l::t) h/\Okh ws l t h/\q=l::t++[h]
 srt:g.Pairwise sl
 len:g.length<=i*c+((ns.take j).filter (Pk rows[i]?)).length
section
variable {ws:ZR}{rows:List (ZS)}{ns:ZS}{i j c:Nat}{g:List (ZS)}{l h:Int}{t:ZS}
def GRs.start:GRs ws rows ns 0 0 c []:=by
 refine⟨λq=>⟨(λz=>by cases z),?_⟩,List.Pairwise.nil,by simp⟩;rintro⟨l,t,h,z|z,_⟩
 ·have:=z.1;rw[Q2]at this;cases this
 ·have:=z.2;rw[Q2]at this;cases this
def GRs.take_mem (n:ns[j]?=some h) (x:Int):x∈ns.take (j+1)↔x∈ns.take j\/x=h:=by
 obtain⟨f,o⟩:=WH.mp n;rw[WG f,WC,Wx,o]
def GRs.skip (hw:rows[i]?=some (l::t)) (v:ns[j]?=some h) (G:GRs ws rows ns i j c g) (no:¬Okh ws l t h):GRs ws rows ns i (j+1) c g:=by
 have u:=GRs.take_mem v;obtain⟨w,A⟩:=WH.mp v;refine⟨λq=>(G.mem q).trans ⟨?_,?_⟩,G.srt,W9 G.len ?_⟩
 ·rintro⟨o,n,x,z,f,p⟩;exact⟨o,n,x,z.imp id λy=>⟨y.1,(u x).mpr (.inl y.2)⟩,f,p⟩
 ·rintro⟨o,n,x,z|⟨s,r⟩,f,p⟩
  ·exact⟨o,n,x,.inl z,f,p⟩
  ·rcases(u x).mp r with r|rfl
   ·exact⟨o,n,x,.inr ⟨s,r⟩,f,p⟩
   ·rw[hw]at s;cases s
    exact absurd f no
 ·rw[WG w,Jq,W7];lia
def GRs.put (hw:rows[i]?=some (l::t)) (C:ns[j]?=some h) (hs:rows.Pairwise sl) (H:ns.Pairwise (· < ·)) (G:GRs ws rows ns i j c g) (ok:Okh ws l t h):GRs ws rows ns i (j+1) c (g++[l::t++[h]]):=by
 have v:=GRs.take_mem C;obtain⟨B,E⟩:=WH.mp C;obtain⟨J,ei⟩:=WH.mp hw;refine⟨λq=>?_,Va.mpr ⟨G.srt,by simp,λq hq L w=>?_⟩,?_⟩
 ·rw[WC,Wx,G.mem q];constructor
  ·rintro(⟨r,p,x,z,u,s⟩|rfl)
   ·exact⟨r,p,x,z.imp id λy=>⟨y.1,(v x).mpr (.inl y.2)⟩,u,s⟩
   ·exact⟨l,t,h,.inr ⟨hw,(v h).mpr (.inr rfl)⟩,ok,rfl⟩
  ·rintro⟨r,p,x,z|⟨n,o⟩,u,s⟩
   ·exact .inl ⟨r,p,x,.inl z,u,s⟩
   ·rcases(v x).mp o with o|rfl
    ·exact .inl ⟨r,p,x,.inr ⟨n,o⟩,u,s⟩
    ·rw[hw]at n;cases n
     exact .inr s
 ·rw[Wx.mp w];obtain⟨r,p,x,z,u,rfl⟩:=(G.mem q).mp hq;rcases z with⟨z,_⟩|⟨n,o⟩
  ·obtain⟨m,A,f⟩:=WY.mp z;rw[WS]at A;rw[Q3]at f
   have:=WU.mp hs m i (by lia) J (by lia)
   rw[f,ei]at this;exact SQ x h this
  ·rw[hw]at n;cases n
   obtain⟨m,A,f⟩:=WY.mp o;rw[WS]at A;rw[Q3]at f
   have:=WU.mp H m j (by lia) B (by lia)
   rw[f,E]at this;exact FX this
 ·have e:(ns.take (j+1)).filter (Pk rows[i]?)=(ns.take j).filter (Pk rows[i]?)++[h]:=by
   rw[WG B,Jq,E]
   have:Pk rows[i]? h=true:=by
    rw[hw];exact Ww ok.2.1
   rw[VI this,List.filter_nil]
  rw[e,W7,W7]
  have:=G.len
  simp;lia
def Zjg{w:ZS}(n:ns.Nodup)(hw:w.Nodup)(f:∀x∈w,x∈ns):(ns.filter<|Pk<|some w).length+w.length<=ns.length:=by
 have:(ns.filter (Pk<|some w)++w).length<=ns.length:=by
  refine TZ (Qm.mpr ⟨n.filter _,hw,λa p b o=>?_⟩) λx hx=>?_
  ·rintro rfl
   have:=(WT.mp p).2
   exact Wy this o
  ·rcases WC.mp hx with hx|hx
   ·exact(WT.mp hx).1
   ·exact f x hx
 rwa[W7]at this
def GRs.row (hw:rows[i]?=some (l::t)) (v:(ns.filter<|Pk<|some (l::t)).length<=c) (G:GRs ws rows ns i ns.length c g):GRs ws rows ns (i+1) 0 c g:=by
 obtain⟨u,ei⟩:=WH.mp hw;refine⟨λq=>(G.mem q).trans ⟨?_,?_⟩,G.srt,?_⟩
 ·rintro⟨o,n,x,z,r,p⟩;refine⟨o,n,x,.inl ?_,r,p⟩;rw[WG u,WC,Wx,ei];rcases z with z|⟨f,s⟩
  ·exact⟨.inl z.1,z.2⟩
  ·rw[hw]at f;rw[Qe]at s;exact⟨.inr (WB f).symm,s⟩
 ·rintro⟨o,n,x,z|⟨_,z⟩,r,p⟩
  ·rw[WG u,WC,Wx,ei]at z;rcases z.1 with f|f
   ·exact⟨o,n,x,.inl ⟨f,z.2⟩,r,p⟩
   ·exact⟨o,n,x,.inr ⟨by rw[hw,f],by rw[Qe];exact z.2⟩,r,p⟩
  ·rw[Q2]at z;cases z
 ·have:=G.len
  rw[Qe,hw]at this;rw[Nat.succ_mul];simp;lia
def GRs.all {hs:ZS}{k:Nat} (w:∀x,x∈ns↔x∈hs) (L:TB hs ws k rows) (G:GRs ws rows ns rows.length 0 c g):TB hs ws (k+1) g:=by
 refine⟨λq=>(G.mem q).trans ⟨?_,?_⟩,G.srt⟩
 ·rintro⟨l,t,x,z|⟨_,z⟩,p,rfl⟩
  ·rw[Qe]at z;obtain⟨N,J,e,u,r,n,f⟩:=(L.mem _).mp z.1;cases e
   refine⟨l,t++[x],rfl,u,path_app.mpr ⟨r,⟨(w x).mp z.2,p.1⟩,p.2.2,trivial⟩,?_,by simp[f]⟩;rw[←QP];refine Qm.mpr ⟨n,by simp,λa H b E=>?_⟩;rw[Wx.mp E];rintro rfl;exact p.2.1 H
  ·rw[Q2]at z;cases z
 ·rintro⟨l,t,rfl,u,r,n,f⟩;have o:t≠[]:=λz=>by rw[z]at f;cases f
  have v:t=t.dropLast++[t.getLast o]:=(QC o).symm;generalize t.getLast o=x at v;generalize t.dropLast=s at v;subst v;obtain⟨A,p2,y,_⟩:=path_app.mp r;rw[←QP]at n;obtain⟨C,M,B⟩:=Qm.mp n;refine⟨l,s,x,.inl ⟨?_,(w x).mpr p2.1⟩,⟨p2.2,λz=>B x z x (Wx.mpr rfl) rfl,y⟩,rfl⟩;rw[Qe];exact(L.mem _).mpr ⟨l,s,rfl,u,A,C,by simpa using f⟩
end
noncomputable def fall:Nat->Nat
 | 0=>10
 |k+1=>fall k*(9-k)
def R4:∀k,fall k<=3628800:=by
 have z:∀k,fall (10+k)=0:=by
  intro k
  induction k with
  |zero=>decide
  |succ k f=>show fall (10+k)*_=0;rw[f,Nat.zero_mul]
 intro k;by_cases h:k<10
 ·have:∀k,k<10->fall k<=3628800:=by decide
  exact this k h
 ·have:=z (k-10)
  rw[show 10+(k-10)=k by lia]at this;lia
noncomputable def BH(f:List (Option Pu.S)):Nat:=match (f[2]?:Option (Option Pu.S))with
 |some (some<|Pu.S.sh<|Pu.D.lst (Pu.D.lst g::_))=>20-g.length
 |_=>0
def E3(l:Int)(t:ZS):atI ((l::t).map D.int) (-1)=some (.int<|UE l t):=Bi l t
theorem DA{f:Type}{c:f->Bool}:∀{xs:List f}{x:f}{r:List f},xs.filter c=x::r->∃i,∃o:i<xs.length,xs[i]=x/\c x=true/\∀j (l:j<xs.length),j<i->c xs[j]=false
 |[],x,r,h=>by cases h
 |y::v,x,r,h=>by
  by_cases g:c y=true
  ·rw[VI g]at h;cases h
   exact⟨0,by simp,rfl,g,λj _ l=>by lia⟩
  ·rw[List.filter_cons_of_neg g]at h;obtain⟨i,o,u,s,p⟩:=DA h;refine⟨i+1,by simp;lia,by simpa using u,s,λj l n=>?_⟩;cases j with
   |zero=>simpa using g
   |succ j=>simpa using p j (by simpa using l) (by lia)
def En(c:Int->Bool):∀f:ZS,f.filterMap (λq=>if c q=true then some (D.int q)else none)=(f.filter c).map D.int:=KP c D.int
theorem DH(ps:ZR):∀o:ZS,oc (λx y=>pcM ps x y ps.length) o=KD ps ps.length o
 |[]=>rfl
 |a::r=>by
  unfold oc KD;rw[DH ps r]
def OA{g:ZR}{o:ZS}(l:o.Nodup)(h:∀q∈g,Kx o q=false):Keeps g o:=by
 unfold Keeps;rw[WU];intro i j p n f hw
 have:=h _ hw
 unfold Kx at this;rw[l.idxOf_getElem i p,l.idxOf_getElem j n,Ww (WL p),Ww (WL n),Ww f]at this;cases this
def Cm{g:ZR}{o:ZS}(n:Keeps g o):∀q∈g,Kx o q=false:=λq hq=>by
 cases f:Kx o q with
 |false=>rfl
 |true=>
  unfold Kx at f;rw[Ql,Ql]at f;have s:=Wy f.1;have r:=Wy f.2.1;have p:=Wy f.2.2;have l:=VD.mpr s;have h:=VD.mpr r
  have:=WU.mp n _ _ h l p
  rw[Jo h,Jo l]at this;exact absurd hq this
noncomputable def S9(ps:ZR):Option (ZS)->List D
 |none=>[]
 |some q=>[.int (KS ps q ps.length),.lst (q.map D.int)]
def Oc(ps:ZR)(b:Option (ZS)):(S9 ps b).isEmpty=decide (b=none):=by cases b<;>simp[S9]
def FRi(hs:ZS)(f:ZR)(ns:ZS)(r:ZS):Prop:=
 (r=[]/\∀l∈ns,∀t,¬X1 hs f l t)\/∃l t,r=l::t/\l∈ns/\X1 hs f l t/\∀m∈ns,∀u,X1 hs f m u->t.length<u.length\/(t.length=u.length/\(l<m\/(l=m/\(t=u\/sl t u))))
def FRi.keep {hs:ZS}{o:ZR}{ns r f:ZS}{l:Int} (h:FRi hs o ns r) (x:∀m∈ns,m<l) (g:RF hs o l f) (c:f=[]\/(r≠[]/\r.length<=f.length)):FRi hs o (ns++[l]) r:=by
 rcases h with⟨rfl,h⟩|⟨v,t,rfl,w,A,y⟩
 ·rcases c with rfl|⟨c,_⟩
  ·rcases g with⟨_,g⟩|⟨t,e,_⟩
   ·refine .inl ⟨rfl,λm hm=>?_⟩;rcases WC.mp hm with hm|hm
    ·exact h m hm
    ·rw[Wx.mp hm];exact g
   ·cases e
  ·exact absurd rfl c
 ·refine .inr ⟨v,t,rfl,Qr _ w,A,λm hm u n=>?_⟩;rcases WC.mp hm with hm|hm
  ·exact y m hm u n
  ·rw[Wx.mp hm]at n ⊢;rcases g with⟨rfl,g⟩|⟨s,rfl,_,g⟩
   ·exact absurd n (g u)
   ·rcases c with c|⟨_,c⟩
    ·cases c
    ·have p:=x v w;simp at c;rcases g u n with z|⟨z,_⟩
     ·exact .inl (by lia)
     ·by_cases e:t.length<u.length
      ·exact .inl e
      ·exact .inr ⟨by lia,.inl p⟩
def FRi.take {hs:ZS}{n:ZR}{ns r f:ZS}{l:Int} (h:FRi hs n ns r) (y:∀m∈ns,m<l) (p:RF hs n l f) (c:f≠[]/\(r=[]\/f.length<r.length)):FRi hs n (ns++[l]) f:=by
 rcases p with⟨rfl,_⟩|⟨s,rfl,f1,w⟩
 ·exact absurd rfl c.1
 ·refine .inr ⟨l,s,rfl,WR _ (Wx.mpr rfl),f1,λm hm u g=>?_⟩;rcases WC.mp hm with hm|hm
  ·rcases h with⟨rfl,h⟩|⟨x,t,rfl,B,A,v⟩
   ·exact absurd g (h m hm u)
   ·rcases c.2 with c|c
    ·cases c
    ·simp at c;rcases v m hm u g with z|⟨z,_⟩
     ·exact .inl (by lia)
     ·exact .inl (by lia)
  ·rw[Wx.mp hm]at g ⊢;rcases w u g with z|⟨z,o⟩
   ·exact .inl z
   ·exact .inr ⟨z,.inr ⟨rfl,o⟩⟩
def FRi.all {hs:ZS}{g:ZR}{ns r:ZS} (f:∀z,z∈ns↔z∈hs) (h:FRi hs g ns r):FR hs g r:=by
 rcases h with⟨rfl,h⟩|⟨l,t,rfl,u,s,p⟩
 ·exact .inl ⟨rfl,λl o=>h l ((f l).mpr o)⟩
 ·exact .inr ⟨l,t,rfl,(f l).mp u,s,λm n=>p m ((f m).mpr n)⟩
noncomputable def Zau(f:List (Option Pu.S)):Nat:=match f[4]? with
 |some (some<|Pu.S.sh<|Pu.D.tup g)=>g.length
 |_=>0
def Bo{f:Type}{xs:List f}{x:f}(h:xs[xs.length-1]?=some x):atI xs (-1)=some x:=by
 have g:=(WH.mp h).1;unfold atI ixN;rw[W2 (by lia),W3 (by lia)];show xs[_]?=some x;rw[←h];congr 1;lia
noncomputable abbrev twoV(C l x y b1 s r p o n:Addr)(f g:ZR)(h k:Xo):O:=.vls l C vF [(x,[(b1,(bkH h).map dD),(s,(fsH f h).map plD),(r,(wsH h).map plD)]),(y,[(p,(bkH k).map dD),(o,(fsH g k).map plD),(n,(wsH k).map plD)])]
noncomputable abbrev twoP(p a b:Addr)(f g:ZR)(h k:Xo):O:=.nsl p [(a,Xp f h),(b,Xp g k)]
end M
namespace T
open L2 Own M
section
variable {P:Program}{w:World}{K:ZQ}{mg:ZU}{base:Heap}
def Zb6(G:Glob K mg)(D:Def K mg "holders_of" Ft ["strips"])
  : Callee P w K mg base CX0 1 "holders_of" ["strips"] (Hm K):=by
 refine D.ok (k:=0) Zdu (λu H Q E h=>?_) (λf cdv A outer s H u Q E hr h=>?_)
 ·obtain⟨l,g,rfl,⟨u,y,v⟩,L,J,q⟩:=h;rfl
 ·obtain⟨l,g,rfl,⟨u,y,v⟩,L,J,q⟩:=h;refine⟨_,(SY<|X4<|Xw (L6 rfl) (by rfl) G.Zh boot_sorted<|Xr (KU (RV rfl) (by rfl) G.ZO boot_set<|Xr (Dw (N':=["holder","width"]) (φ:=[none,none]) rfl (Np.of<|by rfl) (LU<|pv 0) (λ_ _ _ _ _=>⟨(SS (K:=K) (n:=2) rfl<|TC (CY (i:=0) (show(["holder","width"]:ZZ).Nodup from by decide +kernel) rfl (by first|exact Or.inl rfl|exact Or.inr rfl))<|TC (CY (i:=1) (show(["holder","width"]:ZZ).Nodup from by decide +kernel) rfl (by first|exact Or.inl rfl|exact Or.inr rfl)) SL),PZ,(pv 0)⟩)) Xv) Xv),?_⟩
  have e1:=v.1;refine⟨_,rfl,l,rfl,⟨_,SqL.of y⟩,λD B=>Zb4 (ds:=g) (λd=>some (V.int d.1)) (SqL.of y) e1 B (W9 J<|by decide) (λi x d H2 hx hd S k Y=>?_) ?_⟩
  ·obtain⟨d',p,a,rfl,ha⟩:=v.get hx;rw[hd]at p;cases p
   exact⟨a,_,rfl,SqT.of (S _ _ ha),rfl,_,_,rfl,_,_,rfl,rfl,.skip (.skip .refl),_,rfl,Y⟩
  ·have em:g.filterMap (λd=>some (V.int d.1))=(g.map (·.1)).map V.int:=by
    rw[Vr,Qi];rfl
   rw[em];have S1:Same H (upd H D<|.lst ((g.map (·.1)).map V.int)):=Xq B;refine⟨D,g.map (·.1),rfl,SqL.of UZ,by rw[Wt];lia,λz N=>?_⟩;have M:=Own.Same.new (o:=T1 w z ((g.map (·.1)).foldl SetR.X7 [])) S1 N;refine⟨z,_,rfl,?_,.inr UZ,λr ns C U T=>?_⟩
   ·have:=Eo (g.map (·.1)) []
    rw[Wt]at this;simp at this ⊢;lia
   ·rw[Zk4 L U T];exact q r _ (M.free C) (Own.Same.new M C) UZ
end
open Pu
section
variable {P:Program}{w:World}{K:ZQ}{mg:ZU}{base:Heap} (ζ:Fv P w K mg base)
variable (G:Glob K mg) (Yn:Mp ζ) (Y3:Mw ζ) (Yk:Zff ζ) (Y4:IY ζ) (Y5:MH ζ) (Y6:MQ ζ) (Yt:L5 ζ) (Y7:EO ζ) (Y8:HR ζ) (Yq:LL ζ) (YA:HC ζ) (YB:EZ ζ) (Yg:HQ ζ) (Yh:HY ζ) (YC:Ho ζ) (Yl:DN ζ) (Ym:L7 ζ) (YD:Gh ζ) (Yf:E9 ζ) (Yo:Iw ζ) (Yi:Gn ζ) (YE:L9 ζ) (Yj:GO ζ) (Yu:HW ζ) (YF:Ij ζ) (YG:E7 ζ) (YH:LZ ζ) (YI:IV ζ) (YJ:Ei ζ) (YK:Mr ζ) (Yr:IR ζ) (YL:LW ζ) (YM:DX ζ) (YN:IF ζ) (YO:Gv ζ) (YQ:Gw ζ) (YR:Hi ζ) (YS:G7 ζ) (YT:EF ζ) (Yv:LK ζ) (YU:Hy ζ) (YV:D9 ζ) (YW:DK ζ) (YX:Lf ζ) (YY:LO ζ) (Yp:IP ζ) (Yw:Hs ζ) (YZ:Gq ζ) (Wa:LX ζ) (Wb:Gu ζ) (Wc:El ζ) (Wd:GI ζ) (Yx:EY ζ) (Yy:M1 ζ) (Yz:MC ζ) (Ys:M2 ζ) (We:GV ζ) (Wf:LR ζ) (Wg:D8 ζ) (Wh:DM ζ) (Wi:Ik ζ) (Wj:Iz ζ) (Wk:DE ζ) (Y0:LD ζ) (Wl:Lo ζ) (Wm:IT ζ) (Y1:Ez ζ) (Wn:Ly ζ) (Wo:Lk ζ) (Y2:HV ζ) (Wp:Iu ζ) (Wq:IX ζ) (Wr:M4 ζ) (Ws:EG ζ)
def RL(p:Def K mg "check_holder" Dt ["holder"])
  : Mp ζ:=by
 refine p.fy OM (λr n=>(b1<|sI (tp<|wo (tc Kk Ko (xv 0) xi)<|wO<|tc Ka XW (xv 0)<|xe (ExcR.Kz G.Zw) UB) (b1<|sQ G.Z4 G.Z3 ExcR.Km<|a1<|xe (ExcR.T6<|ExcR.KO<|ExcR.Ti (ExcR.Kz G.Zw) ExcR.T4)<|Tp<|KA<|Te UB T5) b0)) (.a ?_)
 ·rintro u R X ⟨h,rfl,f⟩;refine⟨rfl,?_⟩;unfold Ni at f;refine U8 (λg=>Xs ?_) (λg=>?_)
  ·rw[W2 (by have:=Wy g;lia)]at f;exact⟨by decide,by decide,by decide,by decide,by simp,f⟩
  ·have s:¬h<1:=λz=>g (Ww z);refine U8 (λl=>?_) (λl=>?_)
   ·rw[W2 (by have:=Wy l;lia)]at f;exact⟨by decide,by decide,by decide,by decide,by simp,f⟩
   ·have o:¬10<h:=λz=>l (Ww z);rw[W3 (by lia)]at f;exact f
def Zib(p:Def K mg "check_width" BW ["width"])
  : Mw ζ:=by
 refine p.fy Rn (λr n=>(b1<|sI (tp<|wo (tc Kk Ko (xv 0) xi)<|wO<|tc Ka XW (xv 0)<|xe (ExcR.Kz G.Zm) UB) (b1<|sQ G.Z6 G.Z5 ExcR.Km<|a1<|xe (ExcR.T6<|ExcR.KO<|ExcR.Ti (ExcR.Kz G.Zm) ExcR.T4)<|Tp<|KA<|Te UB T5) b0)) (.a ?_)
 ·rintro u R X ⟨h,rfl,f⟩;refine⟨rfl,?_⟩;unfold F0 at f;refine U8 (λg=>Xs ?_) (λg=>?_)
  ·rw[W2 (by have:=Wy g;lia)]at f;exact⟨by decide,by decide,by decide,by decide,by simp,f⟩
  ·have s:¬h<1:=λz=>g (Ww z);refine U8 (λl=>?_) (λl=>?_)
   ·rw[W2 (by have:=Wy l;lia)]at f;exact⟨by decide,by decide,by decide,by decide,by simp,f⟩
   ·have o:¬1000<h:=λz=>l (Ww z);rw[W3 (by lia)]at f;exact f
def Zej(J:Def K mg "pair_cost" Ce ["strips","ahead","behind"])
  : IY ζ:=by
 refine J.fz Zhl (λu n=>(bc (sS 3 n xi)<|bc (sS 4 n xi)<|bc (sF 0<|sO [5,6] WJ (iL<|xv 0) (gT 2<|gc (gN 5)<|gc (gN 6) g0)<|b1<|sI (tq u (xv 5)<|xv 2) (b1<|sU 3 n Mb<|xv 6)<|b1<|sI (tq u (xv 5)<|xv 1) (b1<|sU 4 n Mb<|xo Tw T9 (xv 3)<|xv 6) b0)<|b1<|sV 4)) (.a ?_)
 ·rintro L R X ⟨f,x,y,rfl,C,B⟩;refine⟨rfl,rfl,XQ (xs:=f) (emb:=prD) (λi h=>h=[some (.bor<|.lst<|f.map prD),some (.sh<|.int x),some (.sh<|.int y),some (.sh<|.int<|tpM f y i),some (.sh<|.int<|pcM f x y i),none,none]) rfl ?_ ?_⟩
  ·rintro i A h rfl;have v:f.getD i (0,0)=f[i]:=by rw[WA,Wv A];rfl
   have hw:=C _ (WL A);have H:tpM f y (i+1)=tpM f y i+(if f[i].1=y then f[i].2 else 0):=by simp only[tpM];rw[v]
   have E:pcM f x y (i+1)=pcM f x y i+(if x≠y/\f[i].1=x then tpM f y i*f[i].2 else 0):=by simp only[pcM];rw[v]
   rw[H,E];generalize f[i]=p at hw;refine⟨rfl,U8 (λg=>?_) (λg=>U8 (λr=>?_) (λr=>?_))⟩
   ·have e:p.1=y:=Wy g;rw[W3 e,W2 (by rintro⟨s,o⟩;exact s (o.symm.trans e)),VF];rfl
   ·have e:¬p.1=y:=λz=>g (Ww z);have l:p.1=x:=Wy r;rw[W2 e,W3 ⟨λz=>e (l.trans z),l⟩,VF];exact⟨.inr ⟨by show -(2 ^ 64)<p.2;lia,by show p.2<2 ^ 64;lia⟩,rfl⟩
   ·have e:¬p.1=y:=λz=>g (Ww z);have l:¬p.1=x:=λz=>r (Ww z);rw[W2 e,W2 (by rintro⟨s,o⟩;exact l o),VF,VF];rfl
  ·rintro h rfl;exact B
def Zkx(r:Def K mg "check_neighbours" An ["strips","place"])
  : MH ζ:=by
 refine r.fy Zam (λs n=>(b1<|sI (tp<|wo (tc Kk Ko (xv 1) xi)<|wO<|tc TR TL (xv 1)<|xl G.len<|xv 0) (b1<|sQ G.Zr G.Zq ExcR.Km<|a1 xs) b0)) (.a ?_)
 ·rintro x R X ⟨h,p,rfl,f⟩;refine⟨rfl,?_⟩;have u:(h.map prD).length=h.length:=Wt ..;refine U8 (λg=>Xs ?_) (λg=>?_)
  ·rw[W3 (.inl<|Wy g)]at f;exact⟨by simp,f⟩
  ·have v:¬p<1:=λz=>g (Ww z);refine U8 (λo=>?_) (λo=>?_)
   ·have l:((h.map prD).length:Int)<=p:=Wy o;rw[W3 (.inr<|by lia)]at f;exact⟨by simp,f⟩
   ·have l:¬((h.map prD).length:Int)<=p:=λz=>o (Ww z);rw[W2 (by lia)]at f;exact f
def Zl8(DD:Def K mg "longer_paths" Fn ["paths","left","wishes"])
  : MQ ζ:=by
 refine DD.fz Hl (λE n=>(bc (sS 3 n<|xL a0)<|bc (se (Pu.pz 4 Hl.nd Zjt)<|Th Zk7<|X8 4)<|bc (sF 1<|sF 0<|sO [5,6] WJ (iL<|xv 0) (gN 5)<|b1<|sF 1<|sO [6] WJ (iL<|xv 1) (gN 6)<|b1<|sI (tp<|wa (te (Zfo<|Zky (Kd<|E ()) (pv 6)<|pv 4)<|Zdr<|Zii (U4 6)<|U4 4)<|wA<|ti E (xt<|a2 (xx (xv 5)<|xe (XZ XX UI)<|Kb UB)<|xv 6)<|xv 2) (bc (se (AG (Kd<|E ()) (pv 4) (pv 6) TX rfl)<|Cu 4 (U4 6) Nm)<|b1<|sF 6<|sA 3<|xo XN XJ (xv 5)<|xL<|a1<|xv 6) b0)<|b1<|sV 3)) (.a ?_)
 ·rintro ds R X ⟨l,v,u,A,rfl,C,Y,H,U,hR⟩;refine⟨rfl,?_⟩
  refine⟨by simp,rfl,XQ (xs:=v) (emb:=em l) (λi o=>∃r f,o=[some (.bor<|.lst<|v.map<|em l),some (.bor<|.lst<|u.map D.int),some (.bor<|.lst<|A.map prD),some (.own<|r.map<|em l),some (.own<|.dK f),none,none]/\LGs A l (Pd v u i 0) u r f)
   ⟨[],[],rfl,LGs.start⟩ ?_ ?_⟩
  ·rintro i L o ⟨r,f,rfl,s⟩;have y:v[i]?=some v[i]:=Wv L;have J:=H v[i] (WL L);generalize v[i]=p at y J ⊢;refine⟨rfl,XQ (xs:=u) (emb:=D.int) (λj o=>∃r f,o=[some (.bor<|.lst<|v.map<|em l),some (.bor<|.lst<|u.map D.int),some (.bor<|.lst<|A.map prD),some (.own<|r.map<|em l),some (.own<|.dK f),some (.bor<|em l p),none]/\LGs A l (Pd v u i j) u r f) ⟨r,f,rfl,s⟩ ?_ ?_⟩
   ·rintro j hj o ⟨r,f,rfl,s⟩;have B:u[j]?=some u[j]:=Wv hj;generalize u[j]=h at B ⊢;have Q:=s.len_le;have hkl:=s.len;refine⟨.inl h,rfl,U8 (λg=>?_) (λg=>?_)⟩
    ·have N:(UL f<|.inl h).isSome=false:=by
      cases e:(UL f<|.inl h).isSome with
      |false=>rfl
      |true=>rw[e]at g;cases g
     refine⟨_,Bi l p,by simp,_,.lp (UE l p,h) A,U8 (λM=>?_) (λM=>?_)⟩
     ·refine⟨.inl h,.bl true,rfl,rfl,by lia,by simp,SX _,rfl,by simp;lia,by rw[Wt];lia,r++[p++[h]],_,?_,s.put y B C Y N (Wy M)⟩;rw[WI]
      have e:em l (p++[h])=.lst ((l::p).map D.int++[.int h]):=by
       unfold em;rw[←QP,WI];rfl
      rw[Vq,e];rfl
     ·exact⟨r,f,rfl,s.skip y B C (.inr λz=>M (Ww z))⟩
    ·have N:(UL f<|.inl h).isSome=true:=by
      cases e:(UL f<|.inl h).isSome with
      |true=>rfl
      |false=>rw[e]at g;exact absurd rfl g
     exact UQ ⟨r,f,rfl,s.skip y B C (.inl N)⟩
   ·rintro o ⟨r,f,rfl,s⟩;refine⟨r,f,rfl,s.congr λT x=>?_⟩;unfold Pd;rw[Qe,Q2];obtain⟨hi',ei⟩:=WH.mp y;rw[WG L,WC,Wx,y,ei];constructor
    ·rintro(⟨a,b⟩|⟨a,b⟩)
     ·exact .inl ⟨.inl a,b⟩
     ·exact .inl ⟨.inr (WB a).symm,b⟩
    ·rintro(⟨a|a,b⟩|⟨_,a⟩)
     ·exact .inl ⟨a,b⟩
     ·exact .inr ⟨Qk some a.symm,b⟩
     ·cases a
  ·rintro o ⟨r,f,rfl,s⟩;refine hR r (s.g.congr λT x=>?_) s.len_le;unfold Pd;rw[Qe,Q2];exact⟨(λz=>z.elim id λw=>by cases w.2),.inl⟩
def Zks(r:Def K mg "check_place" Ag ["strips","place"])
  : L5 ζ:=by
 refine r.fy RD (λs n=>(b1<|sI (tp<|wo (tc Kk Ko (xv 1) xi)<|wO<|tc Ka XW (xv 1)<|xl G.len<|xv 0) (b1<|sQ G.Zr G.Zq ExcR.Km<|a1 xs) b0)) (.a ?_)
 ·rintro x R X ⟨h,p,rfl,f⟩;refine⟨rfl,?_⟩;have u:(h.map prD).length=h.length:=Wt ..;unfold B7 at f;refine U8 (λg=>Xs ?_) (λg=>?_)
  ·rw[W3 (.inl<|Wy g)]at f;exact⟨by simp,f⟩
  ·have v:¬p<1:=λz=>g (Ww z);refine U8 (λo=>?_) (λo=>?_)
   ·have l:((h.map prD).length:Int)<p:=Wy o;rw[W3 (.inr<|by lia)]at f;exact⟨by simp,f⟩
   ·have l:¬((h.map prD).length:Int)<p:=λz=>o (Ww z);rw[W2 (by lia)]at f;exact f
def Zgp(r:Def K mg "without_wish" Ar ["wishes","ahead","behind"])
  : EO ζ:=by
 refine r.fy Zgx (λp n=>(bc (sI (tI p (xt<|a2 (xv 1)<|xv 2)<|xv 0) (b1<|sQ G.ZI G.ZH ExcR.Km<|a1 xs) b0)<|b1<|sF 2<|sF 1<|sR<|xC ["wish","ahead","behind"] [none,some 1,some 2] (jL<|xv 0) (gN 0) (f1<|te (Kq (HJ (K:=K)<|show _<cLine from(p ()).units0) (pv 0) (Kf<|bz (pv 1)<|pv 2)<|Kl _)<|XU<|Lp (U4 0)<|Kj<|tz (U4 1)<|U4 2)<|xv 0)) (.a ?_)
 ·rintro u R X ⟨l,a,b,rfl,s,f⟩;refine⟨rfl,?_⟩;unfold Xy at f;refine⟨by simp,_,.lp (a,b) l,U8 (λg=>?_) (λg=>?_)⟩
  ·have o:¬(a,b)∈l:=λz=>by rw[W3 rfl,Ww z]at g;cases g
   rw[W2 o]at f;exact⟨by simp,f⟩
  ·have o:(a,b)∈l:=WQ λz=>g (by rw[W3 rfl,Qa z];rfl);rw[W3 o]at f;refine XA (xs:=l) (emb:=prD) (λq=>if (!decide (q=(a,b)))=true then some (prD q)else none) (by lia) (λq hq=>?_) ?_
   ·refine⟨by simp,?_⟩;show CU (.sh<|prD q) (.sh<|prD (a,b)) _;refine Zkq ?_;exact U8 (λh=>⟨_,rfl,W3 h⟩) (λh=>W2 h)
   ·rw[KP (λq:Int×Int=>!decide (q=(a,b)))];exact f
def Zft(v:Def K mg "sets_of" Ai ["holders"])
  : HR ζ:=by
 refine v.fz Zey (λy n=>(bc (sS 1 n<|xL<|a1<|xt a0)<|bc (sF 0<|sO [2] WJ (iL<|xv 0) (gN 2)<|b1<|sF 2<|sS 1 n<|xo XN XJ (xv 1)<|xC ["members","holder"] [none,some 2] (jL<|xv 1) (gN 0) f0<|xe (PK (Zlx (K:=K)) (pv 0)<|Kf<|az<|pv 1)<|Rx (U4 0)<|Kj<|sz<|U4 1)<|b1<|sV 1)) (.a ?_)
 ·rintro z R X ⟨l,rfl,x,u⟩;refine⟨rfl,by simp,by simp,rfl,XQ (xs:=l) (emb:=D.int) (λi g=>g=[some (.bor<|.lst<|l.map D.int),some (.own ((UW<|l.take i).map tD)),none]) rfl ?_ ?_⟩
  ·rintro i s g rfl
   have o:(UW<|l.take i).length<=1024:=by
    rw[MA,WS];exact Nat.pow_le_pow_right (j:=10) (by decide) (by lia)
   have p:∀f∈UW (l.take i),f.length<=10:=λf r=>by
    have:=(N7 _ f r).length_le
    rw[WS]at this;lia
   rw[WG s,Tf];generalize UW (l.take i)=S at o p ⊢;generalize l[i]=h;refine XA (xs:=S) (emb:=tD) (λf=>some (tD (f++[h]))) (by lia) (λf r=>?_) ?_
   ·refine⟨by simp,_,_,RJ f,rfl,?_,_,rfl,?_⟩
    ·have:=p f r
     rw[Wt];show f.length+1<=100000;lia
    ·unfold tD;rw[WI];rfl
   ·rw[Py];refine⟨rfl,rfl,?_,?_⟩
    ·rw[Wt,Wt];lia
    ·show[_,_,_]=[_,_,_];rw[WI,Qi];rfl
  ·rintro g rfl;rw[Qe];exact u
def Za4(o:Def K mg "without" FW ["members","holder"])
  : LL ζ:=by
 refine o.fz Zh5 (λg n=>(b1<|sR<|xe (KU (GK (K:=K)) (by rfl) G.Zo boot_tuple<|az<|cz ["member","holder"] [none,some 1] (NC (K:=K)<|pv 0) ⟨(gk 0),(BL<|cn K (g ()) (pv 0)<|pv 1),(pv 0)⟩)<|E8<|sz<|Pa (SndI.c<|NU<|U4 0) (X8 0) (XU<|Gs (U4 0)<|U4 1)<|U4 0)) (.a ?_)
 ·rintro u R X ⟨f,h,rfl,p,l⟩;refine⟨rfl,?_⟩;rw[N9];refine⟨_,rfl,XA (s:=.sh .non) (xs:=f) (emb:=D.int) (λm=>if decide (m≠h)=true then some (.int m)else none) (by lia) (λm r=>?_) ?_⟩
  ·show if (!decide (m=h))=true then _ else _;by_cases e:m=h
   ·rw[Ww e];exact UQ (by simp[e])
   ·rw[Qa e];exact Xs ⟨_,rfl,W3 (Ww e)⟩
  ·rw[KP (λm=>decide (m≠h))];exact⟨rfl,l⟩
def Zi0(r:Def K mg "may_lie_last" A8 ["members","holder","wishes"])
  : HC ζ:=by
 refine r.fz Zdl (λo n=>(b1<|sR<|xn<|xe (Xw (Mq (K:=K) rfl) (by rfl) G.ZJ boot_any<|az<|cz ["ahead","behind","holder","members"] [none,none,some 1,some 0] (P9 (K:=K)<|pv 2) ⟨(SS (K:=K) (n:=2) rfl<|TC (gk 0)<|TC (gk 1) SL),PZ,(Ss (TH (N4 (K:=K)<|show _<cLine from(o ()).units0) (pv 0) (pv 2)<|Kl _)<|Si<|TH (CP (K:=K)<|show _<cLine from Kd (o ())) (pv 1) (pv 3)<|by with_unfolding_all rfl)⟩)<|LJ<|sz<|Pa (Nl<|U4 2) (Fq<|NB (X8 0)<|NB (X8 1) FT) T8<|N1 (NJ (U4 0)<|U4 2)<|Sj (U4 1)<|U4 3)) (.a ?_)
 ·rintro u R X ⟨f,h,l,rfl,s,p⟩;refine⟨rfl,?_⟩;rw[N9];refine XA (xs:=l) (emb:=prD) (λq=>some (.bl (decide (q.1=h)&&decide (q.2∈f)))) (by lia) (λq hq=>?_) ?_
  ·refine⟨rfl,?_⟩;show if true=true then(if decide (q.1=h)=true then _ else _)else(some (D.bl (decide (q.1=h)&&decide (q.2∈f)))=none);refine Xs (U8 (λg=>⟨_,.ti _ _,?_⟩) (λg=>?_))
   ·refine⟨_,rfl,?_⟩;rw[g,Js];rfl
   ·refine⟨_,rfl,?_⟩;rw[Vs.mpr g,Jj]
  ·rw[Py];refine⟨l.map λq=>decide (q.1=h)&&decide (q.2∈f),by rw[Qi];rfl,?_⟩;rw[List.any_map];exact p
def Zka(r:Def K mg "may_lie_first" Dh ["members","holder","wishes"])
  : EZ ζ:=by
 refine r.fz Zcz (λo n=>(b1<|sR<|xn<|xe (Xw (Mq (K:=K) rfl) (by rfl) G.ZJ boot_any<|az<|cz ["ahead","behind","holder","members"] [none,none,some 1,some 0] (P9 (K:=K)<|pv 2) ⟨(SS (K:=K) (n:=2) rfl<|TC (gk 0)<|TC (gk 1) SL),PZ,(Ss (TH (N4 (K:=K)<|show _<cLine from(o ()).units0) (pv 1) (pv 2)<|Kl _)<|Si<|TH (CP (K:=K)<|show _<cLine from Kd (o ())) (pv 0) (pv 3)<|by with_unfolding_all rfl)⟩)<|LJ<|sz<|Pa (Nl<|U4 2) (Fq<|NB (X8 0)<|NB (X8 1) FT) T8<|N1 (NJ (U4 1)<|U4 2)<|Sj (U4 0)<|U4 3)) (.a ?_)
 ·rintro u R X ⟨f,h,l,rfl,s,p⟩;refine⟨rfl,?_⟩;rw[N9];refine XA (xs:=l) (emb:=prD) (λq=>some (.bl (decide (q.2=h)&&decide (q.1∈f)))) (by lia) (λq hq=>?_) ?_
  ·refine⟨rfl,?_⟩;show if true=true then(if decide (q.2=h)=true then _ else _)else(some (D.bl (decide (q.2=h)&&decide (q.1∈f)))=none);refine Xs (U8 (λg=>⟨_,.ti _ _,?_⟩) (λg=>?_))
   ·refine⟨_,rfl,?_⟩;rw[g,Js];rfl
   ·refine⟨_,rfl,?_⟩;rw[Vs.mpr g,Jj]
  ·rw[Py];refine⟨l.map λq=>decide (q.2=h)&&decide (q.1∈f),by rw[Qi];rfl,?_⟩;rw[List.any_map];exact p
def RT(h:UY K (UU K (UM ζ) "strips") "strips" "Village.strips" Ah ["self"])
  : HQ ζ:=by
 refine h.fz Zlk (λo n=>(b1<|sR<|xe (KU (Nu (K:=K)) (by rfl) G.Zg boot_list<|az<|jx K (KC (pv 0) rfl)<|XZ XX UI)<|TM<|sz<|Xh (Nj 1 G.Za G.Zd FN<|U4 0)<|Kb UB)) (.a ?_)
 ·rintro p R X ⟨bk,fs,l,f,rfl,g⟩;refine⟨rfl,?_⟩;exact⟨rfl,rfl,_,rfl,_,Bo plD fs f,Pe _,g⟩
def Zes(l:UY K (UU K (UM ζ) "wishes") "wishes" "Village.wishes" FS ["self"])
  : HY ζ:=by
 refine l.fz Zak (λo n=>(b1<|sR<|xe (KU (Nu (K:=K)) (by rfl) G.Zg boot_list<|az<|jx K (KC (pv 0) rfl)<|XZ XX UI)<|TM<|sz<|Xh (Nj 2 G.Za G.Ze F4<|U4 0)<|Kb UB)) (.a ?_)
 ·rintro p R X ⟨bk,fs,g,f,rfl,h⟩;refine⟨rfl,?_⟩;exact⟨rfl,rfl,_,rfl,_,Bo plD g f,Pe _,h⟩
def Zgv(g:UY K (UU K (UM ζ) "deeds") "deeds" "Village.deeds" AF ["self"])
  : Ho ζ:=by
 refine g.fz Rf (λl n=>(b1<|sR<|xe (KU (Nu (K:=K)) (by rfl) G.Zg boot_list<|az<|KC (pv 0) rfl)<|TM<|sz<|Nj 0 G.Za G.Zb Nb<|U4 0)) (.a ?_)
 ·rintro o R X ⟨bk,fs,h,rfl,f⟩;refine⟨rfl,?_⟩;exact⟨rfl,rfl,_,rfl,Iv _,f⟩
def Zmf(l:UY K (UU K (UM ζ) "check_room") "check_room" "Village.check_room" Do ["self"])
  : DN ζ:=by
 refine l.fy Zi8 (λp n=>(b1<|sI (tc TR TL (xl G.len<|xe (KC (pv 0) rfl)<|Nj 0 G.Za G.Zb Nb<|U4 0)<|xe (ExcR.Kz G.Zp) UB) (b1<|sQ G.ZA G.Z9 ExcR.Km<|a1<|xe (ExcR.T6<|ExcR.KO<|ExcR.Ti (ExcR.Kz G.Zp)<|ExcR.KO ExcR.T4)<|Tp<|KA<|Te UB<|KA T5) b0)) (.a ?_)
 ·rintro s R X ⟨bk,fs,o,rfl,f⟩;refine⟨rfl,?_⟩;have r:(bk.map dD).length=bk.length:=Wt ..;unfold Tn at f;refine⟨rfl,rfl,_,rfl,U8 (λg=>?_) (λg=>?_)⟩
  ·have h:(100:Int)<=((bk.map dD).length:Int):=Wy g;rw[W3 (by lia)]at f;exact⟨by decide,by decide,by decide,by decide,by decide,by simp,f⟩
  ·have h:¬(100:Int)<=((bk.map dD).length:Int):=λz=>g (Ww z);rw[W2 (by lia)]at f;exact f
def Za5(A:UY K (UU K (UM ζ) "enter") "enter" "Village.enter" AV ["self","deed","field","wishes"])
  : L7 ζ:=by
 refine A.fz Zkb (λC n=>(bc (sF 1<|se (Kv<|Sw Qd Vg Vh NK (KC (pv 0) rfl)<|az<|pv 1)<|Ts<|Am 0 0 G.Za G.Zb Nb<|U4 1)<|bc (sF 2<|se (Kv<|Sw Qd Vg Vh NK (KC (pv 0) rfl)<|az<|pv 2)<|Ts<|Am 0 1 G.Za G.Zd FN<|U4 2)<|bc (sF 3<|se (Kv<|Sw Qd Vg Vh NK (KC (pv 0) rfl)<|az<|pv 3)<|Ts<|Am 0 2 G.Za G.Ze F4<|U4 3)<|b1<|se (X4<|ln K G.len<|KC (pv 0) rfl)<|By<|B3<|sz<|Nj 0 G.Za G.Zb Nb<|U4 0)) (.c ?_)
 ·rintro o B R X ⟨x,b1,z,y,bk,fs,g,q,f,w,rfl,rfl,J,H,E,r⟩;refine⟨rfl,?_⟩;have p:(bk.map dD).length<10000000:=by rw[Wt];lia
  have l:(fs.map plD).length<10000000:=by rw[Wt];lia
  have h:(g.map plD).length<10000000:=by rw[Wt];lia
  refine⟨rfl,rfl,_,rfl,p,rfl,rfl,_,rfl,l,rfl,rfl,_,rfl,h,rfl,rfl,_,rfl,_,rfl,⟨rfl,by simp⟩,?_⟩;have e:(((bk.map dD++[dD q]).length:Nat):Int)=(bk.length:Int)+1:=by rw[W7,Wt];simp
  show R (.ins x _ vF [(b1,bk.map dD++[dD q]),(z,fs.map plD++[plD f]),(y,g.map plD++[plD w])]) (.int (((bk.map dD++[dD q]).length:Nat):Int));rw[e];have v:bk.map dD++[dD q]=(bk++[q]).map dD:=by rw[WI];rfl
  have u:fs.map plD++[plD f]=(fs++[f]).map plD:=by rw[WI];rfl
  have s:g.map plD++[plD w]=(g++[w]).map plD:=by rw[WI];rfl
  rw[v,u,s];exact r
def Zht(H:UY K (UU K (UM ζ) "take_back") "take_back" "Village.take_back" Dv ["self"])
  : Gh ζ:=by
 refine H.fy Zfx (λL n=>(bc (sI (tN<|tt<|xe (KC (pv 0) rfl)<|Nj 0 G.Za G.Zb Nb<|U4 0) (b1<|sQ G.Z0 G.Zz ExcR.Km<|a1 xs) b0)<|bc (se (Kv<|Sv Qd Vx Vy Bb<|KC (pv 0) rfl)<|Ts<|F9 0 1 G.Za G.Zd FN)<|bc (se (Kv<|Sv Qd Vx Vy Bb<|KC (pv 0) rfl)<|Ts<|F9 0 2 G.Za G.Ze F4)<|b1<|se (X4<|Sv Qd Vx Vy Bb<|KC (pv 0) rfl)<|KZ<|F9 0 0 G.Za G.Zb Nb)) (.c ?_)
 ·rintro o J R X ⟨x,b1,r,p,bk,fs,f,rfl,rfl,N,M,y,A⟩;refine⟨rfl,?_⟩;have l:(bk.map dD).isEmpty=decide (bk=[]):=by cases bk<;>simp
  refine⟨rfl,rfl,_,rfl,?_⟩;show if (!(!(bk.map dD).isEmpty))=true then _ else _;rw[Bool.not_not,l];refine U8 (λg=>⟨by simp,_,rfl,⟨rfl,by simp⟩,y (Wy g)⟩) (λg=>?_);have h:bk≠[]:=λz=>g (Ww z);obtain⟨b0,q,rfl⟩:∃b0 q,bk=b0++[q]:=⟨_,_,(QC h).symm⟩;have v:(b0++[q]).length=b0.length+1:=by simp
  have f1:(fs.map plD)[(fs.map plD).length-1]?=some (plD (fs[fs.length-1]'(by lia))):=by
   rw[Wt,W6,Wv (by lia)];rfl
  have s:(f.map plD)[(f.map plD).length-1]?=some (plD (f[f.length-1]'(by lia))):=by
   rw[Wt,W6,Wv (by lia)];rfl
  have u:((b0++[q]).map dD)[((b0++[q]).map dD).length-1]?=some (dD q):=by
   rw[Wt,W6,v,VE,Qh (W5 _),Nat.sub_self];rfl
  refine⟨rfl,rfl,_,_,rfl,f1,rfl,rfl,_,_,rfl,s,rfl,rfl,_,_,rfl,u,_,rfl,⟨rfl,by simp⟩,?_⟩;have E:((b0++[q]).map dD).dropLast=b0.map dD:=by rw[WI];exact QK
  have C:(fs.map plD).dropLast=fs.dropLast.map plD:=List.map_dropLast.symm;have B:(f.map plD).dropLast=f.dropLast.map plD:=List.map_dropLast.symm
  have:=A b0 q rfl
  rw[show vO (ExcR.UC mg "Village") x b1 r p b0 fs.dropLast f.dropLast=.ins x (ExcR.UC mg "Village") vF [(b1,((b0++[q]).map dD).dropLast),(r,(fs.map plD).dropLast),(p,(f.map plD).dropLast)] by rw[E,C,B]]at this;exact this
def Zg1(p:Def K mg "_law_at" D1 ["_law_script","_law_k"])
  : E9 ζ:=by
 refine p.fz Zf3 (λr n=>(bc (sI (tc Kk Ko (xv 1)<|xl G.len<|xv 0) (b1<|sR<|xx (xv 0)<|xv 1) b0)<|b1<|sR xi)) (.a ?_)
 ·rintro s R X ⟨h,k,rfl,l,f⟩;refine⟨rfl,?_⟩;refine U8 (λg=>?_) (λg=>?_)
  ·have o:k<(h.length:Int):=Wy g;have e:=Wv (show k.toNat<h.length by omega);rw[WA,e]at f;exact⟨_,NT l e,f⟩
  ·have o:¬k<(h.length:Int):=λz=>g (Ww z);rw[WA,Q7 (by omega)]at f;exact f
def Zk6(g:Def K mg "_law_whole" FL ["_law_found"])
  : Iw ζ:=by
 refine g.fz Zbl (λh n=>(b1<|sR<|xe (Ss (Xw (PY (K:=K)) (by rfl) G.Zc QL<|bz (pv 0)<|PQ (v:=.ty "int") rfl G.ZK boot_int rfl)<|Si<|GR<|Xw (PY (K:=K)) (by rfl) G.Zc QL<|bz (pv 0)<|PQ (v:=.ty "bool") rfl G.ZN boot_bool rfl)<|N1 (P5<|tz (U4 0) PP)<|Hh<|P5<|tz (U4 0) PP)) (.a ?_)
 ·rintro l R X ⟨i,rfl,f⟩;refine⟨rfl,?_⟩;exact⟨_,.same _,_,.ib,f⟩
def OQ(g:Def K mg "_law_mix" CD ["_law_cell","_law_place_here"])
  : Gn ζ:=by
 refine g.fz Zls (λh n=>(bc (sS 2 n<|xo UP UO (xo Tw T9 (xo UT UV (xo UT UV (xo UP UO (xv 0) xi)<|xo Tw T9 xi<|xv 1) xi) xi) xi)<|b1<|sR<|xo UP UO (xo Tw T9 (xo UT UV (xo UT UV (xv 2)<|xo Tw T9 xi<|xv 1) xi) xi) xi)) (.a ?_)
 ·rintro l R X ⟨c,p,rfl,f⟩;refine⟨rfl,?_⟩;unfold mixP at f;exact⟨(by show(0:Int)<2147483647;decide),.inl ⟨by decide,by decide⟩,.inr ⟨by decide,by decide⟩,(by show(0:Int)<2147483647;decide),.inl ⟨by decide,by decide⟩,.inr ⟨by decide,by decide⟩,(by show(0:Int)<2147483647;decide),f⟩
def OL(A:Def K mg "_law_menu" F5 ["_law_cell"])
  : L9 ζ:=by
 refine A.fz Ziq (λB n=>(bc (sS 1 n<|xx (xL<|ac xi<|ac xi<|ac xi<|ac xi<|ac xi a0)<|xo UP UO (xo Xn Xl (xv 0) xi) xi)<|bc (sS 2 n<|xx (xL<|ac xi<|ac xi<|ac xi<|ac xi<|ac xi a0)<|xo UP UO (xo Xn Xl (xv 0) xi) xi)<|b1<|sF 2<|sF 1<|sR<|xL<|ac (xo UT UV xi<|xo UP UO (xv 0) xi)<|ac (xx (xL<|ac xi<|ac xi<|ac xi<|ac xi a0)<|xo UP UO (xo Xn Xl (xv 0) xi) xi)<|ac (xo UP UO (xo Xn Xl (xv 0) xi) xi)<|ac (xv 1)<|ac (xv 2) a0)) (.a ?_)
 ·rintro C R X ⟨c,rfl,x⟩;refine⟨rfl,?_⟩;have p:0<=c / 10 % 4/\c / 10 % 4<4:=by lia
  have o:0<=c / 400 % 5/\c / 400 % 5<5:=by lia
  have u:∀v∈([1,3,7,9]:ZS),1<=v/\v<=9/\(v=1\/v=3\/v=7\/v=9):=by decide
  have g:∀i:Int,0<=i->i<5->∃d e:Int,atI [D.int 1000,.int 3,.int 1,.int 2,.int 3] i=some (.int d)/\atI [D.int 1,.int 1,.int 1,.int 1,.int 998] i=some (.int e)/\(1<=d/\d<=1000)/\1<=e/\e+d<=1001:=λi a b=>by
   have:i=0\/i=1\/i=2\/i=3\/i=4:=by lia
   rcases this with rfl|rfl|rfl|rfl|rfl
   ·exact⟨1000,1,rfl,rfl,by decide,by decide,by decide⟩
   ·exact⟨3,1,rfl,rfl,by decide,by decide,by decide⟩
   ·exact⟨1,1,rfl,rfl,by decide,by decide,by decide⟩
   ·exact⟨2,1,rfl,rfl,by decide,by decide,by decide⟩
   ·exact⟨3,998,rfl,rfl,by decide,by decide,by decide⟩
  obtain⟨d,e,z,y,s,r⟩:=g _ o.1 o.2;have h:=u _ (WL (l:=([1,3,7,9]:ZS)) (n:=(c / 10 % 4).toNat)<|by show(c / 10 % 4).toNat<4;lia);refine⟨by simp,⟨by decide,by decide⟩,(by show(0:Int)<5;decide),_,z,by simp,⟨by decide,by decide⟩,(by show(0:Int)<5;decide),_,y,(by show(0:Int)<10;decide),by simp,⟨by decide,by decide⟩,(by show(0:Int)<4;decide),_,Tz (f:=D.int) (xs:=[1,3,7,9]) p.1 p.2,⟨by decide,by decide⟩,(by show(0:Int)<10;decide),by simp,?_⟩;exact x [_,_,_,_,_] ⟨_,_,_,_,_,rfl,by lia,h,by lia,s,r⟩
def Zjl(h:Def K mg "_law_holder" Fi ["_law_menu_here","_law_k"])
  : GO ζ:=by
 refine h.fz Zk5 (λl n=>(b1<|sR<|xo UT UV xi<|xo UP UO (xo UT UV (xo Tw T9 (xv 1)<|xx (xv 0) xi)<|xx (xv 0) xi) xi)) (.a ?_)
 ·rintro v R X ⟨m,k,rfl,g,f⟩;refine⟨rfl,?_⟩;obtain⟨a,b,c,d,e,rfl,u,s,r,p,o⟩:=g;exact⟨_,rfl,.inr ⟨by lia,by lia⟩,_,rfl,(by show(0:Int)<10;decide),f _ (by lia) (by lia) rfl⟩
def RC(o:Def K mg "_law_present" A6 ["_law_strips"])
  : HW ζ:=by
 refine o.fz O1 (λh n=>(bc (sS 1 n<|xC ["_law_strip"] [none] (jL<|xv 0) (gN 0) f0<|xx (xv 0) xi)<|b1<|sR<|xC ["_law_holder_here","_law_owners"] [none,some 1] (jI<|iR G.Zf<|a2 xi xi) (gN 0) (f1<|ti h (xv 0)<|xv 1)<|xv 0)) (.a ?_)
 ·rintro s R X ⟨f,rfl,p,l⟩;refine⟨rfl,?_⟩;refine XA (xs:=f) (emb:=prD) (λq=>some (.int q.1)) (by lia) (λq hq=>⟨_,rfl,_,rfl,rfl⟩) ?_;rw[Py (λq:Int×Int=>D.int q.1),show f.map (λq:Int×Int=>D.int q.1)=(f.map (·.1)).map D.int by rw[Qi];rfl];refine⟨⟨by decide,by decide,by decide,by decide⟩,Lh (n:=10) (λi=>if decide ((1:Int)+(i:Int)∈f.map (·.1))=true then some (.int (1+(i:Int)))else none) (by decide) (λi r=>?_) ?_⟩
  ·exact⟨_,.li _ _,U8 (λg=>⟨_,rfl,W3 g⟩) (λg=>W2 g)⟩
  rw[KP (λi:Nat=>decide ((1:Int)+(i:Int)∈f.map (·.1)))]
  have e:((List.range 10).filter λi:Nat=>decide ((1:Int)+(i:Int)∈f.map (·.1))).map (λi:Nat=>D.int (1+(i:Int)))=(UD f).map D.int:=by
   unfold UD;rw[R1,List.filter_map,Qi];rfl
  rw[e];exact l
def Zg7(T:Def K mg "_law_price" AW ["_law_strips","_law_order"])
  : Ij ζ:=by
 refine T.fz Zas (λY n=>(bc (sC 2 ["_law_strip","_law_order"] [none,some 1] n (jL<|xv 0) (gN 0) f0<|xe (B6 (K:=K) Qd Vn VJ (BY (K:=K)) (pv 1)<|az<|jx K (pv 0) UI)<|FB (U4 1)<|sz<|Xh (U4 0) UB)<|bc (sS 3 n xi)<|bc (sO [4,5] WJ (ir G.Zf<|a1<|xl G.len<|xv 0) (gN 4)<|b1<|sO [5] WJ (ir G.Zf<|a1<|xv 4) (gN 5)<|b1<|sI (tc Ka XW (xx (xv 2)<|xv 5)<|xx (xv 2)<|xv 4) (b1<|sS 3 n<|xo UT UV (xv 3)<|xo Tw T9 (xx (xx (xv 0)<|xv 5) xi)<|xx (xx (xv 0)<|xv 4) xi) b0)<|b1<|sV 3)) (.a ?_)
 ·rintro ds R X ⟨h,os,rfl,C,U,u,M⟩;refine⟨rfl,?_⟩;have J:(h.map prD).length=h.length:=Wt ..;refine XA (xs:=h) (emb:=prD) (λq=>some (.int (os.idxOf q.1:Nat))) (by lia) (λq hq=>⟨⟨_,rfl⟩,_,rfl,os,rfl,u q hq,_,rfl,rfl⟩) ?_;rw[Py (λq:Int×Int=>D.int (os.idxOf q.1:Nat)),show h.map (λq:Int×Int=>D.int (os.idxOf q.1:Nat))=(h.map λq:Int×Int=>((os.idxOf q.1:Nat):Int)).map D.int by rw[Qi];rfl];generalize y:(h.map λq:Int×Int=>((os.idxOf q.1:Nat):Int))=s
  have A:∀(j:Nat) (r:j<h.length),atI (s.map D.int) (0+(j:Int))=some (.int (os.idxOf h[j].1:Nat)):=λj r=>by
   rw[show(0:Int)+(j:Int)=(j:Int) by lia,←y];exact Px (f:=D.int) (Sq<|by rw[W6,Wv r];rfl)
  have B:∀(j:Nat) (r:j<h.length),atI (h.map prD) (0+(j:Int))=some (prD h[j]):=λj r=>by
   rw[show(0:Int)+(j:Int)=(j:Int) by lia];exact Px (f:=prD) (Sq<|Wv r)
  refine⟨⟨by lia,by lia⟩,Pf (λk l=>l=[some (.bor<|.lst<|h.map prD),some (.bor<|.lst<|os.map D.int),some (.own<|s.map D.int),some (.sh<|.int<|KS h os k),none,none]) rfl ?_ ?_⟩
  ·rintro k l L rfl
   have o:k<h.length:=by
    have:k<(((h.map prD).length:Nat):Int).toNat:=L
    lia
   have v:h.getD k (0,0)=h[k]:=by rw[WA,Wv o];rfl
   have Q:KS h os (k+1)=KS h os k+rsM h os h[k].1 k*h[k].2:=by simp only[KS];rw[v]
   have E:=C h[k] (WL o);refine⟨⟨by lia,by lia⟩,Pf (λj l=>l=[some (.bor<|.lst<|h.map prD),some (.bor<|.lst<|os.map D.int),some (.own<|s.map D.int),some (.sh<|.int (KS h os k+rsM h os h[k].1 j*h[k].2)),some (.sh<|.int (0+(k:Int))),none]) ?_ ?_ ?_⟩
   ·rw[show rsM h os h[k].1 0=0 from rfl,Int.zero_mul,VF]
    rfl
   ·rintro j l r rfl
    have p:j<h.length:=by
     have:j<((0:Int)+(k:Int)).toNat:=r
     lia
    have x:h.getD j (0,0)=h[j]:=by rw[WA,Wv p];rfl
    have H:=C h[j] (WL p);have step:rsM h os h[k].1 (j+1)=rsM h os h[k].1 j+(if os.idxOf h[k].1<os.idxOf h[j].1 then h[j].2 else 0):=by simp only[rsM];rw[x]
    refine⟨_,A j p,_,A k o,U8 (λg=>?_) (λg=>?_)⟩
    ·have N:((os.idxOf h[k].1:Nat):Int)<((os.idxOf h[j].1:Nat):Int):=Wy g;refine⟨_,B j p,_,rfl,_,B k o,_,rfl,.inl ⟨by show -(2 ^ 64)<h[j].2;lia,by show h[j].2<2 ^ 64;lia⟩,?_⟩;rw[step,W3 (by lia),Int.add_mul,←Int.add_assoc];rfl
    ·have N:¬((os.idxOf h[k].1:Nat):Int)<((os.idxOf h[j].1:Nat):Int):=λz=>g (Ww z);rw[step,W2 (by lia),VF];rfl
   ·rintro l rfl;rw[show((0:Int)+(k:Int)).toNat=k by lia,←Q];rfl
  ·rintro l rfl;rw[show(((h.map prD).length:Nat):Int).toNat=h.length by lia];exact M
def Za8(C:Def K mg "_law_kept" D4 ["_law_order","_law_wishes"])
  : E7 ζ:=by
 refine C.fz Zcb (λA n=>(bc (sF 1<|sO [2,3] WJ (iL<|xv 1) (gT 2<|gc (gN 2)<|gc (gN 3) g0)<|b1<|sI (tp<|wa (ti A (xv 2)<|xv 0)<|wa (ti A (xv 3)<|xv 0)<|wA<|tc Ka XW (xe (B6 (K:=K) Qd Vn VJ (BY (K:=K)) (pv 0)<|az<|pv 2)<|FB (U4 0)<|sz<|U4 2)<|xe (B6 (K:=K) Qd Vn VJ (BY (K:=K)) (pv 0)<|az<|pv 3)<|FB (U4 0)<|sz<|U4 3) (b1<|sR xb) b0)<|b1<|sR xb)) (.a ?_)
 ·rintro E R X ⟨os,o,rfl,s,r⟩;refine⟨rfl,rfl,XQ (xs:=o) (emb:=prD) (λi l=>l=[some (.bor<|.lst<|os.map D.int),some (.bor<|.lst<|o.map prD),none,none]/\∀q∈o.take i,Kx os q=false) ⟨rfl,by simp⟩ ?_ ?_⟩
  ·rintro i B l ⟨rfl,p⟩;have hq:=WL B
   have next:Kx os o[i]=false->∀q∈o.take (i+1),Kx os q=false:=λh q hq=>by
    rw[WG B,WC,Wx]at hq;rcases hq with hq|hq
    ·exact p q hq
    ·rw[hq];exact h
   generalize o[i]=q at hq next ⊢;refine⟨rfl,_,.li _ _,U8 (λy=>⟨_,.li _ _,U8 (λx=>?_) (λx=>?_)⟩) (λy=>?_)⟩
   ·have g:decide (q.1∈os)=true:=y;have f:decide (q.2∈os)=true:=x;refine⟨⟨_,rfl⟩,os,rfl,Wy g,⟨_,rfl⟩,os,rfl,Wy f,?_⟩;refine U8 (λv=>?_) (λv=>?_)
    ·have u:=Wy v;refine r ⟨q,hq,?_⟩;unfold Kx;rw[g,f,Ww (by lia)];rfl
    ·have u:¬((os.idxOf q.2:Nat):Int)<((os.idxOf q.1:Nat):Int):=λz=>v (Ww z);refine⟨rfl,next ?_⟩;unfold Kx;rw[g,f,Qa (by lia)];rfl
   ·refine UQ ⟨rfl,next ?_⟩;have f:decide (q.2∈os)=false:=Vs.mpr x;unfold Kx;rw[f,Jj,Bool.and_false]
   ·refine UQ ⟨rfl,next ?_⟩;have g:decide (q.1∈os)=false:=Vs.mpr y;unfold Kx;rw[g,Jj]
  ·rintro l ⟨rfl,p⟩;rw[Qe]at p;exact s p
def Zit(H:Def K mg "_law_orders" Dg ["_law_holders"])
  : LZ ζ:=by
 refine H.fz Zf5 (λo n=>(bc (sS 1 n<|xL<|a1<|xL a0)<|bc (sF 1<|sF 0<|sO [2,3,4] WJ (iL<|xv 0) (gN 2)<|bc (sS 3 n<|xL a0)<|bc (sF 1<|sO [4] WJ (iL<|xv 1) (gN 4)<|b1<|se (Kv<|Sw Qd PySem.F.slot_list_extend PySem.F.type_list_extend Zi4 (pv 3)<|az<|cz ["_law_holder_here","_law_row_here"] [none,some 4] (P9 (K:=K)<|pv 0) ⟨(gk 0),(BL<|Kq (Ib (K:=K)<|show _<cLine from Kd (o ())) (pv 0) (pv 1)<|by with_unfolding_all rfl),(PK XN (pv 1)<|XB<|az<|pv 0)⟩)<|Ze5 3<|Pa (Nl<|U4 0) (X8 0) (XU<|Sj (U4 0)<|U4 1)<|XJ (U4 1)<|XM<|sz<|U4 0)<|b1<|sF 3<|sS 1 n<|xv 3)<|b1<|sV 1)) (.a ?_)
 ·rintro L R X ⟨hs,rfl,p,s,C⟩;refine⟨rfl,?_⟩;have E:∀k,(Xa hs k).length<=3628800:=λk=>W9 (AC p s k) (GL k);refine⟨by simp,by simp,?_⟩;refine⟨rfl,XQ (xs:=hs) (emb:=D.int) (λi f=>f=[some (.bor<|.lst<|hs.map D.int),some (.sh<|.lst ((Xa hs i).map ilD)),none,none,none]) rfl ?_ ?_⟩
  ·rintro i J f rfl;have o:=E i;refine⟨by simp,?_⟩;refine⟨rfl,XQ (xs:=Xa hs i) (emb:=ilD) (λj f=>∃t,f=[some (.bor<|.lst<|hs.map D.int),some (.sh<|.lst ((Xa hs i).map ilD)),t,some (.own ((((Xa hs i).take j).flatMap (nextM hs)).map ilD)),none]) ⟨_,rfl⟩ ?_ ?_⟩
   ·rintro j A f ⟨t,rfl⟩;have B:=Zev (hs:=hs) A;have z:=AH p s ((Xa hs i).take j) λr o=>rows_mem.mp (Vb o)
    have u:((Xa hs i).take (j+1)).length*(10-i)<=3628800:=by
     refine W9 (Jf _<|W9 (by rw[WS];lia)<|AC p s i) (GL (i+1))
    have y:((Xa hs i).take (j+1)).length=j+1:=by rw[WS];lia
    have l:((Xa hs i).take j).length=j:=by rw[WS];lia
    rw[y,Nat.add_mul]at u;rw[l]at z;have x:=Zb2 hs (Xa hs i)[j]
    have v:(Xa hs i)[j].length<=10:=by
     have:=(rows_mem.mp<|WL A).1
     lia
    generalize (Xa hs i)[j]=r at B x v ⊢;refine XA (xs:=hs) (emb:=D.int) (λh=>if (!decide (h∈r))=true then some (D.lst (r.map D.int++[D.int h]))else none) (by lia) (λh _=>?_) ?_
    ·refine⟨_,.li _ _,U8 (λg=>⟨by simp,rfl,rfl,?_,_,rfl,W3 g⟩) (λg=>W2 g)⟩;show(r.map D.int).length+1<=100000;rw[Wt];lia
    ·rw[KP (λh=>!decide (h∈r)),Zcq];refine⟨?_,t,?_⟩
     ·rw[Wt,Wt];lia
     ·rw[B,WI];rfl
   ·rintro f ⟨t,rfl⟩;rw[Qe];rfl
  ·rintro f rfl;exact C
def Zij(DD:Def K mg "_law_ring" Al ["_law_holders","_law_wishes"])
  : IV ζ:=by
 refine DD.fz Zgf (λhr n=>(bc (sF 5<|sC 2 ["_law_holder_here"] [none] n (jL<|xe (Xw (BC (K:=K) (w:=w) rfl) (by rfl) G.Zh boot_sorted<|az<|pv 0)<|Bw<|sz<|U4 0) (gN 0) f0<|xL<|a1<|xv 0)<|bc (sF 2<|sW [3,4,5] WJ (te (Kq (Fl (K:=K)<|show _<cLine from(hr ()).units0) (pv 2) (XB Xv)<|Kl _)<|XU<|NL (U4 2)<|XM UN)<|bc (sS 3 n<|xL a0)<|bc (sF 2<|sO [4,5] WJ (iL<|xv 2) (gN 4)<|b1<|sO [5] WJ (iL<|xe (Xw (BC (K:=K) (w:=w) rfl) (by rfl) G.Zh boot_sorted<|az<|pv 0)<|Bw<|sz<|U4 0) (gN 5)<|b1<|sI (tp<|wa (tc Ka XW (xv 5)<|xx (xv 4) xi)<|wa (tI hr (xv 5)<|xv 4)<|wA<|ti hr (xt<|a2 (xx (xv 4)<|xe (XZ XX UI)<|Kb UB)<|xv 5)<|xv 1) (b1<|sF 5<|sA 3<|xo XN XJ (xv 4)<|xL<|a1<|xv 5) b0)<|bc (sF 3<|sO [4] WJ (iL<|xv 3) (gN 4)<|b1<|sI (ti hr (xt<|a2 (xx (xv 4)<|xe (XZ XX UI)<|Kb UB)<|xx (xv 4) xi)<|xv 1) (b1<|sF 4<|sV 4) b0)<|b1<|sF 3<|sS 2 n<|xv 3)<|b1<|sr<|xL a0)) (.a ?_)
 ·rintro ds R X ⟨s,v,r,rfl,J,hz,hu,hw,F,hR⟩;refine⟨rfl,s,rfl,by lia,λA B hsrt=>?_⟩;have M:A.Pairwise (· < ·):=Sx hsrt (B.nodup_iff.mpr J);have hnl:=B.length_eq;refine XA (xs:=A) (emb:=D.int) (λh=>some (.lst [.int h])) (by lia) (λh _=>⟨by simp,_,rfl,rfl⟩) ?_;have e0:A.filterMap (λh=>some (D.lst [.int h]))=(A.map λh=>[h]).map eL:=by rw[Vr,Qi];rfl
  rw[e0]
  have L0:TB s v 0 (A.map λh=>[h]):=by
   refine⟨λw=>⟨λf=>?_,?_⟩,?_⟩
   ·obtain⟨h,Q,rfl⟩:=WZ.mp f;exact⟨h,[],rfl,B.mem_iff.mp Q,trivial,by simp,rfl⟩
   ·rintro⟨l,t,rfl,T,_,_,E⟩
    have:t=[]:=Q1.mp E
    subst this;exact WZ.mpr ⟨l,B.mem_iff.mpr T,rfl⟩
   ·rw[Jt];exact M.imp λh=>.inl h
  refine Dz (λo=>∃k rows,o=[some (.bor<|.lst<|s.map D.int),some (.bor<|.lst<|v.map prD),some (.sh<|.lst<|rows.map eL),none,none,none]/\TB s v k rows/\rows.length<=fall k/\NoC s v k) BH ⟨0,_,rfl,L0,by rw[Wt];show _<=10;lia,NoC.zero hu⟩ ?_;rintro o ⟨k,rows,rfl,L,hrl,N⟩;have emp:(!(rows.map eL).isEmpty)=decide (rows≠[]):=by cases rows<;>simp
  refine⟨by simp,?_⟩;show if (!(rows.map eL).isEmpty)=true then _ else _;rw[emp];refine U8 (λg=>?_) (λg=>?_)
  ·have hne:rows≠[]:=Wy g
   have hk1:k+1<=s.length:=by
    obtain⟨w,f⟩:=V6 rows hne;obtain⟨l,t,rfl,T,h2,Y,E⟩:=(L.mem w).mp f
    have:=TZ Y (λx hx=>by
     rcases W8.mp hx with rfl|hx
     ·exact T
     ·exact(Sr h2 x hx).1)
    simp at this;lia
   have cap:rows.length*(s.length-(k+1))<=3628800:=by
    refine W9 (Nat.mul_le_mul hrl<|show s.length-(k+1)<=9-k by lia) ?_;exact R4 (k+1)
   refine⟨by simp,rfl,XQ (xs:=rows) (emb:=eL) (λi o=>∃p,o=[some (.bor<|.lst<|s.map D.int),some (.bor<|.lst<|v.map prD),some (.sh<|.lst<|rows.map eL),some (.own<|p.map eL),none,none]/\GRs v rows A i 0 (s.length-(k+1)) p) ⟨[],rfl,GRs.start⟩ ?_ ?_⟩
   ·rintro i hi o ⟨p,rfl,G⟩;have f:rows[i]?=some rows[i]:=Wv hi;obtain⟨l,t,ew,T,h2,Y,E⟩:=(L.mem rows[i]).mp (WL hi);rw[ew]at f ⊢
    have hsub:∀x∈l::t,x∈A:=λx hx=>by
     rcases W8.mp hx with rfl|hx
     ·exact B.mem_iff.mpr T
     ·exact B.mem_iff.mpr (Sr h2 x hx).1
    have hfl:=Zjg (B.nodup_iff.mpr J) Y hsub;have C:(A.filter<|Pk<|some (l::t)).length<=s.length-(k+1):=by simp at hfl;lia
    refine⟨s,rfl,by lia,λu hp' H=>?_⟩
    have:u=A:=HU (Sx H<|hp'.nodup_iff.mpr J) M λz=>by rw[hp'.mem_iff,B.mem_iff]
    subst this;refine⟨rfl,XQ (xs:=u) (emb:=D.int) (λj o=>∃p,o=[some (.bor<|.lst<|s.map D.int),some (.bor<|.lst<|v.map prD),some (.sh<|.lst<|rows.map eL),some (.own<|p.map eL),some (.sh<|eL (l::t)),none]/\GRs v rows u i j (s.length-(k+1)) p) ⟨p,rfl,G⟩ ?_ ?_⟩
    ·rintro j hj o ⟨p,rfl,G⟩;have Q:u[j]?=some u[j]:=Wv hj;generalize u[j]=h at Q ⊢
     have gl:p.length<=3628800:=by
      have T:=G.len
      have h2:((u.take j).filter (Pk rows[i]?)).length<=s.length-(k+1):=by
       rw[f];exact W9 ((QX j u).filter _).length_le C
      have Y:(i+1)*(s.length-(k+1))<=rows.length*(s.length-(k+1)):=Jf _ hi;rw[Nat.succ_mul]at Y;lia
     refine⟨_,XC _ _,U8 (λg1=>⟨_,.li h (l::t),?_⟩) (λg1=>UQ ⟨p,rfl,G.skip f Q λz=>g1 (Ww z.1)⟩)⟩;by_cases c2:h∈l::t
     ·rw[Ww c2];exact UQ (UQ ⟨p,rfl,G.skip f Q λz=>z.2.1 c2⟩)
     ·rw[Qa c2];refine Xs ⟨_,E3 l t,by simp,_,.lp (UE l t,h) v,U8 (λU=>?_) (λU=>⟨p,rfl,G.skip f Q λz=>U (Ww z.2.2)⟩)⟩;refine⟨by simp,rfl,rfl,by simp;lia,by rw[Wt];lia,p++[l::t++[h]],?_,G.put f Q L.srt M ⟨Wy g1,c2,Wy U⟩⟩;rw[WI,Vq]
      have e:eL (l::t++[h])=.lst ((l::t).map D.int++[.int h]):=by
       unfold eL;rw[WI];rfl
      rw[e];rfl
    ·rintro o ⟨p,rfl,G⟩;exact⟨p,rfl,G.row f C⟩
   ·rintro o ⟨p,rfl,G⟩;have L':=G.all (λx=>B.mem_iff) L
    have hgl:p.length<=fall (k+1):=by
     have:=G.len
     rw[Q2]at this;refine W9 (show p.length<=rows.length*(s.length-(k+1)) by simpa using this) ?_;exact Nat.mul_le_mul hrl (by lia)
    refine⟨rfl,XQ (xs:=p) (emb:=eL) (λj o=>o=[some (.bor<|.lst<|s.map D.int),some (.bor<|.lst<|v.map prD),some (.sh<|.lst<|rows.map eL),some (.sh<|.lst<|p.map eL),none,none]/\∀w∈p.take j,¬SO v w) ⟨rfl,λw f=>by rw[Q2]at f;cases f⟩ ?_ ?_⟩
    ·rintro j hj o ⟨rfl,y⟩;obtain⟨l,t,ew,T,h2,Y,E⟩:=(L'.mem p[j]).mp (WL hj);have fe:=Zdj hu F L' N hj;rw[WG hj];rw[ew]at fe ⊢;refine⟨_,E3 l t,_,XC _ _,by simp,_,.lp (UE l t,l) v,U8 (λU=>?_) (λU=>⟨rfl,λw f=>?_⟩)⟩
     ·have:=fe ⟨l,t,rfl,Wy U⟩ y
      subst this;exact hR
     ·rcases WC.mp f with f|f
      ·exact y w f
      ·rw[Wx.mp f];rintro⟨l',t',e',z⟩;cases e'
       exact U (Ww z)
    ·rintro o ⟨rfl,y⟩;rw[Qe]at y;refine⟨⟨k+1,p,rfl,L',hgl,NoC.next L' y N⟩,?_⟩
     have hm:BH [some (.bor<|.lst<|s.map D.int),some (.bor<|.lst<|v.map prD),some (.sh<|.lst<|rows.map eL),none,none,none]=20-(k+1):=by
      cases rows with
      |nil=>exact absurd rfl hne
      |cons w rs=>
       obtain⟨l,t,rfl,_,_,_,E⟩:=(L.mem w).mp WW;show 20-((l::t).map D.int).length=_;rw[Wt,WM,E]
     show BH [some (.bor<|.lst<|s.map D.int),some (.bor<|.lst<|v.map prD),some (.sh<|.lst<|p.map eL),none,none,none]<BH [some (.bor<|.lst<|s.map D.int),some (.bor<|.lst<|v.map prD),some (.sh<|.lst<|rows.map eL),none,none,none];rw[hm];cases p with
     |nil=>show 0<_;lia
     |cons w rs=>
      obtain⟨l,t,rfl,_,_,_,E⟩:=(L'.mem w).mp WW;show 20-((l::t).map D.int).length<_;rw[Wt,WM,E];lia
  ·have hre:rows=[]:=WQ λz=>g (Ww z);subst hre
   have:=RB hu F L N
   subst this;exact⟨by simp,hR⟩
def Ot(M:Def K mg "_law_field_step" Cp ["_law_strips","_law_deed_here"])
  : Ei ζ:=by
 refine M.fz Ziy (λA n=>(bc (sS 2 n<|xx (xv 1) xi)<|bc (sI (tp<|wo (tc Kk Ko (xv 2) xi)<|wO<|tc Ka XW (xv 2)<|xo XH XD (xl G.len<|xv 0)<|xe (KU Zh2 (by rfl) G.ZK boot_int<|az<|TH (N4 (K:=K)<|show _<cLine from(A ()).units0) (jx K (pv 1) UI) Tu<|Kl _)<|Zbx<|sz<|NJ (Xh (U4 1) UB) Tq) (b1<|sF 0<|sR<|xL<|a2 xi<|xv 0) b0)<|bc (sS 3 n<|xx (xx (xv 0)<|xo XH XD (xv 2) xi) xi)<|bc (sS 4 n<|xx (xx (xv 0)<|xo XH XD (xv 2) xi) xi)<|bc (sI (tq A (xx (xv 1) xi) xs) (bc (sI (tp<|wo (tc Kk Ko (xx (xv 1) xi) xi)<|wO<|tc Ka XW (xx (xv 1) xi) xi) (b1<|sF 0<|sR<|xL<|a2 xi<|xv 0) b0)<|bc (sI (tq A (xx (xv 1) xi)<|xv 3) (b1<|sF 0<|sR<|xL<|a2 xi<|xv 0) b0)<|b1<|sR<|xL<|a2 xi<|xo XN XJ (xo XN XJ (xp (xv 0) o0<|o1<|xo XH XD (xv 2) xi)<|xL<|a1<|xt<|a2 (xx (xv 1) xi)<|xv 4)<|xp (xv 0) (o1<|xv 2) o0) b0)<|bc (sI (tq A (xx (xv 1) xi) xs) (bc (sI (tp<|wo (tc Kk Ko (xx (xv 1) xi) xi)<|wO<|tc TR TL (xx (xv 1) xi)<|xv 4) (b1<|sF 0<|sR<|xL<|a2 xi<|xv 0) b0)<|bc (sI (tq A (xl G.len<|xv 0) xi) (b1<|sF 0<|sR<|xL<|a2 xi<|xv 0) b0)<|bc (sS 5 n<|xL<|a2 (xt<|a2 (xv 3)<|xx (xv 1) xi)<|xt<|a2 (xv 3)<|xo XH XD (xv 4)<|xx (xv 1) xi)<|b1<|sR<|xL<|a2 xi<|xo XN XJ (xo XN XJ (xp (xv 0) o0<|o1<|xo XH XD (xv 2) xi)<|xv 5)<|xp (xv 0) (o1<|xv 2) o0) b0)<|bc (sI (tn A (xx (xx (xv 0)<|xv 2) xi)<|xv 3) (b1<|sF 0<|sR<|xL<|a2 xi<|xv 0) b0)<|bc (sI (tc Ka XW (xo UT UV (xv 4)<|xx (xx (xv 0)<|xv 2) xi) xi) (b1<|sF 0<|sR<|xL<|a2 xi<|xv 0) b0)<|b1<|sR<|xL<|a2 xi<|xo XN XJ (xo XN XJ (xp (xv 0) o0<|o1<|xo XH XD (xv 2) xi)<|xL<|a1<|xt<|a2 (xv 3)<|xo UT UV (xv 4)<|xx (xx (xv 0)<|xv 2) xi)<|xp (xv 0) (o1<|xo UT UV (xv 2) xi) o0)) (.b ?_)
 ·rintro T R X ⟨f,x,rfl,hx,N,l⟩;refine⟨rfl,?_⟩;have Q:(f.map prD).length=f.length:=Wt ..;have y:∀p:Int,(cutD (f.map prD) none<|some (p-1)).length<=1000:=λp=>by have:=(PH (f.map prD) none<|some (p-1)).length_le;rw[Wt]at this;lia
  have C:∀p:Int,(cutD (f.map prD) (some p) none).length<=1000:=λp=>by have:=(PH (f.map prD) (some p) none).length_le;rw[Wt]at this;lia
  cases x with
  |wish a b=>cases hx
  |drop a b=>cases hx
  |sell p h=>
   have l:R (.own [.int (codeN<|Ke f p h),plD (if Ke f p h=none then Pj f p h else f)]):=l
   have no:∀c:Str,Ke f p h=some c->R (.own [.int (codeN<|some c),plD f]):=λc e=>by
    rw[e,W2 (by intro z;cases z)]at l;exact l
   unfold Ke at no l
   have one:(p<1\/(f.length:Int)<p)->R (.own [.int 1,plD f]):=λz=>by
    rw[←Ae];exact no _ (W3 z)
   refine⟨_,rfl,U8 (λg=>Xs ?_) (λg=>⟨_,rfl,U8 (λu=>?_) (λu=>?_)⟩)⟩
   ·exact⟨by simp,one (.inl<|Wy g)⟩
   ·have o:(((f.map prD).length:Nat):Int)-0<p:=Wy u;exact⟨by simp,one (.inr<|by lia)⟩
   ·have H:¬p<1:=λz=>g (Ww z);have E:¬(((f.map prD).length:Nat):Int)-0<p:=λz=>u (Ww z);rw[W2 (by lia)]at no l;have a1:=Pr (ps:=f) (p:=p) (by lia) (by lia);refine⟨_,a1,_,rfl,_,a1,_,rfl,_,rfl,?_⟩;refine⟨_,rfl,U8 (λr=>Xs ?_) (λr=>⟨_,rfl,U8 (λs=>?_) (λs=>?_)⟩)⟩
    ·have o:h<1:=Wy r
     have:=no _ (W3<|by lia)
     rw[BQ]at this;exact⟨by simp,this⟩
    ·have o:10<h:=Wy s
     have:=no _ (W3<|by lia)
     rw[BQ]at this;exact⟨by simp,this⟩
    ·have L:¬h<1:=λz=>r (Ww z);have J:¬10<h:=λz=>s (Ww z);rw[W2 (Vt.mpr ⟨by lia,by lia⟩)]at no l;refine⟨_,rfl,U8 (λv=>?_) (λv=>?_)⟩
     ·have o:h=(UG f p).1:=Wy v
      have:=no _ (W3 o.symm)
      rw[DL]at this;exact⟨by simp,this⟩
     ·have o:¬h=(UG f p).1:=λz=>v (Ww z);rw[W2 (λz=>o z.symm),W3 rfl]at l;have e:=EM (ps:=f) (p:=p) (x:=(h,(UG f p).2)) (by lia) (by lia);refine⟨rfl,_,rfl,by simp,by simp,rfl,rfl,W9 (Qc (y p)<|W5 1) (by decide),rfl,rfl,rfl,W9 (Qc (by rw[W7];exact Qc (y p) (W5 1))<|C p) (by decide),by simp,?_⟩;have B:plD (Pj f p h)=.lst (cutD (f.map prD) none (some (p-1))++[prD (h,(UG f p).2)]++cutD (f.map prD) (some p) none):=Qk D.lst e.symm;rw[B]at l;exact l
  |part p w=>
   have l:R (.own [.int (codeN<|X0 f p w),plD (if X0 f p w=none then KE f p w else f)]):=l
   have no:∀c:Str,X0 f p w=some c->R (.own [.int (codeN<|some c),plD f]):=λc e=>by
    rw[e,W2 (by intro z;cases z)]at l;exact l
   unfold X0 at no l
   have one:(p<1\/(f.length:Int)<p)->R (.own [.int 1,plD f]):=λz=>by
    rw[←Ae];exact no _ (W3 z)
   refine⟨_,rfl,U8 (λg=>Xs ?_) (λg=>⟨_,rfl,U8 (λu=>?_) (λu=>?_)⟩)⟩
   ·exact⟨by simp,one (.inl<|Wy g)⟩
   ·have o:(((f.map prD).length:Nat):Int)-0<p:=Wy u;exact⟨by simp,one (.inr<|by lia)⟩
   ·have H:¬p<1:=λz=>g (Ww z);have E:¬(((f.map prD).length:Nat):Int)-0<p:=λz=>u (Ww z);rw[W2 (by lia)]at no l;have a1:=Pr (ps:=f) (p:=p) (by lia) (by lia);refine⟨_,a1,_,rfl,_,a1,_,rfl,_,rfl,_,rfl,?_⟩;refine⟨_,rfl,U8 (λr=>Xs ?_) (λr=>⟨_,rfl,U8 (λs=>?_) (λs=>?_)⟩)⟩
    ·have:=no _ (W3<|.inl<|Wy r)
     rw[Fz]at this;exact⟨by simp,this⟩
    ·have:=no _ (W3<|.inr<|Wy s)
     rw[Fz]at this;exact⟨by simp,this⟩
    ·have L:¬w<1:=λz=>r (Ww z);have J:¬(UG f p).2<=w:=λz=>s (Ww z);rw[W2 (by lia)]at no l;refine U8 (λv=>?_) (λv=>?_)
     ·have o:(((f.map prD).length:Nat):Int)=40:=Wy v
      have:=no _ (W3<|by lia)
      rw[GA]at this;exact⟨by simp,this⟩
     ·have o:¬(((f.map prD).length:Nat):Int)=40:=λz=>v (Ww z);rw[W2 (by lia),W3 rfl]at l;refine⟨_,rfl,by simp,_,rfl,by simp,by simp,?_⟩;refine⟨rfl,rfl,rfl,W9 (Qc (y p)<|W5 2) (by decide),rfl,rfl,rfl,W9 (Qc (by rw[W7];exact Qc (y p) (W5 2))<|C p) (by decide),by simp,?_⟩;have B:plD (KE f p w)=.lst (cutD (f.map prD) none (some (p-1))++[prD ((UG f p).1,w),prD ((UG f p).1,(UG f p).2-w)]++cutD (f.map prD) (some p) none):=Qk D.lst (Eh<|by lia).symm;rw[B]at l;exact l
  |unite p=>
   have l:R (.own [.int (codeN<|Xm f p),plD (if Xm f p=none then KF f p else f)]):=l
   have no:∀c:Str,Xm f p=some c->R (.own [.int (codeN<|some c),plD f]):=λc e=>by
    rw[e,W2 (by intro z;cases z)]at l;exact l
   unfold Xm at no l
   have one:(p<1\/(f.length:Int)<=p)->R (.own [.int 1,plD f]):=λz=>by
    rw[←Ae];exact no _ (W3 z)
   refine⟨_,rfl,U8 (λg=>Xs ?_) (λg=>⟨_,rfl,U8 (λu=>?_) (λu=>?_)⟩)⟩
   ·exact⟨by simp,one (.inl<|Wy g)⟩
   ·have o:(((f.map prD).length:Nat):Int)-1<p:=Wy u;exact⟨by simp,one (.inr<|by lia)⟩
   ·have H:¬p<1:=λz=>g (Ww z);have E:¬(((f.map prD).length:Nat):Int)-1<p:=λz=>u (Ww z);rw[W2 (by lia)]at no l;have a1:=Pr (ps:=f) (p:=p) (by lia) (by lia);have a2:=R9 (ps:=f) (p:=p) (by lia) (by lia);refine⟨_,a1,_,rfl,_,a1,_,rfl,_,rfl,_,rfl,?_⟩;refine⟨_,a2,_,rfl,U8 (λr=>?_) (λr=>?_)⟩
    ·have o:¬(UG f (p+1)).1=(UG f p).1:=λz=>by rw[Ww z]at r;cases r
     have:=no _ (W3 (λz=>o z.symm))
     rw[Ih]at this;exact⟨by simp,this⟩
    ·have o:(UG f (p+1)).1=(UG f p).1:=WQ λz=>r (by rw[Qa z];rfl);rw[W2 (Vt.mpr o.symm)]at no l;refine⟨_,a2,_,rfl,U8 (λs=>?_) (λs=>?_)⟩
     ·have:=no _ (W3<|Wy s)
      rw[Mt]at this;exact⟨by simp,this⟩
     ·rw[W2 (λz=>s (Ww z)),W3 rfl]at l;refine⟨rfl,_,a2,_,rfl,by simp,by simp,rfl,rfl,W9 (Qc (y p)<|W5 1) (by decide),rfl,rfl,rfl,W9 (Qc (by rw[W7];exact Qc (y p) (W5 1))<|C (p+1)) (by decide),by simp,?_⟩;have B:plD (KF f p)=.lst (cutD (f.map prD) none (some (p-1))++[prD ((UG f p).1,(UG f p).2+(UG f (p+1)).2)]++cutD (f.map prD) (some (p+1)) none):=Qk D.lst (Md<|by lia).symm;rw[B]at l;exact l
def Zmj(Q:Def K mg "_law_wish_step" CV ["_law_wishes","_law_deed_here"])
  : Mr ζ:=by
 refine Q.fz Zc4 (λo n=>(bc (sS 2 n<|xt<|a2 (xx (xv 1) xi)<|xx (xv 1) xi)<|bc (sI (tq o (xx (xv 1) xi) xs) (bc (sI (tI o (xv 2)<|xv 0) (b1<|sF 0<|sR<|xL<|a2 xi<|xv 0) b0)<|b1<|sR<|xL<|a2 xi<|xC ["_law_one","_law_pair_here"] [none,some 2] (jL<|xv 0) (gN 0) (f1<|te (Kq (HJ (K:=K)<|show _<cLine from(o ()).units0) (pv 0) (pv 1)<|Kl _)<|XU<|Lp (U4 0)<|U4 1)<|xv 0) b0)<|bc (sI (tp<|wo (tc Kk Ko (xe (Xw (Zhd (K:=K) rfl) (by rfl) G.ZL boot_min<|az<|pv 2)<|Zd6<|sz<|U4 2) xi)<|wO<|tc Ka XW (xe (Xw (Zl5 (K:=K) rfl) (by rfl) G.ZC boot_max<|az<|pv 2)<|Zkr<|sz<|U4 2) xi) (b1<|sF 0<|sR<|xL<|a2 xi<|xv 0) b0)<|bc (sI (tq o (xx (xv 1) xi)<|xx (xv 1) xi) (b1<|sF 0<|sR<|xL<|a2 xi<|xv 0) b0)<|bc (sI (ti o (xv 2)<|xv 0) (b1<|sF 0<|sR<|xL<|a2 xi<|xv 0) b0)<|bc (sI (tq o (xl G.len<|xv 0) xi) (b1<|sF 0<|sR<|xL<|a2 xi<|xv 0) b0)<|b1<|sF 2<|sR<|xL<|a2 xi<|xo XN XJ (xv 0)<|xL<|a1<|xv 2)) (.b ?_)
 ·rintro ds R X ⟨w,x,rfl,hx,hz,f⟩;refine⟨rfl,?_⟩;have L:(w.map prD).length=w.length:=Wt ..;cases x with
  |sell p h=>cases hx
  |part p h=>cases hx
  |unite p=>cases hx
  |drop a b=>
   refine⟨_,rfl,_,rfl,by simp,_,rfl,?_⟩;show ∃c,InR (prD (a,b)) (plD w) c/\_;have f:R (.own [.int (codeN<|Xy w a b),plD (if Xy w a b=none then Nr w a b else w)]):=f;refine⟨_,.lp (a,b) w,U8 (λg=>?_) (λg=>?_)⟩
   ·have l:¬(a,b)∈w:=λz=>by rw[W3 rfl,Ww z]at g;cases g
    have e:Xy w a b=some ("NoWish" : Str):=W2 l;rw[e,LY,W2 (by intro z;cases z)]at f;exact⟨by simp,f⟩
   ·have l:(a,b)∈w:=WQ λz=>g (by rw[W3 rfl,Qa z];rfl);have e:Xy w a b=none:=W3 l;rw[e,W3 rfl]at f;refine XA (xs:=w) (emb:=prD) (λq=>if (!decide (q=(a,b)))=true then some (prD q)else none) (by omega) (λq hq=>?_) ?_
    ·refine⟨[q.1,q.2],[a,b],rfl,rfl,?_⟩;have e:decide ([q.1,q.2]=[a,b])=decide (q=(a,b)):=Zmk q (a,b);show if (!decide ([q.1,q.2]=[a,b]))=true then _ else _;rw[e];exact U8 (λh=>⟨_,rfl,W3 h⟩) (λh=>W2 h)
    ·rw[KP (λq:Int×Int=>!decide (q=(a,b)))];exact⟨by simp,f⟩
  |wish a b=>
   refine⟨_,rfl,_,rfl,by simp,_,rfl,?_⟩;have f:R (.own [.int (codeN<|Xt w a b),plD (if Xt w a b=none then w++[(a,b)]else w)]):=f
   have no:∀c:Str,Xt w a b=some c->R (.own [.int (codeN<|some c),plD w]):=λc e=>by
    rw[e,W2 (by intro z;cases z)]at f;exact f
   have s:¬((1<=a/\a<=10)/\(1<=b/\b<=10))->R (.own [.int 2,plD w]):=λz=>by
    rw[←BQ];refine no _ ?_;unfold Xt;by_cases r:1<=a/\a<=10
    ·rw[W2 (Vt.mpr r),W3 (λy=>z ⟨r,y⟩)]
    ·rw[W3 r]
   have J:∀x y:Int,(if y<x then y else x)<=x/\(if y<x then y else x)<=y/\((if y<x then y else x)=x\/(if y<x then y else x)=y):=λx y=>by split<;>omega
   have H:∀x y:Int,x<=(if y>x then y else x)/\y<=(if y>x then y else x)/\((if y>x then y else x)=x\/(if y>x then y else x)=y):=λx y=>by split<;>omega
   have m1:=J a b;have Y:=H a b;refine U8 (λg=>Xs ?_) (λg=>U8 (λB=>?_) (λB=>?_))
   ·have l:(if b<a then b else a)<1:=Wy g;exact⟨by simp,s (by omega)⟩
   ·have l:10<(if b>a then b else a):=Wy B;exact⟨by simp,s (by omega)⟩
   ·have U:¬(if b<a then b else a)<1:=λz=>g (Ww z);have T:¬10<(if b>a then b else a):=λz=>B (Ww z);have r:1<=a/\a<=10:=by omega
    have N:1<=b/\b<=10:=by omega
    unfold Xt at no f;rw[W2 (Vt.mpr r),W2 (Vt.mpr N)]at no f;refine⟨_,rfl,_,rfl,U8 (λA=>?_) (λA=>?_)⟩
    ·have:=no _ (W3<|Wy A)
     rw[Gb]at this;exact⟨by simp,this⟩
    ·have E:¬a=b:=λz=>A (Ww z);rw[W2 E]at no f;show ∃c,InR (prD (a,b)) (plD w) c/\_;refine⟨_,.lp (a,b) w,U8 (λv=>?_) (λv=>?_)⟩
     ·have:=no _ (W3<|Wy v)
      rw[LS]at this;exact⟨by simp,this⟩
     ·have C:¬(a,b)∈w:=λz=>v (Ww z);rw[W2 C]at no f;refine U8 (λu=>?_) (λu=>?_)
      ·have l:(((w.map prD).length:Nat):Int)=20:=Wy u
       have:=no _ (W3<|by omega)
       rw[DY]at this;exact⟨by simp,this⟩
      ·have l:¬(((w.map prD).length:Nat):Int)=20:=λz=>u (Ww z);rw[W2 (by omega),W3 rfl]at f;refine⟨by simp,rfl,rfl,W9 (Qc (QH L)<|W5 1) (by omega),by simp,?_⟩;have M:plD (w++[(a,b)])=.lst (w.map prD++[prD (a,b)]):=Qk D.lst WI;rw[M]at f;exact f
def Zdm(p:Def K mg "_law_odd" Cq ["_law_cell","_law_good"])
  : IR ζ:=by
 refine p.fz Zds (λo n=>(bc (sI (tq o (xo UP UO (xv 0) xi) xi) (b1<|sR<|xx (xL<|ac xi<|ac xi<|ac (xe (XZ XX UI)<|Kb UB)<|ac (xo Cv FM xi xi) a0)<|xo UP UO (xo Xn Xl (xv 0) xi) xi) b0)<|b1<|sV 1)) (.a ?_)
 ·rintro r R X ⟨c,g,rfl,h⟩;refine⟨rfl,?_⟩;have l:0<=c / 7 % 4/\c / 7 % 4<4:=by lia
  refine⟨(by show(0:Int)<7;decide),U8 (λ_=>?_) (λ_=>h _)⟩;exact⟨⟨by decide,by decide,by decide⟩,by simp,⟨by decide,by decide⟩,(by show(0:Int)<4;decide),_,Tz (f:=D.int) (xs:=[0,11,-3,10 ^ (30:Int).toNat]) l.1 l.2,h _⟩
def Zml(u:Def K mg "_law_place" FY ["_law_cell","_law_strips"])
  : LW ζ:=by
 refine u.fz OO (λp n=>(bc (sI (tq p (xo UP UO (xv 0) xi) xi) (b1<|sR<|xx (xL<|ac xi<|ac (xe (XZ XX UI)<|Kb UB)<|ac (xo UT UV (xl G.len<|xv 1) xi)<|ac (xo Cv FM xi xi) a0)<|xo UP UO (xo Xn Xl (xv 0) xi) xi) b0)<|bc (sI (te (Kq (IA (K:=K)<|show _<cLine from(p ()).units0) (pv 1) (XB Xv)<|Kl _)<|XU<|NL (U4 1)<|XM UN) (b1<|sR xi) b0)<|b1<|sR<|xo UT UV xi<|xo UP UO (xo Xn Xl (xv 0) xi)<|xl G.len<|xv 1)) (.a ?_)
 ·rintro y R X ⟨c,h,rfl,v,l⟩;refine⟨rfl,?_⟩;have r:0<=c / 11 % 4/\c / 11 % 4<4:=by lia
  have x:(h.map prD).length=h.length:=Wt ..;refine⟨(by show(0:Int)<11;decide),U8 (λ_=>?_) (λ_=>?_)⟩
  ·exact⟨⟨by decide,by decide,by decide⟩,by simp,⟨by decide,by decide⟩,(by show(0:Int)<4;decide),_,Tz (f:=D.int) (xs:=[0,-1,(((h.map prD).length:Nat):Int)+1,10 ^ (30:Int).toNat]) r.1 r.2,l _⟩
  ·refine⟨by simp,?_⟩;have o:(h.map prD).isEmpty=decide (h=[]):=by cases h<;>simp
   show if (h.map prD).isEmpty=true then _ else _;rw[o];refine U8 (λ_=>l _) (λg=>?_);have s:0<h.length:=Vj.mpr λz=>g (Ww z);exact⟨⟨by decide,by decide⟩,(by show 0<(((h.map prD).length:Nat):Int);lia),l _⟩
def Zl2(A:Def K mg "_law_width" AR ["_law_cell","_law_strips","_law_place_here"])
  : DX ζ:=by
 refine A.fz Zdn (λu n=>(bc (sI (tp<|wo (tc Kk Ko (xv 2) xi)<|wo (tc Ka XW (xv 2)<|xl G.len<|xv 1)<|wO<|tq u (xo UP UO (xv 0) xi) xi) (b1<|sR<|xx (xL<|ac xi<|ac (xe (XZ XX UI)<|Kb UB)<|ac xi<|ac xi<|ac xi<|ac xi<|ac (xo Cv FM xi xi) a0)<|xo UP UO (xo Xn Xl (xv 0) xi) xi) b0)<|b1<|sR<|xo UP UO (xo Xn Xl (xv 0) xi)<|xo UT UV (xx (xx (xv 1)<|xo XH XD (xv 2) xi) xi) xi)) (.a ?_)
 ·rintro L R X ⟨c,ps,p,rfl,E,x,h⟩;refine⟨rfl,?_⟩;have J:(ps.map prD).length=ps.length:=Wt ..;have r:0<=c / 5 % 7/\c / 5 % 7<7:=by lia
  have l:∃v:Int,atI ([0,-1,1,1000,1001,999,10 ^ (30:Int).toNat].map D.int) (c / 5 % 7)=some (.int v):=⟨_,Tz (f:=D.int) (xs:=[0,-1,1,1000,1001,999,10 ^ (30:Int).toNat]) r.1 r.2⟩;obtain⟨v,o⟩:=l;refine U8 (λg=>Xs ?_) (λg=>U8 (λs=>Xs ?_) (λs=>⟨(by show(0:Int)<5;decide),U8 (λy=>?_) (λy=>?_)⟩))
  ·exact⟨⟨by decide,by decide,by decide⟩,by simp,⟨by decide,by decide⟩,(by show(0:Int)<7;decide),_,o,h _⟩
  ·exact⟨⟨by decide,by decide,by decide⟩,by simp,⟨by decide,by decide⟩,(by show(0:Int)<7;decide),_,o,h _⟩
  ·exact⟨⟨by decide,by decide,by decide⟩,by simp,⟨by decide,by decide⟩,(by show(0:Int)<7;decide),_,o,h _⟩
  ·have C:¬p<1:=λz=>g (Ww z);have B:¬(((ps.map prD).length:Nat):Int)<p:=λz=>s (Ww z);have H:=x _ (SZ (ps:=ps) (p:=p) (by lia)<|by lia);exact⟨⟨by decide,by decide⟩,_,Pr (by lia) (by lia),_,rfl,(by show 0<(UG ps p).2+1;lia),h _⟩
def Zfj(y:Def K mg "check_strips" Fd ["strips"])
  : IF ζ:=by
 refine y.fy Zfn (λs n=>(bc (sI (tc Ka XW (xl G.len<|xv 0)<|xe (ExcR.Kz G.Zl) UB) (b1<|sQ G.Zj G.Zi ExcR.Km<|a1<|xe (ExcR.T6<|ExcR.KO<|ExcR.Ti (ExcR.Kz G.Zl)<|ExcR.KO ExcR.T4)<|Tp<|KA<|Te UB<|KA T5) b0)<|b1<|sF 0<|sO [1,2] ExcR.Zmw (iL<|xv 0) (gT 2<|gc (gN 1)<|gc (gN 2) g0)<|bc (sE<|xg Yn s ExcR.Xu<|a1<|xv 1)<|b1<|sE<|xg Y3 s ExcR.Xu<|a1<|xv 2)) (.a ?_)
 ·rintro C R X ⟨f,rfl,A,l⟩;refine⟨rfl,?_⟩;have B:(f.map prD).length=f.length:=Wt ..;unfold Nc at l;refine U8 (λg=>?_) (λg=>?_)
  ·have v:(40:Int)<((f.map prD).length:Int):=Wy g;rw[W3 (by lia)]at l;exact⟨by decide,by decide,by decide,by decide,by decide,by simp,l⟩
  ·have v:¬(40:Int)<((f.map prD).length:Int):=λz=>g (Ww z);rw[W2 (by lia)]at l;refine⟨rfl,XQ (xs:=f) (emb:=prD) (λi o=>o=[some (.bor<|plD f),none,none]/\PM (f.drop i)=PM f) ⟨rfl,rfl⟩ ?_ ?_⟩
   ·rintro i u o ⟨rfl,h⟩;have x:f.drop i=f[i]::f.drop (i+1):=V5 u;rw[x,Zig]at h;generalize f[i]=p at h ⊢;refine⟨rfl,p.1,rfl,?_⟩;unfold Ni;by_cases c:1<=p.1/\p.1<=10
    ·rw[W2 (λz=>z c)]at h;rw[W3 c];refine⟨p.2,rfl,?_⟩;unfold F0;by_cases r:1<=p.2/\p.2<=1000
     ·rw[W2 (λz=>z r)]at h;rw[W3 r];exact⟨rfl,h⟩
     ·rw[W3 r]at h;rw[W2 r];rw[←h]at l;exact l
    ·rw[W3 c]at h;rw[W2 c];rw[←h]at l;exact l
   ·rintro o ⟨rfl,h⟩;rw[List.drop_length]at h;rw[←h]at l;exact l
def Rz(DD:Def K mg "ring_from" AS ["least","holders","wishes"])
  : Gv ζ:=by
 refine DD.fz Zdi (λU n=>(bc (sF 0<|sS 3 n<|xL<|a1<|xL<|a1<|xv 0)<|bc (sS 4 n<|xe (Xw (BC (K:=K) (w:=w) rfl) (by rfl) G.Zh boot_sorted<|az<|cz ["holder","least"] [none,some 0] (P9 (K:=K)<|pv 1) ⟨(gk 0),(BL<|Kq Ka (pv 0) (pv 1)<|Kl _),(pv 0)⟩)<|Bw<|sz<|Pa (Nl<|U4 1) (X8 0) (XU<|XW (U4 0)<|U4 1)<|U4 0)<|bc (sW [5,6] WJ (tt<|xv 3)<|bc (sF 0<|sC 5 ["path","wishes","least"] [none,some 2,some 0] n (jL<|xv 3) (gN 0) (f1<|ti U (xt<|a2 (xx (xv 0)<|xe (XZ XX UI)<|Kb UB)<|xv 2)<|xv 1)<|xv 0)<|bc (sI (tt<|xv 5) (b1<|sr<|xx (xv 5) xi) b0)<|bc (sS 3 n<|xf Y6 U<|a3 (xv 3) (xv 4)<|xv 2)<|bc (sS 6 n<|xC ["path"] [none] (jL<|xv 3) (gN 0) f0<|xx (xv 0)<|xe (XZ XX UI)<|Kb UB)<|b1<|sC 4 ["holder","reached"] [none,some 6] n (jL<|xv 4) (gN 0) (f1<|tI U (xv 0)<|xv 1)<|xv 0)<|b1<|sr<|xL a0)) (.a ?_)
 ·rintro ds R X ⟨l,y,B,rfl,hnd,hz,hR⟩;refine⟨rfl,by simp,by simp,XA (xs:=y) (emb:=D.int) (λh=>if decide (l<h)=true then some (.int h)else none) (by lia) (λh _=>U8 (λg=>⟨_,rfl,W3 g⟩) (λg=>W2 g)) ?_⟩;rw[En λh=>decide (l<h)];refine⟨y.filter λh=>decide (l<h),rfl,Jn (Q8 _ _) (by lia),λf u J=>?_⟩;have hlt:f.Pairwise (· < ·):=Sx J (u.nodup_iff.mpr<|hnd.filter _)
  have hm:∀h,h∈f↔Gr y l h:=λh=>by
   rw[u.mem_iff,WT,VP];exact Iff.rfl
  have M:f.length<=y.length:=by
   rw[u.length_eq];exact Q8 _ _
  refine Dz (λE=>∃k o f,E=[some (.sh<|.int l),some (.bor<|.lst<|y.map D.int),some (.bor<|.lst<|B.map prD),some (.own<|o.map<|em l),some (.own<|f.map D.int),none,none]/\Lev y B l k o f/\o.length<=60/\f.length<=y.length/\(k+f.length<=y.length\/(o=[]/\k<=y.length+1)))
   (λγ=>2*Mx 4 γ+min 1 (Mx 3 γ)) ⟨0,[[]],f,rfl,Lev.start hlt hm,by simp,M,.inl (by lia)⟩ ?_
  rintro E ⟨k,o,f,rfl,L,hpl,hll,hk⟩;have emp:(!(o.map<|em l).isEmpty)=decide (o≠[]):=by cases o<;>simp
  show if (!(o.map<|em l).isEmpty)=true then _ else _;rw[emp];refine U8 (λg=>?_) (λg=>?_)
  ·have A:o≠[]:=Wy g;have hk':k+f.length<=y.length:=hk.elim id λz=>absurd z.1 A;have Y:∀p∈o,p.length<=60:=λp u=>by rw[(L.way p u).1];lia
   refine XA (xs:=o) (emb:=em l) (λp=>if decide ((UE l p,l)∈B)=true then some (em l p)else none) (by lia) (λp u=>⟨_,Bi l p,by simp,_,.lp (UE l p,l) B,U8 (λg=>⟨_,rfl,W3 g⟩) (λg=>W2 g)⟩) ?_;rw[KP λp=>decide ((UE l p,l)∈B)];generalize ef:(o.filter λp=>decide ((UE l p,l)∈B))=fs;have Q:(!(fs.map<|em l).isEmpty)=decide (fs≠[]):=by cases fs<;>simp
   show if (!(fs.map<|em l).isEmpty)=true then _ else _;rw[Q];refine U8 (λg2=>?_) (λg2=>?_)
   ·have C:fs≠[]:=Wy g2;cases fs with
    |nil=>exact absurd rfl C
    |cons p r=>
     obtain⟨i,hi,T,e2,e3⟩:=DA ef;have u:p∈o:=by rw[←T];exact WL hi
     refine⟨em l p,XC _ _,hR (l::p) (L.found hi T (Wy e2) λj hj hji z=>?_) (by have:=(L.way p u).1;simp;lia)⟩
     have:=e3 j hj hji
     rw[Ww z]at this;cases this
   ·have C:fs=[]:=WQ λz=>g2 (Ww z)
    have hn:∀p∈o,(UE l p,l)∉B:=λp u z=>by
     have:p∈fs:=by rw[←ef];exact WT.mpr ⟨u,Ww z⟩
     rw[C]at this;cases this
    refine⟨l,o,f,B,rfl,L.srt,L.lsrt,λp u=>W9 (Y p u) (by decide),by lia,λs G hlg=>?_⟩;refine XA (xs:=s) (emb:=em l) (λp=>some (.int<|UE l p)) (by lia) (λp _=>⟨_,Bi l p,_,rfl,rfl⟩) ?_;have T:s.filterMap (λp=>some (D.int<|UE l p))=(s.map<|UE l).map D.int:=by rw[Vr,Qi];rfl
    rw[T];refine XA (xs:=f) (emb:=D.int) (λh=>if decide (¬h∈s.map (UE l))=true then some (.int h)else none) (by lia) (λh _=>⟨_,.li h _,?_⟩) ?_
    ·by_cases c:h∈s.map (UE l)
     ·simp only[Ww c];exact UQ (W2<|by simp[c])
     ·simp only[Qa c];exact Xs ⟨_,rfl,W3 (by simp[c])⟩
    rw[En λh=>decide (¬h∈s.map (UE l))];have L':=L.next hn G rfl
    have H:∀h∈s.map (UE l),h∈f:=λh hh=>by
     obtain⟨q,hq,e⟩:=WZ.mp hh;obtain⟨p,x,⟨_,a⟩,rfl,_⟩:=G.mem q hq;rw[Kw]at e;rw[←e];exact a
    have N:=Q8 (λh=>decide (¬h∈s.map (UE l))) f
    have v:s≠[]->(f.filter λh=>decide (¬h∈s.map (UE l))).length<f.length:=λA=>by
     obtain⟨q,hq⟩:=V6 s A;have hm:UE l q∈f:=H _ (Vl hq);refine Nat.lt_of_le_of_ne N λz=>?_
     have:=List.filter_eq_self.mp (List.Sublist.eq_of_length (List.filter_sublist (l:=f)) z) (UE l q) hm
     rw[VP]at this;exact this (Vl hq)
    refine⟨⟨k+1,s,_,rfl,L',by lia,by lia,?_⟩,?_⟩
    ·by_cases c:s=[]
     ·exact .inr ⟨c,by lia⟩
     ·have:=v c
      exact .inl (by lia)
    ·show 2*((f.filter λh=>decide (¬h∈s.map (UE l))).map D.int).length+min 1 (s.map<|em l).length<2*(f.map D.int).length+min 1 (o.map<|em l).length;rw[Wt,Wt,Wt,Wt]
     have:0<o.length:=Vj.mpr A
     by_cases c:s=[]
     ·rw[c];rw[c]at N;simp only[List.length_nil];lia
     ·have:=v c
      lia
  ·have hpe:o=[]:=WQ λz=>g (Ww z);subst hpe;exact⟨by simp,hR [] L.over (by simp)⟩
def O3(v:Def K mg "sold" FK ["strips","place","holder"])
  : Gw ζ:=by
 refine v.fy Zfm (λo n=>(bc (sE<|xg Yt o ExcR.Xu<|a2 (xv 0)<|xv 1)<|bc (sE<|xg Yn o ExcR.Xu<|a1<|xv 2)<|bc (sS 3 n<|xx (xv 0)<|xo XH XD (xv 1) xi)<|bc (sI (tq o (xx (xv 3) xi)<|xv 2) (b1<|sQ G.Z8 G.Z7 ExcR.Km<|a1 xs) b0)<|b1<|sF 2<|sR<|xo XN XJ (xo XN XJ (xp (xv 0) o0<|o1<|xo XH XD (xv 1) xi)<|xL<|a1<|xt<|a2 (xv 2)<|xx (xv 3) xi)<|xp (xv 0) (o1<|xv 1) o0)) (.a ?_)
 ·rintro A R X ⟨ps,p,h,rfl,y,f⟩;refine⟨rfl,?_⟩;unfold Ke at f;refine⟨ps,p,rfl,?_⟩;unfold B7;by_cases c:p<1\/(ps.length:Int)<p
  ·rw[W3 c]at f ⊢;exact f
  ·rw[W2 c]at f ⊢;refine⟨h,rfl,?_⟩;unfold Ni;by_cases l:1<=h/\h<=10
   ·rw[W2 (λz=>z l)]at f;rw[W3 l];refine⟨_,Pr (by lia) (by lia),?_⟩;have s:(cutD (ps.map prD) none<|some (p-1)).length<=1000:=by have:=(PH (ps.map prD) none<|some (p-1)).length_le;rw[Wt]at this;lia
    have u:(cutD (ps.map prD) (some p) none).length<=1000:=by have:=(PH (ps.map prD) (some p) none).length_le;rw[Wt]at this;lia
    refine⟨_,rfl,U8 (λg=>?_) (λg=>?_)⟩
    ·have r:(UG ps p).1=h:=Wy g;rw[W3 r]at f;exact⟨by simp,f⟩
    ·have r:¬(UG ps p).1=h:=λz=>g (Ww z);rw[W2 r]at f;refine⟨Pe _,_,rfl,by simp,by simp,rfl,rfl,W9 (Qc s<|W5 1) (by decide),Pe _,rfl,rfl,W9 (Qc (by rw[W7];exact Qc s (W5 1)) u) (by decide),?_⟩;have e:=EM (ps:=ps) (p:=p) (x:=(h,(UG ps p).2)) (by lia) (by lia);show R (.own (cutD (ps.map prD) none (some (p-1))++[prD (h,(UG ps p).2)]++cutD (ps.map prD) (some p) none));rw[e];exact f
   ·rw[W3 l]at f;rw[W2 l];exact f
def Zll(A:Def K mg "parted" Dx ["strips","place","width"])
  : Hi ζ:=by
 refine A.fy Zg4 (λx n=>(bc (sE<|xg Yt x ExcR.Xu<|a2 (xv 0)<|xv 1)<|bc (sS 3 n<|xx (xv 0)<|xo XH XD (xv 1) xi)<|bc (sI (tp<|wo (tc Kk Ko (xv 2) xi)<|wO<|tc TR TL (xv 2)<|xx (xv 3) xi) (b1<|sQ G.ZE G.ZD ExcR.Km<|a1 xs) b0)<|bc (sI (tc TR TL (xl G.len<|xv 0)<|xe (ExcR.Kz G.Zl) UB) (b1<|sQ G.Zj G.Zi ExcR.Km<|a1<|xe (ExcR.T6<|ExcR.KO<|ExcR.Ti (ExcR.Kz G.Zl)<|ExcR.KO ExcR.T4)<|Tp<|KA<|Te UB<|KA T5) b0)<|b1<|sF 2<|sR<|xo XN XJ (xo XN XJ (xp (xv 0) o0<|o1<|xo XH XD (xv 1) xi)<|xL<|a2 (xt<|a2 (xx (xv 3) xi)<|xv 2)<|xt<|a2 (xx (xv 3) xi)<|xo XH XD (xx (xv 3) xi)<|xv 2)<|xp (xv 0) (o1<|xv 1) o0)) (.a ?_)
 ·rintro J R X ⟨h,p,w,rfl,B,f⟩;refine⟨rfl,?_⟩;have C:(h.map prD).length=h.length:=Wt ..;refine⟨h,p,rfl,?_⟩;unfold X0 at f;unfold B7;by_cases c:p<1\/(h.length:Int)<p
  ·rw[W3 c]at f ⊢;exact f
  ·rw[W2 c]at f ⊢;refine⟨_,Pr (by lia) (by lia),?_⟩
   have E:¬(w<1\/(UG h p).2<=w)->_:=λo=>by
    rw[W2 o]at f;exact f
   by_cases o:w<1\/(UG h p).2<=w
   ·rw[W3 o]at f;refine U8 (λg=>Xs ⟨by simp,f⟩) (λg=>⟨_,rfl,U8 (λl=>⟨by simp,f⟩) (λl=>?_)⟩);have H:¬w<1:=λz=>g (Ww z);have y:¬(UG h p).2<=w:=λz=>l (Ww z);lia
   ·rw[W2 o]at f;refine U8 (λg=>absurd (Wy g) (by lia)) (λg=>⟨_,rfl,U8 (λl=>absurd (Wy l) (by lia)) (λl=>?_)⟩);refine U8 (λs=>?_) (λs=>?_)
    ·have r:(40:Int)<=((h.map prD).length:Int):=Wy s;rw[W3 (by lia)]at f;exact⟨by decide,by decide,by decide,by decide,by decide,by simp,f⟩
    ·have r:¬(40:Int)<=((h.map prD).length:Int):=λz=>s (Ww z);rw[W2 (by lia)]at f;have u:(cutD (h.map prD) none<|some (p-1)).length<=1000:=by have:=(PH (h.map prD) none<|some (p-1)).length_le;rw[Wt]at this;lia
     have v:(cutD (h.map prD) (some p) none).length<=1000:=by have:=(PH (h.map prD) (some p) none).length_le;rw[Wt]at this;lia
     refine⟨Pe _,_,rfl,by simp,_,rfl,_,rfl,by simp,by simp,rfl,rfl,W9 (Qc u<|W5 2) (by decide),Pe _,rfl,rfl,W9 (Qc (by rw[W7];exact Qc u (W5 2)) v) (by decide),?_⟩;rw[←Eh (by lia)]at f;exact f
def O4(v:Def K mg "united" FE ["strips","place"])
  : G7 ζ:=by
 refine v.fy Zlh (λr n=>(bc (sE<|xg Y5 r ExcR.Xu<|a2 (xv 0)<|xv 1)<|bc (sS 2 n<|xx (xv 0)<|xo XH XD (xv 1) xi)<|bc (sS 3 n<|xx (xv 0)<|xv 1)<|bc (sI (tn r (xx (xv 2) xi)<|xx (xv 3) xi) (b1<|sQ G.Zt G.Zs ExcR.Km<|a1 xs) b0)<|bc (sI (tc Ka XW (xo UT UV (xx (xv 2) xi)<|xx (xv 3) xi)<|xe (ExcR.Kz G.Zm) UB) (b1<|sQ G.ZG G.ZF ExcR.Km<|a1<|xe (ExcR.T6<|ExcR.KO<|ExcR.Ti (ExcR.Kz G.Zm)<|ExcR.KO ExcR.T4)<|Tp<|KA<|Te UB<|KA T5) b0)<|b1<|sR<|xo XN XJ (xo XN XJ (xp (xv 0) o0<|o1<|xo XH XD (xv 1) xi)<|xL<|a1<|xt<|a2 (xx (xv 2) xi)<|xo UT UV (xx (xv 2) xi)<|xx (xv 3) xi)<|xp (xv 0) (o1<|xo UT UV (xv 1) xi) o0)) (.a ?_)
 ·rintro A R X ⟨ps,p,rfl,x,f⟩;refine⟨rfl,?_⟩;have y:(ps.map prD).length=ps.length:=Wt ..;refine⟨ps,p,rfl,?_⟩;unfold Xm at f;by_cases c:p<1\/(ps.length:Int)<=p
  ·rw[W3 c]at f ⊢;exact f
  ·rw[W2 c]at f ⊢
   have u:atI (ps.map prD) p=some (prD<|UG ps (p+1)):=by
    have:=Pr (ps:=ps) (p:=p+1) (by lia) (by lia)
    rwa[show p+1-1=p by lia]at this
   refine⟨_,Pr (by lia) (by lia),_,u,_,rfl,_,rfl,U8 (λg=>?_) (λg=>?_)⟩
   ·have l:¬(UG ps p).1=(UG ps (p+1)).1:=λz=>by rw[Ww z]at g;cases g
    rw[W3 l]at f;exact⟨by simp,f⟩
   ·have l:(UG ps p).1=(UG ps (p+1)).1:=WQ λz=>g (by rw[Qa z];rfl);rw[W2 (λz=>z l)]at f;refine⟨_,rfl,_,rfl,U8 (λh=>?_) (λh=>?_)⟩
    ·rw[W3 (Wy h)]at f;exact⟨by decide,by decide,by decide,by decide,by decide,by simp,f⟩
    ·rw[W2 (λz=>h (Ww z))]at f;have o:(cutD (ps.map prD) none<|some (p-1)).length<=1000:=by have:=(PH (ps.map prD) none<|some (p-1)).length_le;rw[Wt]at this;lia
     have s:(cutD (ps.map prD) (some (p+1)) none).length<=1000:=by have:=(PH (ps.map prD) (some (p+1)) none).length_le;rw[Wt]at this;lia
     refine⟨Pe _,_,rfl,_,rfl,_,rfl,by simp,by simp,rfl,rfl,W9 (Qc o<|W5 1) (by decide),Pe _,rfl,rfl,W9 (Qc (by rw[W7];exact Qc o (W5 1)) s) (by decide),?_⟩;rw[←Md (by lia)]at f;exact f
def Rm(y:Def K mg "with_wish" Co ["wishes","ahead","behind"])
  : EF ζ:=by
 refine y.fy Zgt (λl n=>(bc (sE<|xg Yn l ExcR.Xu<|a1<|xv 1)<|bc (sE<|xg Yn l ExcR.Xu<|a1<|xv 2)<|bc (sI (tq l (xv 1)<|xv 2) (b1<|sQ G.Zy G.Zx ExcR.Km<|a1 xs) b0)<|bc (sI (ti l (xt<|a2 (xv 1)<|xv 2)<|xv 0) (b1<|sQ G.Z2 G.Z1 ExcR.Km<|a1 xs) b0)<|bc (sI (tc TR TL (xl G.len<|xv 0)<|xe (ExcR.Kz G.Zn) UB) (b1<|sQ G.Zv G.Zu ExcR.Km<|a1<|xe (ExcR.T6<|ExcR.KO<|ExcR.Ti (ExcR.Kz G.Zn)<|ExcR.KO ExcR.T4)<|Tp<|KA<|Te UB<|KA T5) b0)<|b1<|sF 2<|sF 1<|sR<|xo XN XJ (xv 0)<|xL<|a1<|xt<|a2 (xv 1)<|xv 2)) (.a ?_)
 ·rintro A R X ⟨h,a,b,rfl,v,f⟩;refine⟨rfl,?_⟩;have x:(h.map prD).length=h.length:=Wt ..;unfold Xt at f;refine⟨a,rfl,?_⟩;unfold Ni;by_cases p:1<=a/\a<=10
  ·rw[W2 (λz=>z p)]at f;rw[W3 p];refine⟨b,rfl,?_⟩;unfold Ni;by_cases o:1<=b/\b<=10
   ·rw[W2 (λz=>z o)]at f;rw[W3 o];refine U8 (λg=>?_) (λg=>?_)
    ·rw[W3 (Wy g)]at f;exact⟨by simp,f⟩
    ·rw[W2 (λz=>g (Ww z))]at f;refine⟨by simp,_,.lp (a,b) h,U8 (λu=>?_) (λu=>?_)⟩
     ·rw[W3 (Wy u)]at f;exact⟨by simp,f⟩
     ·rw[W2 (λz=>u (Ww z))]at f;refine U8 (λs=>?_) (λs=>?_)
      ·have r:(20:Int)<=((h.map prD).length:Int):=Wy s;rw[W3 (by lia)]at f;exact⟨by decide,by decide,by decide,by decide,by decide,by simp,f⟩
      ·have r:¬(20:Int)<=((h.map prD).length:Int):=λz=>s (Ww z);rw[W2 (by lia)]at f;refine⟨by simp,by simp,Pe _,rfl,W9 (Qc (W9 (QH x) v)<|W5 1) (by decide),?_⟩;rw[WI]at f;exact f
   ·rw[W3 o]at f;rw[W2 o];exact f
  ·rw[W3 p]at f;rw[W2 p];exact f
def Zbs(E:Def K mg "pair_costs" Ca ["strips"])
  : LK ζ:=by
 refine E.fz Mh (λr n=>(bc (sS 1 n<|xf Yk r<|a1<|xv 0)<|bc (se (Pu.pz 2 Mh.nd Zj3)<|Th Zhf<|X8 2)<|bc (sF 1<|sO [3,4] WJ (iL<|xv 1) (gN 3)<|b1<|sF 1<|sO [4] WJ (iL<|xv 1) (gN 4)<|b1<|sF 4<|sF 3<|se (AG (Kd<|r ()) (pv 2) (Kf<|bz (pv 3)<|pv 4) (fz Y4 (r ())<|dz (pv 0) (pv 3)<|pv 4) rfl)<|Cu 2 (Kj<|tz (U4 3)<|U4 4)<|Pz<|uz (U4 0) (U4 3)<|U4 4)<|b1<|sV 2)) (.a ?_)
 ·rintro H R X ⟨l,rfl,v,z,u⟩;refine⟨rfl,l,rfl,v,z,?_⟩;have C:=Tr l;generalize UD l=g at C u ⊢
  refine⟨rfl,XQ (xs:=g) (emb:=D.int) (λi h=>∃f:List (List Key×V),h=[some (.bor<|.lst<|l.map prD),some (.sh<|.lst<|g.map D.int),some (.own<|.dT f),none,none]/\f.length<=i*10/\
   ∀x∈g.take i,∀y∈g,UL f [.inl x,.inl y]=some (.int<|pcM l x y l.length)) ⟨[],rfl,by simp,by simp⟩ ?_ ?_⟩
  ·rintro i B h ⟨f,rfl,s,p⟩
   refine⟨rfl,XQ (xs:=g) (emb:=D.int) (λj h=>∃f:List (List Key×V),h=[some (.bor<|.lst<|l.map prD),some (.sh<|.lst<|g.map D.int),some (.own<|.dT f),some (.sh (.int g[i])),none]/\f.length<=i*10+j/\
    (∀x∈g.take i,∀y∈g,UL f [.inl x,.inl y]=some (.int<|pcM l x y l.length))/\∀y∈g.take j,UL f [.inl g[i],.inl y]=some (.int (pcM l g[i] y l.length))) ⟨f,rfl,by lia,p,by simp⟩ ?_ ?_⟩
   ·rintro j A h ⟨f,rfl,s,p,hw⟩;refine⟨l,_,_,rfl,v,by simp,_,_,rfl,rfl,by lia,_,rfl,W9 (Be _ _ _) (by lia),λx hx y o=>?_,λy o=>?_⟩
    ·rw[Ba];by_cases e:([.inl x,.inl y]:List Key)=[.inl g[i],.inl g[j]]
     ·rw[W3 e];simp only[Je,Sum.inl.injEq,and_true]at e;rw[e.1,e.2]
     ·rw[W2 e];exact p x hx y o
    ·rw[Ba];by_cases e:([.inl g[i],.inl y]:List Key)=[.inl g[i],.inl g[j]]
     ·rw[W3 e];simp only[Je,Sum.inl.injEq,and_true]at e;rw[e.2]
     ·rw[W2 e];rw[WG A,WC,Wx]at o;rcases o with o|o
      ·exact hw y o
      ·subst o;exact absurd rfl e
   ·rintro h ⟨f,rfl,s,p,hw⟩;rw[Qe]at hw;refine⟨f,rfl,by lia,λx hx y o=>?_⟩;rw[WG B,WC,Wx]at hx;rcases hx with hx|hx
    ·exact p x hx y o
    ·subst hx;exact hw y o
  ·rintro h ⟨f,rfl,s,p⟩;rw[Qe]at p;exact u f p
def Zle(y:Def K mg "cost_with_last" A5 ["members","last","least","pairs"])
  : Hy ζ:=by
 refine y.fz Zcd (λg n=>(bc (sS 4 n<|xf Yq g<|a2 (xv 0)<|xv 1)<|b1<|sF 1<|sR<|xo UT UV (xe (Sg (Kd<|g ()) (pv 2) (pv 4) (λ_ _=>rfl))<|Sa (U4 2)<|U4 4)<|xe (Xw (Ms (K:=K) rfl) (by rfl) G.ZM boot_sum<|az<|cz ["other","pairs","last"] [none,some 3,some 1] (NC (K:=K)<|pv 4) ⟨(gk 0),PZ,(Sg (Kd<|g ()) (pv 1) (Kf<|bz (pv 0)<|pv 2) (λ_ _=>rfl))⟩)<|LH<|sz<|Pa (SndI.c<|NU<|U4 4) (X8 0) T8<|Sa (U4 1)<|Kj<|tz (U4 0)<|U4 2)) (.a ?_)
 ·rintro A R X ⟨f,l,le,z,c,v,rfl,h,p,u,x⟩;refine⟨rfl,?_⟩;rw[N9];have o:(UK f l).length<=1000:=W9 less_sub.length_le h;refine⟨f,l,rfl,h,_,_,Bk _,p,rfl,_,rfl,XA (s:=.sh .non) (xs:=UK f l) (emb:=D.int) (λm=>some (.int<|c m)) (by lia) (λm r=>?_) ?_⟩
  ·exact⟨by simp,_,_,rfl,u m r,rfl,_,rfl,rfl⟩
  ·rw[Py];exact⟨(UK f l).map c,by rw[Qi];rfl,x⟩
def Zc8(y:Def K mg "cost_with_first" Da ["members","first","least","pairs"])
  : D9 ζ:=by
 refine y.fz Zct (λg n=>(bc (sS 4 n<|xf Yq g<|a2 (xv 0)<|xv 1)<|b1<|sF 1<|sR<|xo UT UV (xe (Sg (Kd<|g ()) (pv 2) (pv 4) (λ_ _=>rfl))<|Sa (U4 2)<|U4 4)<|xe (Xw (Ms (K:=K) rfl) (by rfl) G.ZM boot_sum<|az<|cz ["other","pairs","first"] [none,some 3,some 1] (NC (K:=K)<|pv 4) ⟨(gk 0),PZ,(Sg (Kd<|g ()) (pv 1) (Kf<|bz (pv 2)<|pv 0) (λ_ _=>rfl))⟩)<|LH<|sz<|Pa (SndI.c<|NU<|U4 4) (X8 0) T8<|Sa (U4 1)<|Kj<|tz (U4 2)<|U4 0)) (.a ?_)
 ·rintro A R X ⟨f,l,le,z,c,v,rfl,h,p,u,x⟩;refine⟨rfl,?_⟩;rw[N9];have o:(UK f l).length<=1000:=W9 less_sub.length_le h;refine⟨f,l,rfl,h,_,_,Bk _,p,rfl,_,rfl,XA (s:=.sh .non) (xs:=UK f l) (emb:=D.int) (λm=>some (.int<|c m)) (by lia) (λm r=>?_) ?_⟩
  ·exact⟨by simp,_,_,rfl,u m r,rfl,_,rfl,rfl⟩
  ·rw[Py];exact⟨(UK f l).map c,by rw[Qi];rfl,x⟩
def Ze0(z:UY K (UU K (UM ζ) "drop") "drop" "Village.drop" CM ["self","ahead","behind"])
  : DK ζ:=by
 refine z.fy Ry (λl n=>(bc (se (Kv<|Xg Yl G.Za (hq<|l ()) ExcR.Xu<|pv 0)<|TY<|Sf Sy (U4 0) UN)<|bc (sS 3 n<|xg Y7 l ExcR.Xu<|a3 (xe (Xg Yh G.Za (hq<|l ()) Xf<|pv 0)<|Xz P1 (U4 0) UN) (xv 1)<|xv 2)<|b1<|sF 2<|sF 1<|sF 3<|se (X4<|Pb Ym G.Za (hq<|l ()) Xf (pv 0)<|dz (Kf<|dz Tu (pv 1)<|pv 2) (Xg Yg G.Za (hq<|l ()) Xf<|pv 0)<|pv 3)<|KZ<|Nh 0 NS<|uz (Kj<|uz Tq (U4 1)<|U4 2) (Xz Ph (U4 0) UN)<|U4 3)) (.c ?_)
 ·rintro o A R X ⟨x,b1,y,v,bk,fs,r,f,w,p,h,rfl,rfl,u,B,hw,s,g⟩;refine⟨rfl,?_⟩;unfold Br at g;refine⟨rfl,rfl,bk,fs++[f],r++[w],rfl,?_⟩;unfold Tn;by_cases c:100<=bk.length
  ·rw[W3 c]at g ⊢;exact⟨_,rfl,⟨rfl,by simp⟩,g⟩
  ·rw[W2 c]at g ⊢;refine⟨rfl,rfl,bk,fs++[f],r,w,rfl,w,p,h,rfl,s,?_⟩;cases e:Xy w p h with
   |some c=>
    rw[e]at g;exact⟨_,rfl,⟨rfl,by simp⟩,g⟩
   |none=>
    rw[e]at g;refine⟨rfl,rfl,by simp,rfl,rfl,bk,fs,r++[w],f,rfl,?_⟩;exact⟨x,b1,y,v,bk,fs++[f],r++[w],("drop",[p,h]),f,Nr w p h,rfl,rfl,u,by rw[W7];simp;lia,by rw[W7];simp;lia,_,rfl,⟨rfl,by simp⟩,g⟩
def Zlb(l:Def K mg "_law_draw" D5 ["_law_script","_law_k"])
  : Lf ζ:=by
 refine l.fz Zj9 (λf n=>(bc (sI (tq f (xo UP UO (xf Yf f<|a2 (xv 0) xi) xi) xi) (b1<|sR<|xf Yf f<|a2 (xv 0)<|xo UT UV xi<|xv 1) b0)<|b1<|sR<|xf Yi f<|a2 (xf Yf f<|a2 (xv 0) xi)<|xv 1)) (.a ?_)
 ·rintro p R X ⟨g,k,rfl,o,h⟩;refine⟨rfl,g,0,rfl,by decide,(by show(0:Int)<2;decide),U8 (λ_=>?_) (λ_=>?_)⟩
  ·exact⟨g,_,rfl,by lia,h _⟩
  ·exact⟨g,1,rfl,by decide,_,_,rfl,h _⟩
def Zag(l:Def K mg "_law_spare" Av ["_law_script"])
  : LO ζ:=by
 refine l.fz Zja (λf n=>(bc (sI (tq f (xo UP UO (xf Yf f<|a2 (xv 0) xi) xi) xi) (b1<|sR<|xo Xn Xl (xf Yf f<|a2 (xv 0) xi) xi) b0)<|b1<|sR<|xf Yi f<|a2 (xf Yf f<|a2 (xv 0) xi) xi)) (.a ?_)
 ·rintro o R X ⟨g,rfl,h⟩;refine⟨rfl,?_⟩;exact⟨g,0,rfl,by decide,(by show(0:Int)<2;decide),U8 (λ_=>⟨g,0,rfl,by decide,⟨by decide,by decide⟩,h _⟩) (λ_=>⟨g,1,rfl,by decide,_,_,rfl,h _⟩)⟩
def Ow(s:Def K mg "_law_row" BX ["_law_found","_law_due"])
  : IP ζ:=by
 refine s.fz Ziz (λg n=>(bc (sI (tp<|wo (tN<|tt<|xe (Xw (PY (K:=K)) (by rfl) G.Zc QL<|bz (pv 0)<|PQ (v:=.ty "list") rfl G.Zg boot_list rfl)<|P5<|tz (U4 0) PP)<|wO<|tn g (xl G.len<|xv 0)<|xl G.len<|xv 1) (b1<|sR xb) b0)<|bc (sO [2] WJ (ir G.Zf<|a1<|xl G.len<|xv 1) (gN 2)<|b1<|sI (tp<|wo (tN<|tt<|xf Yo g<|a1<|xx (xv 0)<|xv 2)<|wO<|tn g (xx (xv 0)<|xv 2)<|xx (xv 1)<|xv 2) (b1<|sR xb) b0)<|b1<|sR xb)) (.a ?_)
 ·rintro y R X ⟨xs,rfl,u,r⟩;refine⟨rfl,?_⟩;have x:(xs.map D.int).length=xs.length:=Wt ..;refine⟨_,.same _,UQ (PB rfl ?_)⟩;refine⟨⟨by lia,by lia⟩,Pf (λi f=>f=[some (.bor<|.lst<|xs.map D.int),some (.bor<|.lst<|xs.map D.int),none]) rfl ?_ ?_⟩
  ·rintro i f o rfl;have l:i<(((xs.map D.int).length:Nat):Int).toNat:=o;have ez:(0:Int)+(i:Int)=(i:Int):=by lia
   have p:i<xs.length:=by lia
   have h:atI (xs.map D.int) (0+(i:Int))=some (.int xs[i]):=by rw[ez];exact AN p
   exact⟨_,h,_,rfl,UQ ⟨_,h,_,h,PB rfl rfl⟩⟩
  ·rintro f rfl;exact r
def Zgz(A:Def K mg "_law_tuples" FF ["_law_found","_law_due"])
  : Hs ζ:=by
 refine A.fz Zk1 (λl n=>(bc (sI (tp<|wo (tN<|tt<|xe (Xw (PY (K:=K)) (by rfl) G.Zc QL<|bz (pv 0)<|PQ (v:=.ty "list") rfl G.Zg boot_list rfl)<|P5<|tz (U4 0) PP)<|wO<|tn l (xl G.len<|xv 0)<|xl G.len<|xv 1) (b1<|sR xb) b0)<|bc (sO [2,3] WJ (ir G.Zf<|a1<|xl G.len<|xv 1) (gN 2)<|bc (sI (tp<|wo (tN<|tt<|xe (Xw (PY (K:=K)) (by rfl) G.Zc QL<|bz (jx K (pv 0)<|pv 2)<|PQ (v:=.ty "tuple") rfl G.Zo boot_tuple rfl)<|P5<|tz (Xh (U4 0)<|U4 2) PP)<|wO<|tn l (xl G.len<|xx (xv 0)<|xv 2)<|xl G.len<|xx (xv 1)<|xv 2) (b1<|sR xb) b0)<|b1<|sO [3] WJ (ir G.Zf<|a1<|xl G.len<|xx (xv 1)<|xv 2) (gN 3)<|b1<|sI (tp<|wo (tN<|tt<|xf Yo l<|a1<|xx (xx (xv 0)<|xv 2)<|xv 3)<|wO<|tn l (xx (xx (xv 0)<|xv 2)<|xv 3)<|xx (xx (xv 1)<|xv 2)<|xv 3) (b1<|sR xb) b0)<|b1<|sR xb)) (.a ?_)
 ·rintro E R X ⟨g,rfl,B,y⟩;refine⟨rfl,?_⟩;have C:(g.map prD).length=g.length:=Wt ..;refine⟨_,.same _,UQ (PB rfl ?_)⟩;refine⟨⟨by lia,by lia⟩,Pf (λi f=>∃t,f=[some (.bor<|.lst<|g.map prD),some (.bor<|.lst<|g.map prD),none,t]) ⟨_,rfl⟩ ?_ ?_⟩
  ·rintro i f u ⟨t,rfl⟩;have s:i<(((g.map prD).length:Nat):Int).toNat:=u;have ez:(0:Int)+(i:Int)=(i:Int):=by lia
   have x:i<g.length:=by lia
   have h:atI (g.map prD) (0+(i:Int))=some (prD g[i]):=by rw[ez];exact AN x
   generalize g[i]=q at h;refine⟨_,h,_,.same _,UQ ⟨_,h,_,h,?_⟩⟩;refine⟨_,h,⟨(by show -(2 ^ 62)<=(2:Int);decide),(by show(2:Int)<2 ^ 62;decide)⟩,Pf (λj f=>∃t,f=[some (.bor<|.lst<|g.map prD),some (.bor<|.lst<|g.map prD),some (.sh<|.int (0+(i:Int))),t]) ⟨_,rfl⟩ ?_ ?_⟩
   ·rintro j f r ⟨t,rfl⟩;have p:j<2:=r
    obtain⟨z,o⟩:∃z:Int,atI [D.int q.1,D.int q.2] (0+(j:Int))=some (.int z):=by
     have:j=0\/j=1:=by lia
     rcases this with rfl|rfl
     ·exact⟨_,rfl⟩
     ·exact⟨_,rfl⟩
    exact⟨_,h,_,o,z,rfl,UQ ⟨_,h,_,o,_,h,_,o,PB rfl ⟨_,rfl⟩⟩⟩
   ·rintro f ⟨t,rfl⟩;exact⟨_,rfl⟩
  ·rintro f ⟨t,rfl⟩;exact y
def Zm2(p:Def K mg "_law_deed_is" Cz ["_law_found","_law_due"])
  : Gq ζ:=by
 refine p.fz Zaj (λh n=>(bc (sI (tp<|wo (tN<|tt<|xe (Xw (PY (K:=K)) (by rfl) G.Zc QL<|bz (pv 0)<|PQ (v:=.ty "tuple") rfl G.Zo boot_tuple rfl)<|P5<|tz (U4 0) PP)<|wo (tn h (xl G.len<|xv 0)<|xl G.len<|xv 1)<|wO<|tN<|tt<|xe (Xw (PY (K:=K)) (by rfl) G.Zc QL<|bz (jx K (pv 0) UI)<|PQ (v:=.ty "str") rfl G.ZP boot_str rfl)<|P5<|tz (Xh (U4 0) UB) PP) (b1<|sR xb) b0)<|bc (sI (tn h (xx (xv 0) xi)<|xx (xv 1) xi) (b1<|sR xb) b0)<|bc (sO [2] WJ (iR G.Zf<|a2 xi<|xl G.len<|xv 1) (gN 2)<|b1<|sI (tp<|wo (tN<|tt<|xf Yo h<|a1<|xx (xv 0)<|xv 2)<|wO<|tn h (xx (xv 0)<|xv 2)<|xx (xv 1)<|xv 2) (b1<|sR xb) b0)<|b1<|sR xb)) (.a ?_)
 ·rintro u R X ⟨q,rfl,r,o⟩;refine⟨rfl,?_⟩;have s:(D.str q.1::q.2.map D.int).length=q.2.length+1:=by rw[WM,Wt]
  rw[Zen];show _;rw[WO,BP];refine⟨_,.same _,UQ (PB rfl ⟨_,XC _ _,_,.same _,UQ ⟨_,XC _ _,_,XC _ _,PB rfl ?_⟩⟩)⟩;refine⟨⟨by lia,by lia⟩,Pf (λi f=>f=[some (.sh<|dD q),some (.sh<|dD q),none]) rfl ?_ ?_⟩
  ·rintro i f l rfl
   have g:i<q.2.length:=by
    have:i<((((D.str q.1::q.2.map D.int).length:Nat):Int)-1).toNat:=l
    lia
   exact⟨_,Di g,_,rfl,UQ ⟨_,Di g,_,Di g,PB rfl rfl⟩⟩
  ·rintro f rfl;exact o
def Zhr(DD:Def K mg "_law_best" FZ ["_law_strips","_law_wishes"])
  : LX ζ:=by
 refine DD.fz Zku (λL n=>(bc (sS 2 n<|xL a0)<|bc (sO [3,4] WJ (iL<|xf YH L<|a1<|xf Yu L<|a1<|xv 0) (gN 3)<|b1<|sI (tt<|xf YG L<|a2 (xv 3)<|xv 1) (bc (sS 4 n<|xf YF L<|a2 (xv 0)<|xv 3)<|b1<|sI (tp<|wo (te (Kq (IA (K:=K)<|show _<cLine from(L ()).units0) (pv 2) (XB Xv)<|Kl _)<|XU<|NL (U4 2)<|XM UN)<|wO<|tc Kk Ko (xv 4)<|xx (xv 2) xi) (b1<|sF 3<|sF 4<|sS 2 n<|xL<|a2 (xv 4)<|xv 3) b0) b0)<|b1<|sV 2)) (.a ?_)
 ·rintro ds R X ⟨f,Q,rfl,hF,C,h5,hu,hN,hR⟩;refine⟨rfl,?_⟩;have u:(UD f).Nodup:=(Pp f).imp (λh=>Vz h);have M:∀z:ZS,z.Perm (UD f)->∀p∈f,p.1∈z:=λz C p E=>C.mem_iff.mpr ((Il hF).mpr (WZ.mpr ⟨p,E,rfl⟩))
  have o:∀z:ZS,z.Perm (UD f)->oc (λx y=>pcM f x y f.length) z=KS f z f.length:=λz C=>by
   rw[DH];refine MK (C.nodup_iff.mpr u) f.length λj N=>?_;rw[WA,Wv N];exact M z C _ (WL N)
  refine⟨by simp,f,rfl,C,UD f,rfl,u,h5,?_⟩;refine⟨rfl,XQ (xs:=Xa (UD f) (UD f).length) (emb:=ilD) (λi B=>∃b,B=[some (.bor<|.lst<|f.map prD),some (.bor<|.lst<|Q.map prD),some (.own<|.lst<|S9 f b),none,none]/\Fnd (λq=>KS f q f.length) (λq=>∀w∈Q,Kx q w=false) ((Xa (UD f) (UD f).length).take i) b) ⟨none,rfl,by simp[Fnd]⟩ ?_ ?_⟩
  ·rintro i Y B ⟨b,rfl,A⟩;have v:=WL Y;have s:=(Sb u).mp v;have T:(Xa (UD f) (UD f).length).take (i+1)=(Xa (UD f) (UD f).length).take i++[(Xa (UD f) (UD f).length)[i]]:=WG Y
   have J:∀x∈(Xa (UD f) (UD f).length).take i,sl x (Xa (UD f) (UD f).length)[i]:=λx hx=>by
    obtain⟨j,N,rfl⟩:=WY.mp hx;rw[WS]at N;rw[Q3];exact WU.mp (HA (Pp f) _) j i (by lia) Y (by lia)
   rw[T];generalize (Xa (UD f) (UD f).length)[i]=r at v s J ⊢;refine⟨r,Q,rfl,λg=>Xs ?_,λg=>UQ ⟨b,rfl,A.no λz=>?_⟩⟩
   ·refine⟨f,r,rfl,hF,C,M r s,?_⟩;refine⟨QB _,?_⟩;show if (S9 f b).isEmpty=true then _ else _;rw[Oc];refine U8 (λk=>Xs ?_) (λk=>?_)
    ·have k':b=none:=Wy k;subst k';exact⟨by simp,some r,rfl,A.first g⟩
    ·cases b with
     |none=>exact absurd (Ww rfl) k
     |some q=>exact⟨_,rfl,U8 (λl=>⟨by simp,some r,rfl,A.less g (Wy l)⟩) (λl=>⟨some q,rfl,A.more (λz=>l (Ww z)) J⟩)⟩
   ·obtain⟨w,hw,e⟩:=g;rw[z w hw]at e;cases e
  ·rintro B ⟨b,rfl,A⟩;rw[Qe]at A;obtain⟨o0,p0,k0⟩:=Mg hu hN _ (UD f) rfl λ_ h=>h;cases b with
   |none=>exact absurd (Cm k0) (A o0 ((Sb u).mpr p0))
   |some q=>
    obtain⟨q1,q2,q3⟩:=A;have H:=(Sb u).mp q1
    have:=hR q ⟨H,OA (H.nodup_iff.mpr u) q2,λp E U=>by
     unfold pcc;rw[o q H,o p E];exact(q3 p ((Sb u).mpr E)<|Cm U).1,λp E U e=>by
     unfold pcc at e;rw[o q H,o p E]at e;exact(q3 p ((Sb u).mpr E)<|Cm U).2 e⟩
    unfold pcc at this;rw[o q H]at this;exact this
def RA(v:Def K mg "_law_step" F7 ["_law_now","_law_deed_here"])
  : Gu ζ:=by
 refine v.fz Zei (λo n=>(bc (sI (tp<|wo (tq o (xx (xv 1) xi) xs)<|wO<|tq o (xx (xv 1) xi) xs) (bc (sF 1<|sS 2 n<|xe (fz YK (o ())<|bz (jx K (pv 0) UI)<|pv 1)<|Du<|tz (Xh (U4 0) UB)<|U4 1)<|b1<|sR<|xL<|a3 (xx (xv 2) xi) (xx (xv 0) xi)<|xx (xv 2) xi) b0)<|bc (sF 1<|sS 2 n<|xe (fz YJ (o ())<|bz (jx K (pv 0) UI)<|pv 1)<|Du<|tz (Xh (U4 0) UB)<|U4 1)<|b1<|sR<|xL<|a3 (xx (xv 2) xi) (xx (xv 2) xi)<|xx (xv 0) xi)) (.b ?_)
 ·rintro u R X ⟨f,w,u,x,rfl,r,hw,l⟩;refine⟨rfl,?_⟩;have g:atI (plD f::plD w::u) 1=some (plD w):=NT (by decide) rfl
  have land:∀x:Dd,x.land=true->R (.own [.int (codeN<|x.err f w),plD (x.nf f w),plD (x.nw f w)])->R (.own [.int (codeN<|x.err f []),plD (x.fld' f),plD w]):=λx h k=>by
   have e:=x.err_land h f w [];have s:x.wsh w=w:=by cases x<;>first|rfl|cases h
   unfold Dd.nf Dd.nw at k;rw[s,e,ite_self]at k;unfold Dd.fld';exact k
  have wish:∀x:Dd,x.land=false->R (.own [.int (codeN<|x.err f w),plD (x.nf f w),plD (x.nw f w)])->R (.own [.int (codeN<|x.err [] w),plD f,plD (x.wsh' w)]):=λx h k=>by
   have e:=x.err_wish h f [] w;have s:x.fld f=f:=by cases x<;>first|rfl|cases h
   unfold Dd.nf Dd.nw at k;rw[s,e,ite_self]at k;unfold Dd.wsh';exact k
  cases x with
  |sell p h=>exact⟨_,rfl,_,rfl,_,XC _ _,f,.sell p h,rfl,rfl,r,_,rfl,_,rfl,_,g,by simp,land _ rfl l⟩
  |part p h=>exact⟨_,rfl,_,rfl,_,XC _ _,f,.part p h,rfl,rfl,r,_,rfl,_,rfl,_,g,by simp,land _ rfl l⟩
  |unite p=>exact⟨_,rfl,_,rfl,_,XC _ _,f,.unite p,rfl,rfl,r,_,rfl,_,rfl,_,g,by simp,land _ rfl l⟩
  |wish a b=>exact⟨_,rfl,_,g,w,.wish a b,rfl,rfl,hw,_,rfl,_,XC _ _,_,rfl,by simp,wish _ rfl l⟩
  |drop a b=>exact⟨_,rfl,_,rfl,_,g,w,.drop a b,rfl,rfl,hw,_,rfl,_,XC _ _,_,rfl,by simp,wish _ rfl l⟩
def Zj1(H:Def K mg "_law_start" F3 ["_law_script","_law_menu_here","_law_many"])
  : El ζ:=by
 refine H.fz Zeh (λl n=>(bc (sS 3 n<|xf Yf l<|a2 (xv 0) xi)<|bc (sS 4 n<|xL a0)<|bc (sO [5,6,7] WJ (ir G.Zf<|a1<|xv 2) (gN 5)<|bc (sF 3<|sS 6 n<|xv 3)<|bj (sI (tq l (xo UP UO (xf Yf l<|a2 (xv 0) xi) xi) xi) (b1<|sS 6 n<|xf Yi l<|a2 (xf Yf l<|a2 (xv 0) xi)<|xo UT UV xi<|xv 5) b0)<|bc (sS 7 n<|xo UT UV (xx (xv 1) xi)<|xo UP UO (xo Xn Xl (xv 6)<|xx (xv 1) xi)<|xx (xv 1) xi)<|bc (sF 7<|sA 4<|xt<|a2 (xf Yj l<|a2 (xv 1)<|xo UP UO (xv 6)<|xx (xv 1) xi)<|xv 7)<|b1<|sS 3 n<|xo Xn Xl (xo Xn Xl (xv 3)<|xx (xv 1) xi)<|xx (xv 1) xi)<|b1<|sV 4)) (.a ?_)
 ·rintro ds R X ⟨o,m,n,rfl,x,h0,Y,E⟩;refine⟨rfl,?_⟩;have s:=x;obtain⟨a,b,c,d,e,rfl,U,T,Q,N,M⟩:=x;refine⟨o,2,rfl,by decide,by simp,⟨by lia,by lia⟩,Pf (λi f=>∃(g:ZR) (r:Int),f=[some (.bor<|.scr o),some (.bor<|.lst (([a,b,c,d,e]:ZS).map D.int)),some (.sh<|.int n),some (.sh<|.int r),some (.own<|g.map prD),none,none,none]/\Field g/\g.length=i) ⟨[],_,rfl,(λq hq=>by cases hq),rfl⟩ ?_ ?_⟩
  ·rintro i f C ⟨g,r,rfl,u,p⟩;have A:(g.map prD).length=g.length:=Wt ..;have B:i<n.toNat:=C;refine Nq (λf=>∃(v:Int) (t:Option S),f=[some (.bor<|.scr o),some (.bor<|.lst (([a,b,c,d,e]:ZS).map D.int)),some (.sh<|.int n),some (.sh<|.int r),some (.own<|g.map prD),t,some (.sh<|.int v),none]) ?_ ?_
   ·refine⟨o,0,rfl,by decide,(by show(0:Int)<2;decide),U8 (λ_=>?_) (λ_=>⟨_,_,rfl⟩)⟩;exact⟨o,1,rfl,by decide,_,_,rfl,_,_,rfl⟩
   ·rintro f ⟨v,t,rfl⟩;have L:=Int.emod_nonneg (v / a) (show d≠0 by lia);have J:=Jr (v / a) (show 0<d by lia);refine⟨_,rfl,_,rfl,⟨by lia,by lia⟩,_,rfl,(by show 0<d;lia),_,rfl,(by show 0<a;lia),[a,b,c,d,e],_,rfl,s,λh z y _=>⟨by simp,by lia,?_⟩⟩;refine⟨_,rfl,⟨by lia,by lia⟩,_,rfl,⟨by lia,by lia⟩,g++[(h,e+v / a % d)],r / a / d,?_,λq hq=>?_,by rw[W7,p];rfl⟩
    ·rw[WI];rfl
    ·rcases WC.mp hq with hq|hq
     ·exact u q hq
     ·rw[Wx]at hq;subst hq;exact⟨z,y,by show 1<=e+v / a % d;lia,by show e+v / a % d<=1000;lia⟩
  ·rintro f ⟨g,r,rfl,u,p⟩;exact E g u p
def Ou(p:Def K mg "_law_days" Au ["_law_script","_law_most"])
  : GI ζ:=by
 refine p.fz Zcn (λg n=>(bc (sI (tq g (xo UP UO (xf Yf g<|a2 (xv 0) xi) xi) xi) (b1<|sR<|xe (Cd (CC (K:=K)) (pv 0) (Bf UI)<|Bf<|PK UT UI<|pv 1)<|Za2 (U4 0) (Bz UB)<|Bz<|UV UB<|U4 1) b0)<|b1<|sR<|xC ["_law_k","_law_script"] [none,some 0] (jI<|ir G.Zf<|a1<|xo UP UO (xf Yf g<|a2 (xv 0) xi)<|xo UT UV (xv 1) xi) (gN 0) f0<|xf Yi g<|a2 (xf Yf g<|a2 (xv 1) xi)<|xo UT UV xi<|xv 0)) (.a ?_)
 ·rintro y R X ⟨f,n,rfl,x,v,h⟩;refine⟨rfl,f,0,rfl,by decide,(by show(0:Int)<2;decide),U8 (λ_=>?_) (λ_=>?_)⟩
  ·refine h _ ?_;unfold Pu.cutD;rw[WS]
   have l:HT.sIx f.length 0 (some 3)=min 3 f.length:=by
    rw[show(3:Int)=((3:Nat):Int) by rfl,HT.BI]
   have o:HT.sIx f.length f.length (some (3+n))=min (3+n).toNat f.length:=by
    rw[show(3+n:Int)=(((3+n).toNat:Nat):Int) by lia,HT.BI];rfl
   rw[l,o];lia
  ·refine⟨f,2,rfl,by decide,(by show 0<n+1;lia),?_⟩;have s:=Int.emod_nonneg (f.getD (2:Int).toNat 0) (show n+1≠0 by lia);have r:=Jr (f.getD (2:Int).toNat 0) (show 0<n+1 by lia);refine⟨⟨by lia,by lia⟩,Lh (λi=>some (.int<|mixP (f.getD (1:Int).toNat 0) (200+(0+(i:Int))))) (by lia) (λi u=>⟨f,1,rfl,by decide,_,_,rfl,_,rfl,rfl⟩) ?_⟩
   have e:(List.range (f.getD (2:Int).toNat 0 % (n+1)).toNat).filterMap (λi:Nat=>some (D.int<|mixP (f.getD (1:Int).toNat 0) (200+(0+(i:Int)))))=((List.range (f.getD (2:Int).toNat 0 % (n+1)).toNat).map λi:Nat=>mixP (f.getD (1:Int).toNat 0) (200+(0+(i:Int)))).map D.int:=by
    rw[Vr,Qi];rfl
   rw[e];refine h _ ?_;rw[Wt,List.length_range];lia
def Oy(y:Def K mg "_law_pair" F6 ["_law_cell","_law_menu_here"])
  : EY ζ:=by
 refine y.fz Zdc (λh n=>(bc (sS 2 n<|xx (xL<|ac xi<|ac (xx (xv 1) xi)<|ac (xx (xv 1) xi)<|ac (xx (xv 1) xi) a0)<|xo UP UO (xv 0) xi)<|bc (sS 3 n<|xo UP UO (xo Xn Xl (xv 0) xi)<|xv 2)<|bc (sS 4 n<|xo UP UO (xo UT UV (xo UT UV (xv 3) xi)<|xo UP UO (xo Xn Xl (xv 0) xi)<|xe (Xw (LQ rfl) (by rfl) G.ZC boot_max<|bz UI<|PK XH (pv 2) UI)<|Hz<|tz UB<|XD (U4 2) UB)<|xv 2)<|bc (sS 5 n<|xf Yr h<|a2 (xo Xn Xl (xv 0) xi)<|xf Yj h<|a2 (xv 1)<|xv 3)<|b1<|sF 5<|sR<|xt<|a2 (xv 5)<|xf Yr h<|a2 (xo Xn Xl (xv 0) xi)<|xf Yj h<|a2 (xv 1)<|xv 4)) (.a ?_)
 ·rintro M R X ⟨c,m,rfl,r,v⟩;refine⟨rfl,?_⟩;have g:=r;obtain⟨a,b,e,d,f,rfl,o,E,B,C,A⟩:=r;have H:0<=c % 4/\c % 4<4:=by lia
  obtain⟨pool,x,z⟩:∃p:Int,atI [D.int 10,.int a,.int a,.int a] (c % 4)=some (.int p)/\1<=p/\p<=10:=by
   have:c % 4=0\/c % 4=1\/c % 4=2\/c % 4=3:=by lia
   rcases this with e|e|e|e<;>rw[e]
   ·exact⟨10,rfl,by decide,by decide⟩
   ·exact⟨a,rfl,o⟩
   ·exact⟨a,rfl,o⟩
   ·exact⟨a,rfl,o⟩
  have l:0<(if pool-1>1 then pool-1 else 1):=by split<;>lia
  refine⟨_,rfl,_,rfl,_,rfl,by simp,(by show(0:Int)<4;decide),_,x,?_⟩;refine⟨⟨by decide,by decide⟩,(by show 0<pool;lia),⟨by decide,by decide⟩,l,(by show 0<pool;lia),?_⟩;refine⟨⟨by decide,by decide⟩,_,_,rfl,g,λL _ _ _=>⟨_,_,rfl,λu=>?_⟩⟩;exact⟨⟨by decide,by decide⟩,_,_,rfl,g,λJ _ _ _=>⟨_,_,rfl,λs=>⟨by simp,v u s⟩⟩⟩
def Zd3(DD:Def K mg "find_ring" Fc ["holders","wishes"])
  : M1 ζ:=by
 refine DD.fz Za7 (λT n=>(bc (sS 2 n<|xL a0)<|bc (sF 2<|sO [3,4] WJ (iL<|xe (Xw (BC (K:=K) (w:=w) rfl) (by rfl) G.Zh boot_sorted<|az<|pv 0)<|Bw<|sz<|U4 0) (gN 3)<|bc (sS 4 n<|xf YO T<|a3 (xv 3) (xv 0)<|xv 1)<|b1<|sI (tp<|wa (tt<|xv 4)<|wA<|tp<|wo (tN<|tt<|xv 2)<|wO<|tc Kk Ko (xl G.len<|xv 4)<|xl G.len<|xv 2) (b1<|sF 4<|sS 2 n<|xv 4) b0)<|b1<|sF 2<|sV 2)) (.a ?_)
 ·rintro ds R X ⟨B,E,rfl,x,Q,hR⟩;refine⟨rfl,by simp,B,rfl,by lia,λu L v=>?_⟩;have H:u.Pairwise (· < ·):=Sx v (L.nodup_iff.mpr x);refine⟨rfl,XQ (xs:=u) (emb:=D.int) (λi s=>∃r,s=[some (.bor<|.lst<|B.map D.int),some (.bor<|.lst<|E.map prD),some (.sh<|.lst<|r.map D.int),none,none]/\r.length<=60/\FRi B E (u.take i) r) ⟨[],rfl,by simp,.inl ⟨rfl,λl M=>by rw[Q2]at M;cases M⟩⟩ ?_ ?_⟩
  ·rintro i N s ⟨r,rfl,o,F⟩
   have h:∀m∈u.take i,m<u[i]:=λm U=>by
    obtain⟨j,Y,e⟩:=WY.mp U;rw[WS]at Y;rw[Q3]at e;rw[←e];exact WU.mp H j i (by lia) N (by lia)
   rw[WG N];generalize u[i]=l at h ⊢;refine⟨l,B,E,rfl,x,Q,λf C y=>?_⟩;have ef:(!(f.map D.int).isEmpty)=decide (f≠[]):=by cases f<;>simp
   have er:(!(r.map D.int).isEmpty)=decide (r≠[]):=by cases r<;>simp
   show if (!(f.map D.int).isEmpty)=true then _ else _;rw[ef];refine U8 (λg=>?_) (λg=>UQ ⟨r,rfl,o,F.keep h C (.inl (WQ λz=>g (Ww z)))⟩);have A:f≠[]:=Wy g;show if (!(!(r.map D.int).isEmpty))=true then _ else _;rw[er];by_cases p:r=[]
   ·rw[Qa (λz=>z p)];exact Xs (Xs ⟨f,rfl,y,F.take h C ⟨A,.inl p⟩⟩)
   ·rw[Ww p];refine UQ ?_;show if decide (((f.map D.int).length:Int)<((r.map D.int).length:Int))=true then _ else _;rw[Wt,Wt];refine U8 (λJ=>?_) (λJ=>?_)
    ·have:=Wy J
     exact⟨f,rfl,y,F.take h C ⟨A,.inr (by lia)⟩⟩
    ·have:¬(f.length:Int)<(r.length:Int):=λz=>J (Ww z)
     exact⟨r,rfl,o,F.keep h C (.inr ⟨p,by lia⟩)⟩
  ·rintro s ⟨r,rfl,o,F⟩;rw[Qe]at F;exact hR r (F.all λz=>L.mem_iff) o
def Zci(DD:Def K mg "least_costs" FP ["strips","wishes","pairs"])
  : MC ζ:=by
 refine DD.fz Ie (λN n=>(bc (se (Pu.pz 3 Ie.nd<|Zfs (Kd<|N ()) (Kf Xv) UI)<|Th (Zia (Kj UN) UB)<|X8 3)<|bc (sO [4,5] WJ (iL<|xp (xf Y8 N<|a1<|xf Yk N<|a1<|xv 0) (o1 xi) o0) (gN 4)<|bc (sC 5 ["holder","members","wishes"] [none,some 4,some 1] n (je (NC (K:=K)<|pv 4)<|SndI.c<|NU<|U4 4) (gN 0) (f1<|tt<|xf YA N<|a3 (xv 1) (xv 0)<|xv 2)<|xv 0)<|b1<|se (AG (Kd<|N ()) (pv 3) (pv 4) (Xw (On (K:=K) rfl) (by rfl) G.ZL boot_min<|az<|cz ["last","members","least","pairs"] [none,some 4,some 3,some 2] (P9 (K:=K)<|pv 5) ⟨(gk 0),PZ,(fz YU (N ())<|Xr (pv 1)<|Xr (pv 0)<|Xr (pv 2)<|Xr (pv 3) Xv)⟩) rfl)<|Cu 3 (U4 4)<|Zar<|sz<|Pa (Nl<|U4 5) (X8 0) T8<|Pz<|XS (U4 1)<|XS (U4 0)<|XS (U4 2)<|XS (U4 3) UN)<|b1<|sV 3)) (.a ?_)
 ·rintro ds R X ⟨C,v,pa,c,rfl,hF,hz,hw,hu,hc,hL,hR⟩;refine⟨rfl,by simp,_,_,rfl,rfl,?_⟩;refine⟨C,rfl,hF,hz,_,rfl,Tr C,?_⟩;have hh:=Tr C;have nd:(UD C).Nodup:=(Pp C).imp (λh=>Vz h);generalize UD C=hs at hh nd hc hL hR ⊢;have hsl:=MA hs;have x:=N7 hs;have A:=Hf nd;have E:=Ls nd
  have y:(UW hs).length<=1024:=by
   rw[hsl];exact Nat.pow_le_pow_right (j:=10) (by decide) hh
  obtain⟨T,eT⟩:=Zcv hs;rw[eT]at x A E y hR ⊢;refine⟨rfl,rfl,?_⟩
  have ec:Pu.cutD (List.map tD ([]::T)) (some 1) none=T.map tD:=by
   rw[T7,Sh _ (by decide)];rfl
  rw[ec];refine XQ (xs:=T) (emb:=tD) (λi B=>∃f:List (List Key×V),B=[some (.bor<|.lst<|C.map prD),some (.bor<|.lst<|v.map prD),some (.bor<|.dT pa),some (.own<|.dT f),none,none]/\Tab v c ([]::T.take i) f) ⟨_,rfl,OB v c⟩ ?_ ?_
  ·rintro i hi B ⟨f,rfl,L⟩;have em:([]::T)[i+1]?=some T[i]:=by rw[Qu,Wv hi]
   have hmem:T[i]∈[]::T:=W4 em;have p:=x _ hmem;have Y:T[i]≠[]:=λe=>(Qg.mp E).1 (e▸WL hi)
   have U:T[i]∉[]::T.take i:=λz=>by
    rcases W8.mp z with z|z
    ·exact Y z
    ·obtain⟨j,hj,e⟩:=WY.mp z;rw[WS]at hj;rw[Q3]at e;exact WU.mp (Qg.mp E).2 j i (by lia) hi (by lia) e
   have hml:T[i].length<=10:=W9 p.length_le hh
   have H:∀l∈T[i],UK T[i] l∈[]::T.take i:=λl r=>by
    obtain⟨j,hj,e⟩:=A (i+1) _ em l r
    have:([]::T.take i)=([]::T).take (i+1):=by rw[List.take_succ_cons]
    rw[this];refine W4 (i:=j) ?_;rw[QI hj];exact e
   have ndm:T[i].Nodup:=nd.sublist p
   have hkl:f.length<=1024:=by
    have:=Qk List.length L.keys
    rw[Wt,Wt,WM,WS]at this;rw[WM]at y;lia
   have etk:[]::T.take (i+1)=([]::T.take i)++[T[i]]:=by rw[WG hi];rfl
   rw[etk];generalize T[i]=o at *;obtain⟨vs,Q⟩:=DV λl r=>L.val _ (H l r);obtain⟨l0,hl0,hl0'⟩:=hL o p Y;refine⟨_,rfl,XA (s:=.sh .non) (xs:=o) (emb:=D.int) (λh=>if Po v o h=true then some (.int h)else none) (by lia) (λh hm=>?_) ?_⟩
   ·refine⟨o,h,v,rfl,hw,?_⟩;refine U8 (λg=>⟨_,rfl,W3 g⟩) (λg=>W2 g)
   ·rw[KP (λh=>Po v o h)];refine XA (xs:=o.filter (λh=>Po v o h)) (emb:=D.int) (λl=>some (.int (vs l+((UK o l).map (c · l)).sum))) (W9 (Q8 _ _)<|by lia) (λl r=>?_) ?_
    ·obtain⟨u,hl2⟩:=WT.mp r;exact⟨o,l,f,pa,(c · l),vs l,rfl,by lia,(Q l u).1,λm hm=>hc m (p.subset<|less_sub.subset hm) l (p.subset u),_,rfl,rfl⟩
    ·rw[Py];refine⟨(o.filter (λh=>Po v o h)).map λl=>vs l+((UK o l).map (c · l)).sum,by rw[Qi];rfl,?_,λM hM hle=>⟨_,_,Bk o,rfl,by lia,_,rfl,L.put U (Zgb ndm hu (λl r=>(Q l r).2) ?_ ?_)⟩⟩
     ·rw[Wt];exact List.length_pos_of_mem (WT.mpr ⟨hl0,lastM_iff.mpr hl0'⟩)
     ·obtain⟨l,r,e⟩:=WZ.mp hM;obtain⟨u,hl2⟩:=WT.mp r;exact⟨l,u,hl2,e.symm⟩
     ·intro l r J;exact hle _ (WZ.mpr ⟨l,WT.mpr ⟨r,J⟩,rfl⟩)
  ·rintro B ⟨f,rfl,L⟩;rw[Qe]at L;exact hR f L
def Zlf(s:UY K (Mk K<|UM ζ) "__init__" "Village.__init__" Fg ["self","strips"])
  : M2 ζ:=by
 refine s.fy Zhi (λl n=>(bc (sE<|xg YN l ExcR.Xu<|a1<|xv 1)<|bc (se (AE (pv 0) (XB Xv) rfl)<|A3 0 G.Za G.Zb Za9<|XM UN)<|bc (se (AE (pv 0) (XB<|az<|KU (Nu (K:=K)) (by rfl) G.Zg boot_list<|az<|pv 1) rfl)<|A3 0 G.Za G.Zd Zid<|XM<|sz<|TM<|sz<|U4 1)<|b1<|se (AE (pv 0) (XB<|az<|XB Xv) rfl)<|A3 0 G.Za G.Ze Zdg<|XM<|sz<|XM UN)) (.c ?_)
 ·rintro o u R X ⟨x,g,rfl,rfl,h,f⟩;refine⟨rfl,g,rfl,h,?_⟩;cases e:Nc g with
  |some c=>
   rw[e]at f;exact⟨_,rfl,⟨rfl,by simp⟩,f⟩
  |none=>
   rw[e]at f;refine⟨by simp,rfl,rfl,by decide,λb1=>?_⟩;refine⟨rfl,by simp,rfl,rfl,by decide,λr=>?_⟩;refine⟨by simp,by simp,rfl,rfl,by decide,λp=>?_⟩;exact⟨_,rfl,⟨rfl,by simp⟩,f b1 r p⟩
def Zef(z:UY K (UU K (UM ζ) "sell") "sell" "Village.sell" Fm ["self","place","holder"])
  : GV ζ:=by
 refine z.fy Rg (λl n=>(bc (se (Kv<|Xg Yl G.Za (hq<|l ()) ExcR.Xu<|pv 0)<|TY<|Sf Sy (U4 0) UN)<|bc (sS 3 n<|xg YQ l ExcR.Xu<|a3 (xe (Xg Yg G.Za (hq<|l ()) Xf<|pv 0)<|Xz Ph (U4 0) UN) (xv 1)<|xv 2)<|b1<|sF 2<|sF 1<|sF 3<|se (X4<|Pb Ym G.Za (hq<|l ()) Xf (pv 0)<|dz (Kf<|dz Tu (pv 1)<|pv 2) (pv 3)<|Xg Yh G.Za (hq<|l ()) Xf<|pv 0)<|KZ<|Nh 0 NS<|uz (Kj<|uz Tq (U4 1)<|U4 2) (U4 3)<|Xz P1 (U4 0) UN)) (.c ?_)
 ·rintro o A R X ⟨x,b1,y,v,bk,fs,r,f,w,p,h,rfl,rfl,u,B,hw,s,g⟩;refine⟨rfl,?_⟩;unfold BS at g;refine⟨rfl,rfl,bk,fs++[f],r++[w],rfl,?_⟩;unfold Tn;by_cases c:100<=bk.length
  ·rw[W3 c]at g ⊢;exact⟨_,rfl,⟨rfl,by simp⟩,g⟩
  ·rw[W2 c]at g ⊢;refine⟨rfl,rfl,bk,fs,r++[w],f,rfl,f,p,h,rfl,s,?_⟩;cases e:Ke f p h with
   |some c=>
    rw[e]at g;exact⟨_,rfl,⟨rfl,by simp⟩,g⟩
   |none=>
    rw[e]at g;refine⟨rfl,rfl,by simp,rfl,rfl,bk,fs++[f],r,w,rfl,?_⟩;exact⟨x,b1,y,v,bk,fs++[f],r++[w],("sell",[p,h]),Pj f p h,w,rfl,rfl,u,by rw[W7];simp;lia,by rw[W7];simp;lia,_,rfl,⟨rfl,by simp⟩,g⟩
def Zh3(z:UY K (UU K (UM ζ) "part") "part" "Village.part" AU ["self","place","width"])
  : LR ζ:=by
 refine z.fy Zax (λl n=>(bc (se (Kv<|Xg Yl G.Za (hq<|l ()) ExcR.Xu<|pv 0)<|TY<|Sf Sy (U4 0) UN)<|bc (sS 3 n<|xg YR l ExcR.Xu<|a3 (xe (Xg Yg G.Za (hq<|l ()) Xf<|pv 0)<|Xz Ph (U4 0) UN) (xv 1)<|xv 2)<|b1<|sF 2<|sF 1<|sF 3<|se (X4<|Pb Ym G.Za (hq<|l ()) Xf (pv 0)<|dz (Kf<|dz Tu (pv 1)<|pv 2) (pv 3)<|Xg Yh G.Za (hq<|l ()) Xf<|pv 0)<|KZ<|Nh 0 NS<|uz (Kj<|uz Tq (U4 1)<|U4 2) (U4 3)<|Xz P1 (U4 0) UN)) (.c ?_)
 ·rintro o A R X ⟨x,b1,y,v,bk,fs,r,f,w,p,h,rfl,rfl,u,B,hw,s,g⟩;refine⟨rfl,?_⟩;unfold S8 at g;refine⟨rfl,rfl,bk,fs++[f],r++[w],rfl,?_⟩;unfold Tn;by_cases c:100<=bk.length
  ·rw[W3 c]at g ⊢;exact⟨_,rfl,⟨rfl,by simp⟩,g⟩
  ·rw[W2 c]at g ⊢;refine⟨rfl,rfl,bk,fs,r++[w],f,rfl,f,p,h,rfl,s,?_⟩;cases e:X0 f p h with
   |some c=>
    rw[e]at g;exact⟨_,rfl,⟨rfl,by simp⟩,g⟩
   |none=>
    rw[e]at g;refine⟨rfl,rfl,by simp,rfl,rfl,bk,fs++[f],r,w,rfl,?_⟩;exact⟨x,b1,y,v,bk,fs++[f],r++[w],("part",[p,h]),KE f p h,w,rfl,rfl,u,by rw[W7];simp;lia,by rw[W7];simp;lia,_,rfl,⟨rfl,by simp⟩,g⟩
def Zl4(y:UY K (UU K (UM ζ) "unite") "unite" "Village.unite" CN ["self","place"])
  : D8 ζ:=by
 refine y.fy Zd1 (λh n=>(bc (se (Kv<|Xg Yl G.Za (hq<|h ()) ExcR.Xu<|pv 0)<|TY<|Sf Sy (U4 0) UN)<|bc (sS 2 n<|xg YS h ExcR.Xu<|a2 (xe (Xg Yg G.Za (hq<|h ()) Xf<|pv 0)<|Xz Ph (U4 0) UN)<|xv 1)<|b1<|sF 1<|sF 2<|se (X4<|Pb Ym G.Za (hq<|h ()) Xf (pv 0)<|dz (Kf<|bz Tu<|pv 1) (pv 2)<|Xg Yh G.Za (hq<|h ()) Xf<|pv 0)<|KZ<|Nh 0 NS<|uz (Kj<|tz Tq<|U4 1) (U4 2)<|Xz P1 (U4 0) UN)) (.c ?_)
 ·rintro o z R X ⟨x,b1,v,u,bk,fs,l,f,w,p,rfl,rfl,s,A,hw,r,g⟩;refine⟨rfl,?_⟩;unfold BN at g;refine⟨rfl,rfl,bk,fs++[f],l++[w],rfl,?_⟩;unfold Tn;by_cases c:100<=bk.length
  ·rw[W3 c]at g ⊢;exact⟨_,rfl,⟨rfl,by simp⟩,g⟩
  ·rw[W2 c]at g ⊢;refine⟨rfl,rfl,bk,fs,l++[w],f,rfl,f,p,rfl,r,?_⟩;cases e:Xm f p with
   |some c=>
    rw[e]at g;exact⟨_,rfl,⟨rfl,by simp⟩,g⟩
   |none=>
    rw[e]at g;refine⟨rfl,rfl,by simp,rfl,rfl,bk,fs++[f],l,w,rfl,?_⟩;exact⟨x,b1,v,u,bk,fs++[f],l++[w],("unite",[p]),KF f p,w,rfl,rfl,s,by rw[W7];simp;lia,by rw[W7];simp;lia,_,rfl,⟨rfl,by simp⟩,g⟩
def Zah(z:UY K (UU K (UM ζ) "wish") "wish" "Village.wish" As ["self","ahead","behind"])
  : DM ζ:=by
 refine z.fy Zjy (λl n=>(bc (se (Kv<|Xg Yl G.Za (hq<|l ()) ExcR.Xu<|pv 0)<|TY<|Sf Sy (U4 0) UN)<|bc (sS 3 n<|xg YT l ExcR.Xu<|a3 (xe (Xg Yh G.Za (hq<|l ()) Xf<|pv 0)<|Xz P1 (U4 0) UN) (xv 1)<|xv 2)<|b1<|sF 2<|sF 1<|sF 3<|se (X4<|Pb Ym G.Za (hq<|l ()) Xf (pv 0)<|dz (Kf<|dz Tu (pv 1)<|pv 2) (Xg Yg G.Za (hq<|l ()) Xf<|pv 0)<|pv 3)<|KZ<|Nh 0 NS<|uz (Kj<|uz Tq (U4 1)<|U4 2) (Xz Ph (U4 0) UN)<|U4 3)) (.c ?_)
 ·rintro o A R X ⟨x,b1,y,v,bk,fs,r,f,w,p,h,rfl,rfl,u,B,hw,s,g⟩;refine⟨rfl,?_⟩;unfold BU at g;refine⟨rfl,rfl,bk,fs++[f],r++[w],rfl,?_⟩;unfold Tn;by_cases c:100<=bk.length
  ·rw[W3 c]at g ⊢;exact⟨_,rfl,⟨rfl,by simp⟩,g⟩
  ·rw[W2 c]at g ⊢;refine⟨rfl,rfl,bk,fs++[f],r,w,rfl,w,p,h,rfl,s,?_⟩;cases e:Xt w p h with
   |some c=>
    rw[e]at g;exact⟨_,rfl,⟨rfl,by simp⟩,g⟩
   |none=>
    rw[e]at g;refine⟨rfl,rfl,by simp,rfl,rfl,bk,fs,r++[w],f,rfl,?_⟩;exact⟨x,b1,y,v,bk,fs++[f],r++[w],("wish",[p,h]),f,w++[(p,h)],rfl,rfl,u,by rw[W7];simp;lia,by rw[W7];simp;lia,_,rfl,⟨rfl,by simp⟩,g⟩
def Zem(s:Def K mg "_law_book_is" Ab ["_law_found","_law_due"])
  : Ik ζ:=by
 refine s.fz Zi9 (λg n=>(bc (sI (tp<|wo (tN<|tt<|xe (Xw (PY (K:=K)) (by rfl) G.Zc QL<|bz (pv 0)<|PQ (v:=.ty "list") rfl G.Zg boot_list rfl)<|P5<|tz (U4 0) PP)<|wO<|tn g (xl G.len<|xv 0)<|xl G.len<|xv 1) (b1<|sR xb) b0)<|bc (sO [2] WJ (ir G.Zf<|a1<|xl G.len<|xv 1) (gN 2)<|b1<|sI (tN<|tt<|xf YZ g<|a2 (xx (xv 0)<|xv 2)<|xx (xv 1)<|xv 2) (b1<|sR xb) b0)<|b1<|sR xb)) (.a ?_)
 ·rintro y R X ⟨bk,rfl,hq,u,r⟩;refine⟨rfl,?_⟩;have x:(bk.map dD).length=bk.length:=Wt ..;refine⟨_,.same _,UQ (PB rfl ?_)⟩;refine⟨⟨by lia,by lia⟩,Pf (λi f=>f=[some (.bor<|.lst<|bk.map dD),some (.bor<|.lst<|bk.map dD),none]) rfl ?_ ?_⟩
  ·rintro i f p rfl;have o:i<(((bk.map dD).length:Nat):Int).toNat:=p;have ez:(0:Int)+(i:Int)=(i:Int):=by lia
   have h:i<bk.length:=by lia
   have l:atI (bk.map dD) (0+(i:Int))=some (dD bk[i]):=by rw[ez];exact AN h
   refine⟨_,l,_,l,bk[i],?_,hq _ (WL h),UQ rfl⟩;show[(arg (dD bk[i])).d,(arg (dD bk[i])).d]=_;rw[BP];rfl
  ·rintro f rfl;exact r
def Rk(M:Def K mg "_law_opening" Dj ["_law_script","_law_menu_here"])
  : Iz ζ:=by
 refine M.fz Mn (λl n=>(bc (sS 2 n<|xf Yi l<|a2 (xf Yf l<|a2 (xv 0) xi) xi)<|bc (se (λ{_}=>(@Pu.pz _ _ _ _ _ _ 3 Mn.nd (@IQ _ _ _ _ _ _ _ (DB (K:=K)) (@XB _ _ _ _<|@Xr _ _ _ _ _ UI (@Xr _ _ _ _ _ UI (@Xr _ _ _ _ _ UI (@Xr _ _ _ _ _ UI (@Xr _ _ _ _ _ UI (@Xr _ _ _ _ _ UI (@Xr _ _ _ _ _ UI (@Xr _ _ _ _ _ UI (@Xr _ _ _ _ _ (jx K (pv 1) UI) Xv rfl) rfl) rfl) rfl) rfl) rfl) rfl) rfl) rfl) (PK UP (pv 2) UI) (λ_ _=>rfl)) rfl (by first|exact Or.inl rfl|exact Or.inr rfl) rfl (by first|exact .inl rfl|exact .inr rfl|assumption)))<|Th (Xh (XM<|XS UB<|XS UB<|XS UB<|XS UB<|XS UB<|XS UB<|XS UB<|XS UB<|XS (Xh (U4 1) UB) UN)<|UO (U4 2) UB)<|X8 3)<|bc (sS 4 n<|xL a0)<|bc (sO [5,6] WJ (ir G.Zf<|a1<|xv 3) (gN 5)<|bc (sS 6 n<|xf Yx l<|a2 (xf Yi l<|a2 (xv 2)<|xo UT UV xi<|xv 5)<|xv 1)<|bj (sI (tq l (xo UP UO (xv 2) xi) xi) (b1<|sS 6 n<|xt<|a2 (xo UT UV xi<|xo UP UO (xo UT UV (xv 2)<|xv 5) xi)<|xo UT UV xi<|xo UP UO (xo UT UV (xo UT UV (xo UT UV (xv 2)<|xv 5) xi)<|xo Xn Xl (xv 5) xi) xi) b0)<|bj (sI (tq l (xo UP UO (xv 2) xi) xi) (b1<|sS 6 n<|xt<|a2 (xf Yj l<|a2 (xv 1)<|xv 5)<|xf Yj l<|a2 (xv 1)<|xo UP UO (xo UT UV (xv 5) xi)<|xv 3) b0)<|b1<|sA 4<|xt<|a3 xs (xx (xv 6) xi)<|xx (xv 6) xi)<|b1<|sV 4)) (.a ?_)
 ·rintro ds R X ⟨r,m,rfl,A,L⟩;refine⟨rfl,?_⟩;have o:=A;obtain⟨a,b,c,d,e,rfl,ha,Y,U,T,Q⟩:=A;refine⟨r,1,rfl,by decide,_,_,rfl,?_⟩;generalize mixP (r.getD (1:Int).toNat 0) 300=p;have B:0<=p % 9/\p % 9<9:=by lia
  obtain⟨many,em,N⟩:∃v:Int,atI ([0,1,2,3,4,6,9,24,a].map D.int) (p % 9)=some (.int v)/\0<=v/\v<=24:=by
   refine⟨_,Tz (f:=D.int) (xs:=[0,1,2,3,4,6,9,24,a]) B.1 B.2,?_⟩
   have s:∀v∈([0,1,2,3,4,6,9,24,a]:ZS),0<=v/\v<=24:=by
    intro v z;simp at z;rcases z with rfl|rfl|rfl|rfl|rfl|rfl|rfl|rfl|rfl<;>lia
   exact s _ (WL _)
  refine⟨_,rfl,by simp,(by show(0:Int)<9;decide),_,em,by simp,⟨by lia,by lia⟩,?_⟩;refine Pf (λi g=>∃h:ZR,h.length=i/\g=[some (.bor<|.scr r),some (.bor<|.lst (([a,b,c,d,e]:ZS).map D.int)),some (.sh<|.int p),some (.sh<|.int many),some (.own (h.map λq=>dD (Dd.wish q.1 q.2).q)),none,none]) ⟨[],rfl,rfl⟩ ?_ ?_
  ·rintro i g J ⟨h,hq,rfl⟩;have H:i<many.toNat:=J;have E:(h.map λq=>dD (Dd.wish q.1 q.2).q).length=h.length:=Wt ..;refine⟨_,_,rfl,_,_,rfl,o,λu p2=>?_⟩;refine Nq (λg=>∃(x y:Int),g=[some (.bor<|.scr r),some (.bor<|.lst (([a,b,c,d,e]:ZS).map D.int)),some (.sh<|.int p),some (.sh<|.int many),some (.own (h.map λq=>dD (Dd.wish q.1 q.2).q)),some (.sh<|.int (0+(i:Int))),some (.sh<|prD (x,y))]) ?_ ?_
   ·refine⟨(by show(0:Int)<9;decide),U8 (λ_=>?_) (λ_=>⟨u,p2,rfl⟩)⟩;exact⟨(by show(0:Int)<10;decide),⟨by decide,by decide⟩,(by show(0:Int)<10;decide),by simp,_,_,rfl⟩
   ·rintro g ⟨u,p2,rfl⟩;refine Nq (λg=>∃(x y:Int),g=[some (.bor<|.scr r),some (.bor<|.lst (([a,b,c,d,e]:ZS).map D.int)),some (.sh<|.int p),some (.sh<|.int many),some (.own (h.map λq=>dD (Dd.wish q.1 q.2).q)),some (.sh<|.int (0+(i:Int))),some (.sh<|prD (x,y))]) ?_ ?_
    ·refine⟨(by show(0:Int)<9;decide),U8 (λ_=>?_) (λ_=>⟨u,p2,rfl⟩)⟩;exact⟨_,_,rfl,o,λh1 _ _ _=>⟨(by show 0<many;lia),_,_,rfl,o,λh2 _ _ _=>⟨by simp,_,_,rfl⟩⟩⟩
    ·rintro g ⟨x,y,rfl⟩;refine⟨_,XC _ _,_,G8 _ _ (.inr rfl),by simp,by lia,?_⟩;exact⟨h++[(x,y)],by rw[W7,hq];rfl,by rw[WI];rfl⟩
  ·rintro g ⟨h,hq,rfl⟩;have C:h.length=many.toNat:=hq;exact L h (by lia)
def Zjz(DD:Def K mg "_law_deed" Cw ["_law_cell","_law_menu_here","_law_now"])
  : DE ζ:=by
 refine DD.fz Zfh (λl n=>(bc (sS 3 n<|xo UP UO (xv 0) xi)<|bc (sS 4 n<|xo Xn Xl (xv 0) xi)<|bc (sS 5 n<|xf YL l<|a2 (xv 4)<|xx (xv 2) xi)<|bc (sS 6 n<|xo Xn Xl (xo Xn Xl (xv 4) xi)<|xe (Xw (LQ rfl) (by rfl) G.ZC boot_max<|bz UI<|ln K G.len<|jx K (pv 2) UI)<|Hz<|tz UB<|B3<|sz<|Xh (U4 2) UB)<|bc (sI (tc Kk Ko (xv 3) xi) (b1<|sF 5<|sR<|xt<|a3 xs (xv 5)<|xf Yr l<|a2 (xv 6)<|xf Yj l<|a2 (xv 1)<|xo UP UO (xo Xn Xl (xv 6) xi)<|xx (xv 1) xi) b0)<|bc (sI (tc Kk Ko (xv 3) xi) (b1<|sF 5<|sR<|xt<|a3 xs (xv 5)<|xf YM l<|a3 (xv 6) (xx (xv 2) xi)<|xv 5) b0)<|bc (sI (tq l (xv 3) xi) (b1<|sF 5<|sR<|xt<|a2 xs<|xv 5) b0)<|bc (sS 7 n<|xf Yx l<|a2 (xv 4)<|xv 1)<|bj (sI (tp<|wa (tq l (xv 3) xi)<|wa (tc Ka XW (xo UP UO (xv 4) xi) xi)<|wA<|te (Kq (Fl (K:=K)<|show _<cLine from(l ()).units0) (jx K (pv 2) UI) (XB Xv)<|Kl _)<|XU<|NL (Xh (U4 2) UB)<|XM UN) (b1<|sS 7 n<|xx (xx (xv 2) xi)<|xo UP UO (xo Xn Xl (xv 4) xi)<|xl G.len<|xx (xv 2) xi) b0)<|bc (sI (tc Kk Ko (xv 3) xi) (b1<|sR<|xt<|a3 (xx (xL<|a2 xs xs)<|xo Xn Xl (xv 3) xi) (xx (xv 7) xi)<|xx (xv 7) xi) b0)<|b1<|sR<|xt<|a1 xs)) (.a ?_)
 ·rintro ds R X ⟨c,m,f,w,Q,rfl,N,M,hF,hw,u,hB⟩;refine⟨rfl,?_⟩;have x:=N;have o:atI (plD f::plD w::Q) 1=some (plD w):=NT (by decide) rfl;have hl:(f.map prD).length=f.length:=Wt ..;have Y:(w.map prD).length=w.length:=Wt ..;have A:∀z:Int,0<(if z>1 then z else 1)/\((if z>1 then z else 1)=z\/(if z>1 then z else 1)=1):=λz=>by split<;>lia
  have s:=A (((f.map prD).length:Nat):Int);refine⟨(by show(0:Int)<9;decide),⟨by decide,by decide⟩,_,XC _ _,_,f,rfl,M,λp=>?_⟩;refine⟨⟨by decide,by decide⟩,_,XC _ _,⟨s.1,Int.lt_of_le_of_lt (b:=1000) (by rcases s.2 with w|w<;>rw[w]<;>lia) (by decide)⟩,?_⟩
  obtain⟨L,m1,m2,m3,m4,em,ha,hb,hc,hd,he⟩:=N;have U:atI (m.map D.int) 0=some (.int L):=by rw[em];rfl
  refine U8 (λ_=>?_) (λ_=>U8 (λ_=>?_) (λ_=>U8 (λ_=>?_) (λg4=>?_)))
  ·exact⟨⟨by decide,by decide⟩,_,U,(by show 0<L;lia),m,_,rfl,x,λh _ _ _=>⟨_,_,rfl,λv=>⟨by simp,u (.sell p v)⟩⟩⟩
  ·exact⟨_,XC _ _,_,f,p,rfl,M,hF,λv=>⟨by simp,u (.part p v)⟩⟩
  ·exact⟨by simp,u (.unite p)⟩
  ·refine⟨_,m,rfl,x,λa b=>?_⟩;refine Nq (λr=>∃(a b:Int) (J H E:Option S),r=[some (.sh<|.int c),some (.bor<|.lst<|m.map D.int),some (.bor<|.tup (plD f::plD w::Q)),some (.sh<|.int (c % 9)),J,H,E,some (.sh<|prD (a,b))]) ?_ ?_
   ·refine U8 (λ_=>⟨(by show(0:Int)<4;decide),U8 (λ_=>⟨_,o,by simp,?_⟩) (λ_=>UQ ⟨a,b,_,_,_,rfl⟩)⟩) (λ_=>UQ ⟨a,b,_,_,_,rfl⟩);have C:(w.map prD).isEmpty=decide (w=[]):=by cases w<;>simp
    show if (!(w.map prD).isEmpty)=true then _ else _;rw[C];refine U8 (λg=>?_) (λg=>⟨a,b,_,_,_,rfl⟩);have y:w≠[]:=λz=>by rw[Ww z]at g;cases g
    have hp:0<w.length:=Vj.mpr y;have T:=Int.emod_nonneg (c / 9 / 4) (show(((w.map prD).length:Nat):Int)≠0 by lia);have q2:=Jr (c / 9 / 4) (show 0<(((w.map prD).length:Nat):Int) by lia);exact⟨_,o,⟨by decide,by decide⟩,_,o,(by show 0<(((w.map prD).length:Nat):Int);lia),_,Tz (f:=prD) (xs:=w) T (by lia),_,_,_,_,_,rfl⟩
   ·rintro r ⟨a,b,J,H,E,rfl⟩;refine U8 (λg=>?_) (λg=>⟨by simp,hB⟩);have g':c % 9<8:=Wy g;have hk:c % 9 / 7=0\/c % 9 / 7=1:=by lia
    have ex:∃k:Str,atI [D.str "wish",.str "drop"] (c % 9 / 7)=some (.str k)/\(k=("wish" : Str)\/k=("drop" : Str)):=by
     rcases hk with e|e<;>rw[e]
     ·exact⟨_,rfl,.inl rfl⟩
     ·exact⟨_,rfl,.inr rfl⟩
    obtain⟨k,ek,B⟩:=ex;refine⟨by simp,⟨by decide,by decide⟩,_,ek,_,XC _ _,_,G8 _ _ (.inr rfl),by simp,?_⟩;rcases B with rfl|rfl
    ·exact u (.wish a b)
    ·exact u (.drop a b)
def Rq(x:Def K mg "check_no_ring" Ds ["strips","wishes"])
  : LD ζ:=by
 refine x.fz Zab (λf n=>(bc (sS 2 n<|xf Yy f<|a2 (xf Yk f<|a1<|xv 0)<|xv 1)<|b1<|sI (tt<|xv 2) (b1<|se Zio Oo) b0)) (.a ?_)
 ·rintro z R X ⟨g,l,rfl,v,o,p,u,s⟩;refine⟨rfl,g,rfl,v,o,_,l,rfl,(Pp g).imp (λh=>Vz h),W9 (Tr g) (by decide),λr f y=>?_⟩;have e:=(f.none_iff p).mpr u;subst e;exact UQ (A:=False) s
def Zhs(v:UY K (UU K (UM ζ) "ring") "ring" "Village.ring" AX ["self"])
  : Lo ζ:=by
 refine v.fz Zfg (λg n=>(b1<|sr<|xf Yy g<|a2 (xf Yk g<|a1<|xe (Xg Yg G.Za (hq<|g ()) Xf<|pv 0)<|Xz Ph (U4 0) UN)<|xe (Xg Yh G.Za (hq<|g ()) Xf<|pv 0)<|Xz P1 (U4 0) UN)) (.a ?_)
 ·rintro x R X ⟨bk,fs,l,f,w,rfl,u,o,s⟩;refine⟨rfl,rfl,rfl,bk,fs,l++[w],f,rfl,f,rfl,u,o,rfl,rfl,bk,fs++[f],l,w,rfl,?_⟩;exact⟨_,w,rfl,(Pp f).imp (λh=>Vz h),W9 (Tr f) (by decide),λr g p=>s r g p⟩
def Zcy(B:Def K mg "_law_call" AO ["_law_village","_law_deed_here"])
  : IT ζ:=by
 refine B.fy Rh (λu n=>(bc (sI (tq u (xx (xv 1) xi) xs) (b1<|se (X4<|Pb We G.Za (hq<|u ()) ExcR.Xu (pv 0)<|bz (jx K (pv 1) UI)<|jx K (pv 1) UI)<|KZ<|NQ 0 Zcw<|tz (Xh (U4 1) UB)<|Xh (U4 1) UB) b0)<|bc (sI (tq u (xx (xv 1) xi) xs) (b1<|se (X4<|Pb Wf G.Za (hq<|u ()) ExcR.Xu (pv 0)<|bz (jx K (pv 1) UI)<|jx K (pv 1) UI)<|KZ<|NQ 0 Zb3<|tz (Xh (U4 1) UB)<|Xh (U4 1) UB) b0)<|bc (sI (tq u (xx (xv 1) xi) xs) (b1<|se (X4<|Pb Wg G.Za (hq<|u ()) ExcR.Xu (pv 0)<|az<|jx K (pv 1) UI)<|KZ<|NQ 0 Zld<|sz<|Xh (U4 1) UB) b0)<|bc (sI (tq u (xx (xv 1) xi) xs) (b1<|se (X4<|Pb Wh G.Za (hq<|u ()) ExcR.Xu (pv 0)<|bz (jx K (pv 1) UI)<|jx K (pv 1) UI)<|KZ<|NQ 0 Zbg<|tz (Xh (U4 1) UB)<|Xh (U4 1) UB) b0)<|b1<|se (X4<|Pb YW G.Za (hq<|u ()) ExcR.Xu (pv 0)<|bz (jx K (pv 1) UI)<|jx K (pv 1) UI)<|KZ<|NQ 0 Zha<|tz (Xh (U4 1) UB)<|Xh (U4 1) UB)) (.c ?_)
 ·rintro o C R X ⟨x,b1,s,r,bk,fs,l,f,w,d,rfl,rfl,y,v,hw,z,A,g⟩;refine⟨rfl,?_⟩;cases d with
  |sell p h=>
   refine⟨_,rfl,?_⟩;refine⟨rfl,rfl,_,rfl,_,rfl,x,b1,s,r,bk,fs,l,f,w,p,h,rfl,rfl,y,v,hw,z,?_⟩;have g:X2 (BS bk f p h) (X<|vO (ExcR.UC mg "Village") x b1 s r bk (fs++[f]) (l++[w])) (R (vO (ExcR.UC mg "Village") x b1 s r (bk++[(Dd.sell p h).q]) (fs++[f]++[(Dd.sell p h).fld f]) (l++[w]++[(Dd.sell p h).wsh w]))<|.int (bk.length+1)):=g;cases e:BS bk f p h with
   |some c=>rw[e]at g;exact⟨_,rfl,⟨rfl,by simp⟩,g⟩
   |none=>rw[e]at g;exact⟨_,rfl,⟨rfl,by simp⟩,g⟩
  |part p h=>
   refine⟨_,rfl,_,rfl,?_⟩;refine⟨rfl,rfl,_,rfl,_,rfl,x,b1,s,r,bk,fs,l,f,w,p,h,rfl,rfl,y,v,hw,z,?_⟩;have g:X2 (S8 bk f p h) (X<|vO (ExcR.UC mg "Village") x b1 s r bk (fs++[f]) (l++[w])) (R (vO (ExcR.UC mg "Village") x b1 s r (bk++[(Dd.part p h).q]) (fs++[f]++[(Dd.part p h).fld f]) (l++[w]++[(Dd.part p h).wsh w]))<|.int (bk.length+1)):=g;cases e:S8 bk f p h with
   |some c=>rw[e]at g;exact⟨_,rfl,⟨rfl,by simp⟩,g⟩
   |none=>rw[e]at g;exact⟨_,rfl,⟨rfl,by simp⟩,g⟩
  |unite p=>
   refine⟨_,rfl,_,rfl,_,rfl,?_⟩;refine⟨rfl,rfl,_,rfl,x,b1,s,r,bk,fs,l,f,w,p,rfl,rfl,y,v,hw,z,?_⟩;have g:X2 (BN bk f p) (X<|vO (ExcR.UC mg "Village") x b1 s r bk (fs++[f]) (l++[w])) (R (vO (ExcR.UC mg "Village") x b1 s r (bk++[(Dd.unite p).q]) (fs++[f]++[(Dd.unite p).fld f]) (l++[w]++[(Dd.unite p).wsh w]))<|.int (bk.length+1)):=g;cases e:BN bk f p with
   |some c=>rw[e]at g;exact⟨_,rfl,⟨rfl,by simp⟩,g⟩
   |none=>rw[e]at g;exact⟨_,rfl,⟨rfl,by simp⟩,g⟩
  |wish p h=>
   refine⟨_,rfl,_,rfl,_,rfl,_,rfl,?_⟩;refine⟨rfl,rfl,_,rfl,_,rfl,x,b1,s,r,bk,fs,l,f,w,p,h,rfl,rfl,y,v,hw,A,?_⟩;have g:X2 (BU bk w p h) (X<|vO (ExcR.UC mg "Village") x b1 s r bk (fs++[f]) (l++[w])) (R (vO (ExcR.UC mg "Village") x b1 s r (bk++[(Dd.wish p h).q]) (fs++[f]++[(Dd.wish p h).fld f]) (l++[w]++[(Dd.wish p h).wsh w]))<|.int (bk.length+1)):=g;cases e:BU bk w p h with
   |some c=>rw[e]at g;exact⟨_,rfl,⟨rfl,by simp⟩,g⟩
   |none=>rw[e]at g;exact⟨_,rfl,⟨rfl,by simp⟩,g⟩
  |drop p h=>
   refine⟨_,rfl,_,rfl,_,rfl,_,rfl,?_⟩;refine⟨rfl,rfl,_,rfl,_,rfl,x,b1,s,r,bk,fs,l,f,w,p,h,rfl,rfl,y,v,hw,A,?_⟩;have g:X2 (Br bk w p h) (X<|vO (ExcR.UC mg "Village") x b1 s r bk (fs++[f]) (l++[w])) (R (vO (ExcR.UC mg "Village") x b1 s r (bk++[(Dd.drop p h).q]) (fs++[f]++[(Dd.drop p h).fld f]) (l++[w]++[(Dd.drop p h).wsh w]))<|.int (bk.length+1)):=g;cases e:Br bk w p h with
   |some c=>rw[e]at g;exact⟨_,rfl,⟨rfl,by simp⟩,g⟩
   |none=>rw[e]at g;exact⟨_,rfl,⟨rfl,by simp⟩,g⟩
def Zgj(z:Def K mg "_law_stands" Cb ["_law_village","_law_past"])
  : Ez ζ:=by
 refine z.fz Ze2 (λg n=>(bc (sI (tN<|tt<|xf Yw g<|a2 (xe (Xg Yg G.Za (hq<|g ()) Xf<|pv 0)<|Xz Ph (U4 0) UN)<|xx (xx (xv 1)<|xe (XZ XX UI)<|Kb UB) xi) (b1<|sR xb) b0)<|bc (sI (tN<|tt<|xf Yw g<|a2 (xe (Xg Yh G.Za (hq<|g ()) Xf<|pv 0)<|Xz P1 (U4 0) UN)<|xx (xx (xv 1)<|xe (XZ XX UI)<|Kb UB) xi) (b1<|sR xb) b0)<|b1<|sR<|xf Wi g<|a2 (xe (Xg YC G.Za (hq<|g ()) Xf<|pv 0)<|Xz O9 (U4 0) UN)<|xe (cz ["_law_one"] [none] (P9 (K:=K)<|Cd (CC (K:=K)) (pv 1) (Bf UI) Ir) ⟨(gk 0),PZ,(jx K (pv 0) UI)⟩)<|Pa (OE (U4 1) (Bz UB) Mm) (X8 0) T8<|Xh (U4 0) UB)) (.a ?_)
 ·rintro L R X ⟨f0,f,rfl,E,s,hw,u⟩;refine⟨rfl,?_⟩;obtain⟨fs,p,B⟩:=N2 f0 f;obtain⟨r,l,A⟩:=N3 f;obtain⟨d,o⟩:=TQ f0 f;have J:(Xd f0 f).length<=1000:=s _ (by rw[p];simp);have H:(Xi f).length<=1000:=hw _ (by rw[l];simp);have C:=Bg f
  have y:∀q∈bkH f,q.2.length<=100:=λq hq=>by
   unfold bkH at hq;obtain⟨h,_,rfl⟩:=WZ.mp hq
   have:=h.1.q_len
   lia
  have v:cutD (Xp f0 f) (some 1) none=f.map Sm:=by
   rw[Sh _ (by decide)];rfl
  refine⟨rfl,rfl,bkH f,fs,wsH f,Xd f0 f,by rw[←p];rfl,?_⟩;refine⟨_,o,_,rfl,Xd f0 f,rfl,by lia,UQ ?_⟩;refine⟨rfl,rfl,bkH f,fsH f0 f,r,Xi f,by rw[←l];rfl,?_⟩;refine⟨_,o,_,rfl,Xi f,rfl,by lia,UQ ?_⟩;refine⟨rfl,rfl,bkH f,fsH f0 f,wsH f,rfl,?_⟩;show Nz _ _ _ _ _ (cutD (Xp f0 f) (some 1) none).length (λi=>arg ((cutD (Xp f0 f) (some 1) none).getD i .non)) _;rw[v];refine Zli (xs:=f) (emb:=Sm) (λh=>some (dD h.1.q)) (by lia) (λh _=>?_) ?_
  ·refine⟨_,rfl,_,?_,rfl⟩;show(arg<|dD h.1.q).shd=_;rw[BP];rfl
  ·rw[Py (λh:Dd×ZR×ZR=>dD h.1.q)]
   have x:f.map (λh:Dd×ZR×ZR=>dD h.1.q)=(bkH f).map dD:=by
    unfold bkH;rw[Qi];rfl
   rw[x];exact⟨bkH f,rfl,y,by lia,u⟩
def Zl9(H:Def K mg "cost_table" Aa ["strips","wishes"])
  : Ly ζ:=by
 refine H.fz Zhg (λp n=>(bc (sE<|xf Y0 p<|a2 (xv 0)<|xv 1)<|bc (sS 2 n<|xf Yz p<|a3 (xv 0) (xv 1)<|xf Yv p<|a1<|xv 0)<|b1<|sR<|xe (KU (Zhw rfl) (by rfl) G.Zg boot_list<|Xr (Zmd (K:=K)<|pv 2) Xv)<|Zl6<|U4 2)) (.a ?_)
 ·rintro J R X ⟨f,u,rfl,s,l,hw,o,v,B⟩;refine⟨rfl,f,u,rfl,s,l,o,v,f,rfl,s,l,λy r=>⟨f,u,y,pcc f,rfl,s,l,hw,o,r,IH o v,λg T=>?_⟩⟩;have z:(UD f).Nodup:=(Pp f).imp (λh=>Vz h);obtain⟨x,e,A⟩:=T.vals (Ls z);obtain⟨E,C⟩:=Ml e;refine⟨g,rfl,E,?_⟩;rw[C];exact B x A
def MW(DD:Def K mg "best_order" FH ["strips","wishes"])
  : Lk ζ:=by
 refine DD.fz G3 (λA n=>(bc (sE<|xf Y0 A<|a2 (xv 0)<|xv 1)<|bc (sS 2 n<|xf Yv A<|a1<|xv 0)<|bc (se (Pu.pz 3 G3.nd<|fz Yz (A ())<|dz (pv 0) (pv 1)<|pv 2)<|Th (Pz<|uz (U4 0) (U4 1)<|U4 2)<|X8 3)<|bc (sS 4 n<|xe (KU (GK (K:=K)) (by rfl) G.Zo boot_tuple<|az<|fz Yk (A ())<|az<|pv 0)<|E8<|sz<|Pz<|sz<|U4 0)<|bc (sS 5 n<|xL a0)<|bc (sW [6,7] WJ (tt<|xv 4)<|bc (sC 6 ["holder","members","wishes"] [none,some 4,some 1] n (je (NC (K:=K)<|pv 4)<|SndI.c<|NU<|U4 4) (gN 0) (f1<|tt<|xf YB A<|a3 (xv 1) (xv 0)<|xv 2)<|xv 0)<|bc (sC 7 ["first","members","least","pairs"] [none,some 4,some 3,some 2] n (jL<|xv 6) (gN 0) (f1<|tq A (xf YV A<|ac (xv 1)<|ac (xv 0)<|ac (xv 2)<|ac (xv 3) a0)<|xe (Sg (Kd<|A ()) (pv 2) (pv 1) (λ_ _=>rfl))<|Sa (U4 2)<|U4 1)<|xv 0)<|bc (sA 5<|xx (xv 7) xi)<|b1<|sS 4 n<|xf Yq A<|a2 (xv 4)<|xx (xv 7) xi)<|b1<|sV 5)) (.a ?_)
 ·rintro ds R X ⟨z,v,rfl,hF,hz,hw,hu,hN,hR⟩;refine⟨rfl,z,v,rfl,hF,hz,hu,hN,z,rfl,hF,hz,λpa hpa=>⟨z,v,pa,pcc z,rfl,hF,hz,hw,hu,hpa,IH hu hN,λkvs T=>⟨z,rfl,hF,hz,?_⟩⟩⟩;have hh:=Tr z;have hri:=Pp z;have nd:(UD z).Nodup:=hri.imp (λh=>Vz h);have hpa':∀x∈UD z,∀y∈UD z,UL pa [.inl x,.inl y]=some (.int<|pcc z x y):=hpa;generalize pcc z=c at *;generalize UD z=Y at *
  refine⟨rfl,by simp,Dz (λγ'=>∃(u o:ZS),γ'=[some (.bor<|.lst<|z.map prD),some (.bor<|.lst<|v.map prD),some (.own<|.dT pa),some (.own<|.dT kvs),some (.sh<|tD u),some (.own<|o.map D.int),none,none]/\u∈UW Y/\o.length+u.length<=10/\
   ∀p,KI v c u p->KI v c Y (o++p)) Zau ⟨Y,[],rfl,List.mem_of_getLast? (II Y),by simpa using hh,λp hp=>hp⟩ ?_⟩
  rintro γ' ⟨u,o,rfl,M,hol,hB⟩;show if (!(u.map D.int).isEmpty)=true then _ else _;refine U8 (λg=>?_) (λg=>?_)
  ·have E:=N7 Y u M;have hne:u≠[]:=λe=>by subst e;simp at g
   have C:u.Nodup:=nd.sublist E;have hrm:=hri.sublist E
   have B:∀l∈u,UK u l∈UW Y:=λl N=>by
    obtain⟨k,hk,e⟩:=WY.mp M;obtain⟨j,_,ej⟩:=Hf nd k u (by rw[Wv hk,e]) l N;exact W4 ej
   obtain⟨J,hvs⟩:=DV λl N=>T.val _ (B l N);obtain⟨V,hV1,U⟩:=T.val u M;have hv2:∀l∈u,Kn v c (UK u l) (J l):=λl N=>(hvs l N).2
   have L:∃f rest,(u.filter (λh=>firstM v u h)).filter (λf=>decide (J f+((UK u f).map (c f)).sum=V))=f::rest:=by
    obtain⟨q,q1,q2,q3⟩:=U.is;cases q with
    |nil=>exact absurd q1.nil_eq.symm hne
    |cons g p=>
     obtain⟨r1,r2,r3,_⟩:=GG C hu hv2 U q1 q2 q3;exact List.exists_cons_of_ne_nil (List.ne_nil_of_mem<|WT.mpr ⟨WT.mpr ⟨r1,r2⟩,Ww r3⟩)
   obtain⟨f,rest,ef⟩:=L;have Q:f∈(u.filter (λh=>firstM v u h)).filter (λf=>decide (J f+((UK u f).map (c f)).sum=V)):=by rw[ef];exact WW ..
   obtain⟨Q,hf3⟩:=WT.mp Q;obtain⟨H,hf2⟩:=WT.mp Q
   have hmin:∀g∈u,firstM v u g=true->J g+((UK u g).map (c g)).sum=V->f<=g:=λg h1 h2 h3=>by
    have hg:g∈(u.filter (λh=>firstM v u h)).filter (λf=>decide (J f+((UK u f).map (c f)).sum=V)):=WT.mpr ⟨WT.mpr ⟨h1,h2⟩,Ww h3⟩
    have A:(f::rest).Pairwise (· < ·):=by
     rw[←ef];exact(hrm.filter _).filter _
    rw[ef]at hg;rcases W8.mp hg with e|hg
    ·lia
    ·have:=(QE.mp A).1 g hg
     lia
   refine⟨_,rfl,XA (s:=.sh .non) (xs:=u) (emb:=D.int) (λh=>if firstM v u h=true then some (.int h)else none) (by lia) (λh hm=>?_) ?_⟩
   ·refine⟨u,h,v,rfl,hw,?_⟩;refine U8 (λg=>⟨_,rfl,W3 g⟩) (λg=>W2 g)
   ·rw[KP (λh=>firstM v u h)];refine XA (xs:=u.filter (λh=>firstM v u h)) (emb:=D.int) (λf=>if decide (J f+((UK u f).map (c f)).sum=V)=true then some (.int f)else none) (W9 (Q8 _ _)<|by lia) (λl N=>?_) ?_
    ·obtain⟨hl1,hl2⟩:=WT.mp N;refine⟨u,l,kvs,pa,c l,J l,rfl,by lia,(hvs l hl1).1,λm hm=>hpa' l (E.subset hl1) m (E.subset<|less_sub.subset hm),_,_,Bk u,hV1,rfl,?_⟩;refine U8 (λg=>⟨_,rfl,W3 g⟩) (λg=>W2 g)
    ·rw[KP (λf=>decide (J f+((UK u f).map (c f)).sum=V)),ef];refine⟨_,XC _ _,by rw[Wt];lia,_,XC _ _,u,f,rfl,by lia,⟨UK u f,o++[f],?_,B f H,?_,λp hp=>?_⟩,?_⟩
     ·rw[WI];rfl
     ·have:=(P0 C H).length_eq
      rw[W7];rw[WM]at this;show o.length+1+_<=10;lia
     ·rw[Ju];exact hB _ (Zhk C hu hv2 U H hf2 (Wy hf3) hmin hp)
     ·have:=(P0 C H).length_eq
      rw[WM]at this;show((UK u f).map D.int).length<(u.map D.int).length;rw[Wt,Wt];lia
  ·have e:u=[]:=by
    cases u with
    |nil=>rfl
    |cons a r=>exact absurd rfl g
   subst e
   have:=hB [] (O2 v c)
   rw[Qn]at this;exact hR o this
def MY(DD:Def K mg "_law_go" Aj ["_law_village","_law_past","_law_deed_here"])
  : HV ζ:=by
 refine DD.fz EA (λo n=>(bc (sI (tq o (xx (xv 2) xi) xs) (bj (sI (tc Ka XW (xl G.len<|xv 1) xi) (bc (se (Kv<|Xg YD G.Za (hq<|o ()) NY<|pv 0)<|Ts<|Nh 0 Zgu UN)<|b1<|se (Kv<|Sv Qd Vx Vy Bb<|pv 1)<|Ts<|RZ 1) b0)<|b1<|se (X4 TX)<|By Nm) b0)<|bc (sF 2<|sS 3 n<|xe (fz Wb (o ())<|bz (jx K (pv 1)<|XZ XX UI)<|pv 2)<|Du<|tz (Xh (U4 1)<|Kb UB)<|U4 2)<|bc (sI (tc Ka XW (xx (xv 3) xi) xi) (b1<|se (X4 TX)<|By Nm) b0)<|bc (sF 2<|sA 1<|xt<|a3 (xx (xv 3) xi) (xx (xv 3) xi)<|xv 2)<|bc (sF 2<|se (Pu.pz 4 EA.nd<|Dc Wm (hq<|o ()) NY<|bz (pv 0)<|pv 2)<|Zeb (Zkm 0<|sz<|U4 2)<|X8 4)<|b1<|se (X4<|Ss (fz Yo (o ())<|az<|pv 4)<|Si<|TH (N4 (K:=K)<|show _<cLine from(o ()).units0) (pv 4) (PK XH (ln K G.len<|pv 1) UI)<|Kl _)<|By<|N1 (Pz<|sz<|U4 4)<|NJ (U4 4)<|XD (B3<|sz<|U4 1) UB)) (.d ?_)
 ·rintro o1 o2 ss R X ⟨x,b1,B,A,a,f0,f,q,rfl,rfl,rfl,hz,T,s⟩;refine⟨rfl,?_⟩;obtain⟨⟨h1,U⟩,J⟩:=T.cur;rcases s with⟨rfl,l⟩|⟨d,rfl,l⟩
  ·refine⟨_,rfl,?_⟩;refine Nq (λp=>∃H E C:Option S,p=[some (.own<|vO (ExcR.UC mg "Village") x b1 B A (bkH f.dropLast) (fsH f0 f.dropLast)<|wsH f.dropLast),some (.own<|.lsA a<|Xp f0 f.dropLast),H,E,C]) ?_ ?_
   ·rcases Q9 f with rfl|⟨h,y,rfl⟩
    ·exact⟨_,_,_,rfl⟩
    ·rw[QV,QK];have r:(Xp f0 (h++[y])).length=h.length+2:=by rw[SA,W7,QU]
     have g:(((Xp f0 (h++[y])).length:Nat):Int)>1:=by lia
     have v:(Xp f0 (h++[y]))[(Xp f0 (h++[y])).length-1]?=some (Sm y):=by
      rw[r,Aq,Qh (by rw[SA];lia),SA];rw[show h.length+2-1-(h.length+1)=0 by lia];rfl
     have ed:(Xp f0 (h++[y])).dropLast=Xp f0 h:=by rw[Aq,QK]
     show if decide ((((Xp f0 (h++[y])).length:Nat):Int)>1)=true then _ else _;rw[Ww g];refine Xs ⟨rfl,rfl,x,b1,B,A,bkH (h++[y]),fsH f0 (h++[y]),wsH (h++[y]),rfl,rfl,by rw[OS,Bg],by rw[Zfa,Bg],λe=>?_,λb0 q e=>?_⟩
     ·rw[AJ]at e;simp at e
     ·rw[AJ]at e;obtain⟨rfl,e2⟩:=List.append_inj' e rfl;cases e2
      rw[BA,SN,QK,QK];refine⟨_,v,?_⟩;rw[ed];exact⟨_,_,_,rfl⟩
   ·rintro p ⟨H,E,C,rfl⟩;exact⟨_,_,rfl,rfl,⟨rfl,by simp⟩,rfl,l⟩
  ·obtain⟨fs,M,lf⟩:=N2 f0 f;obtain⟨N,L,lw⟩:=N3 f;obtain⟨dl,v⟩:=TQ f0 f;have lb:=Bg f;have lp:=SA f0 f;have Q:=d.not_back;refine⟨_,XC _ _,?_⟩;show if decide (d.q.1=("back" : Str))=true then _ else _;rw[Qa Q];refine UQ ⟨_,v,Xd f0 f,Xi f,[dl],d,rfl,U,J.1,_,rfl,?_⟩;by_cases e:d.err (Xd f0 f) (Xi f)=none
   ·have z:Kh f0 f d=f++[(d,d.fld (Xd f0 f),d.wsh (Xi f))]:=by unfold Kh;rw[W3 e]
    rw[z]at l;rw[AJ,BA,SN,Aq,M,L]at l;show if decide (codeN (d.err (Xd f0 f)<|Xi f)>0)=true then _ else _;rw[e];refine UQ ⟨_,rfl,_,rfl,by simp,by lia,?_⟩;refine⟨x,b1,B,A,bkH f,fs,N,Xd f0 f,Xi f,d,by rw[←M,←L],rfl,by lia,by lia,by lia,by lia,by have:=J.1;lia,?_⟩
    have ec:F8 (bkH f) (Xd f0 f) (Xi f) d=none:=by
     unfold F8;rw[W2 (by lia),e]
    have en:d.nf (Xd f0 f) (Xi f)=d.fld (Xd f0 f):=by unfold Dd.nf;rw[W3 e]
    have u:d.nw (Xd f0 f) (Xi f)=d.wsh (Xi f):=by unfold Dd.nw;rw[W3 e]
    rw[ec];have Y:((((bkH f).length:Nat):Int)+1=((((Xp f0 f++[D.tup [plD (d.nf (Xd f0 f)<|Xi f),plD (d.nw (Xd f0 f)<|Xi f),dD d.q]]).length:Nat)):Int)-1):=by rw[W7,QU];lia
    refine⟨_,rfl,Xs ?_⟩;refine⟨_,_,rfl,rfl,⟨rfl,by simp⟩,rfl,?_⟩;rw[Ww Y,en,u];exact l
   ·have z:Kh f0 f d=f:=by unfold Kh;rw[W2 e]
    rw[z]at l;show if decide (codeN (d.err (Xd f0 f)<|Xi f)>0)=true then _ else _;rw[Ww (Dd.code_pos e)];exact Xs ⟨_,_,rfl,rfl,⟨rfl,by simp⟩,rfl,l⟩
def Zmv(C:Def K mg "least_cost" Fw ["strips","wishes"])
  : Iu ζ:=by
 refine C.fz Zb1 (λx n=>(b1<|sR<|xx (xf Wn x<|a2 (xv 0)<|xv 1)<|xe (XZ XX UI)<|Kb UB)) (.a ?_)
 ·rintro H R X ⟨g,p,rfl,B,s,hw,u,A,z⟩;refine⟨rfl,g,p,rfl,B,s,hw,u,A,λr o=>?_⟩;have l:=II (UD g);rw[List.getLast?_eq_getElem?]at l;have E:=(WH.mp l).1;have y:=o.1;obtain⟨v,h⟩:∃v,r[(UW<|UD g).length-1]?=some v:=⟨_,Wv (by lia)⟩;have L:=o.2 _ _ _ l h;rw[←y]at h;exact⟨_,Px (f:=D.int) (Bo h),z _ L⟩
def Oj(u:UY K (UU K (UM ζ) "order") "order" "Village.order" Dk ["self"])
  : IX ζ:=by
 refine u.fz Zby (λg n=>(b1<|sR<|xf Wo g<|a2 (xe (Xg Yg G.Za (hq<|g ()) Xf<|pv 0)<|Xz Ph (U4 0) UN)<|xe (Xg Yh G.Za (hq<|g ()) Xf<|pv 0)<|Xz P1 (U4 0) UN)) (.a ?_)
 ·rintro v R X ⟨bk,fs,h,f,w,rfl,s,l,hw,o,r,p⟩;refine⟨rfl,?_⟩;exact⟨rfl,rfl,bk,fs,h++[w],f,rfl,rfl,rfl,bk,fs++[f],h,w,rfl,f,w,rfl,s,l,hw,o,r,p⟩
def Zbd(u:UY K (UU K (UM ζ) "cost") "cost" "Village.cost" Cr ["self"])
  : M4 ζ:=by
 refine u.fz Zb9 (λg n=>(b1<|sR<|xf Wp g<|a2 (xe (Xg Yg G.Za (hq<|g ()) Xf<|pv 0)<|Xz Ph (U4 0) UN)<|xe (Xg Yh G.Za (hq<|g ()) Xf<|pv 0)<|Xz P1 (U4 0) UN)) (.a ?_)
 ·rintro v R X ⟨bk,fs,h,f,w,rfl,s,l,hw,o,r,p⟩;refine⟨rfl,?_⟩;exact⟨rfl,rfl,bk,fs,h++[w],f,rfl,rfl,rfl,bk,fs++[f],h,w,rfl,f,w,rfl,s,l,hw,o,r,p⟩
def Zkz(T:Def K mg "_law_best_is" Af ["_law_village","_law_now"])
  : EG ζ:=by
 refine T.fz RY (λg n=>(bc (sS 2 n<|xf YI g<|a2 (xf Yu g<|a1<|xx (xv 1) xi)<|xx (xv 1) xi)<|bc (sI (tN<|tt<|xf Yp g<|a2 (xe (Xg Wl G.Za (hq<|g ()) Xf<|pv 0)<|Xz Zly (U4 0) UN)<|xv 2) (b1<|sR xb) b0)<|bc (sI (te (Kq (Fl (K:=K)<|show _<cLine from(g ()).units0) (pv 2) (XB Xv)<|Kl _)<|XU<|NL (U4 2)<|XM UN) (b1<|sR xb) b0)<|bc (sS 3 n<|xf Wa g<|a2 (xx (xv 1) xi)<|xx (xv 1) xi)<|b1<|sR<|xe (Ss (fz Yp (g ())<|bz (Xg Wq G.Za (hq<|g ()) Xf<|pv 0)<|jx K (pv 3) UI)<|Si<|fz Yp (g ())<|bz (XB<|az<|Xg Wr G.Za (hq<|g ()) Xf<|pv 0)<|XB<|az<|jx K (pv 3) UI)<|N1 (Pz<|tz (Xz O5 (U4 0) UN)<|Xh (U4 3) UB)<|Pz<|tz (XM<|sz<|Xz Zer (U4 0) UN)<|XM<|sz<|Xh (U4 3) UB)) (.a ?_)
 ·rintro ds R X ⟨bk,fs,x,f,w,e,rfl,u,U,H,J⟩;refine⟨rfl,?_⟩;have p:∀q∈w,q.1≠q.2:=λq hq=>(H.2.2 q hq).2;have A:=Tr f;have hw:=H.1;have L:(UD f).Nodup:=(Pp f).imp (λh=>Vz h);obtain⟨r,g⟩:=FR.ex (UD f) w;refine⟨_,rfl,f,rfl,by lia,_,rfl,UD f,w,r,rfl,L,A,p,hw,g,?_⟩;refine⟨rfl,rfl,bk,fs,x,f,w,rfl,u,by lia,λE z Y=>?_⟩;obtain rfl:=z.one g;refine⟨E,rfl,by lia,UQ ?_⟩;have Q:=FR.none_iff p g;cases E with
  |cons l t=>exact⟨by simp,J⟩
  |nil=>
   have B:=Q.mp rfl;refine⟨by simp,_,rfl,_,rfl,f,w,rfl,u,by lia,A,p,B,λo s=>?_⟩;have N:o.length<=10:=by rw[s.perm.length_eq];exact A
   refine⟨rfl,rfl,bk,fs,x,f,w,rfl,u,by lia,by lia,p,B,λy C=>?_⟩;obtain rfl:=Pu.KI.uniq C s;refine⟨_,rfl,y,rfl,by lia,?_⟩;refine⟨rfl,rfl,bk,fs,x,f,w,rfl,u,by lia,by lia,p,B,λv M=>?_⟩;obtain rfl:=M.uniq ⟨⟨y,s.perm,s.keeps,rfl⟩,s.le⟩;exact⟨by simp,_,rfl,by simp,[oc (pcc f) y],rfl,by simp,J⟩
def Zgr(DD:Def K mg "law" Pg ["_law_script"])
  : Zbi ζ:=by
 refine DD.fz Rw (λs n=>(bc (sS 1 n<|xf YE s<|a1<|xf YX s<|a2 (xv 0) xi)<|bc (sX 1 xi<|xo UT UV xi<|xo UP UO (xx (xv 1) xi) xi)<|bc (sS 2 n<|xf Wc s<|a3 (xv 0) (xv 1)<|xo UP UO (xo Xn Xl (xf Yf s<|a2 (xv 0) xi) xi) xi)<|bc (sF 2<|sS 3 n<|xx (xL<|a2 (xv 2)<|xe (Zfe (K:=K) (pv 2)<|XZ XX UI)<|Zho (U4 2)<|Kb UB)<|xo UP UO (xf YY s<|a1<|xv 0) xi)<|bc (sS 4 n<|xe (KU (Nu (K:=K)) (by rfl) G.Zg boot_list<|az<|pv 2)<|TM<|sz<|U4 2)<|bc (sF 4<|sS 5 n<|xe (XB<|bz (Cn Ys G.Zk (hq<|s ()) NY<|az<|pv 4)<|Cn Ys G.Zk (hq<|s ()) NY<|az<|pv 4)<|O8 (F2<|sz<|U4 4)<|F2<|sz<|U4 4)<|bj (sI (te (Kq (Zbn (show _<cLine from(s ()).units0)<|show _<cLine from Kd (s ())) (pv 3) (pv 2)<|Kl _)<|XU<|Zcp (U4 3)<|U4 2) (b1<|se (Ld (Cn Ys G.Zk (hq<|s ()) NY<|az<|KU (Nu (K:=K)) (by rfl) G.Zg boot_list<|az<|pv 3)<|Ep (pv 5) UI M0)<|Zd4 5 UB<|F2<|sz<|TM<|sz<|U4 3) b0)<|bc (sF 3<|sF 2<|sS 6 n<|xe (XB<|bz (XB<|az<|Kf<|dz (pv 2) (XB Xv)<|Kf Xv)<|XB<|az<|Kf<|dz (pv 3) (XB Xv)<|Kf Xv)<|Zad (XM<|sz<|Kj<|uz (U4 2) (XM UN)<|Kj UN)<|XM<|sz<|Kj<|uz (U4 3) (XM UN)<|Kj UN)<|bc (sO [7,8] WJ (iL<|xf Wj s<|a2 (xv 0)<|xv 1) (gN 7)<|bc (sS 8 n<|xo UP UO (xx (xv 7) xi) xi)<|b1<|sF 7<|se (Az (A4<|Cg (K:=K)<|fz Y2 (s ())<|dz (jx K (pv 5)<|pv 8) (jx K (pv 6)<|pv 8)<|pv 7) (SY<|X4 TX)
   D2)<|Ge (GE<|GC<|Gm 5 6 8 (by decide)<|sz<|U4 7) (Fk Nm) Aw)<|bc (sO [8,9] WJ (iL<|xf Wd s<|a2 (xv 0) xi) (gN 9)<|bc (sS 8 n<|xo UP UO (xv 9) xi)<|bc (se (Az (A4<|Cg (K:=K)<|fz Y2 (s ())<|dz (jx K (pv 5)<|pv 8) (jx K (pv 6)<|pv 8)<|fz Wk (s ())<|dz (PK Xn (pv 9) UI) (pv 1)<|jx K (jx K (pv 6)<|pv 8)<|XZ XX UI) (SY<|X4 TX)
   D2)<|Ge (GE<|GC<|Gm 5 6 8 (by decide)<|sz<|Pz<|uz (Xl (U4 9) UB) (U4 1)<|Xh (Xh (U4 6)<|U4 8)<|Kb UB) (Fk Nm) Aw)<|b1<|sI (tN<|tt<|xf Y1 s<|a2 (xx (xv 5)<|xo XH XD xi<|xv 8)<|xx (xv 6)<|xo XH XD xi<|xv 8) (b1<|sR xb) b0)<|bc (sO [8] WJ (ir G.Zf<|a1 xi) (gN 8)<|b1<|sI (tp<|wo (tN<|tt<|xf Y1 s<|a2 (xx (xv 5)<|xv 8)<|xx (xv 6)<|xv 8)<|wO<|tN<|tt<|xf Ws s<|a2 (xx (xv 5)<|xv 8)<|xx (xx (xv 6)<|xv 8)<|xe (XZ XX UI)<|Kb UB) (b1<|sR xb) b0)<|b1<|sR<|xf Yp s<|a2 (xL<|a1<|xl G.len<|xv 4)<|xL<|a1<|xl G.len<|xv 2)) (.a ?_)
 ·rintro ds R X ⟨H,rfl,hR⟩;refine⟨rfl,H,0,rfl,by decide,λc0=>⟨c0,rfl,λm L=>?_⟩⟩;have hM0:=L;obtain⟨a0,a1,a2,a3,a4,em,ha,_⟩:=hM0;have i0:atI (m.map D.int) 0=some (.int a0):=by rw[em];rfl
  have s0:ixN (m.map D.int).length 0=some 0:=by rw[em];rfl
  have L:=Zbq L (v:=1+a0 % 4) (by lia);have es:(m.map D.int).set 0 (.int (1+a0 % 4))=(m.set 0 (1+a0 % 4)).map D.int:=by rw[Jy]
  refine⟨_,i0,(by show(0:Int)<4;decide),_,_,s0,rfl,?_⟩;rw[es];generalize m.set 0 (1+a0 % 4)=m at L;refine⟨H,0,rfl,by decide,⟨by decide,by decide⟩,(by show(0:Int)<13;decide),H,m,_,rfl,L,by lia,by lia,λf hF hlen=>?_⟩;have hz:f.length<=40:=by lia
  refine⟨rfl,rfl,by simp,H,rfl,λsp=>⟨(show(0:Int)<2 by decide),?_⟩⟩
  obtain⟨o,hqs,hat⟩:∃o:ZR,(o=f\/o=f.reverse)/\atI [plD f,.lst (f.map prD).reverse] (sp % 2)=some (plD o):=by
   rcases(by lia:sp % 2=0\/sp % 2=1)with e|e<;>rw[e]
   ·exact⟨f,.inl rfl,rfl⟩
   ·exact⟨f.reverse,.inr rfl,by
     rw[←List.map_reverse];rfl⟩
  have lq:o.length=f.length:=by
   rcases hqs with rfl|rfl
   ·rfl
   ·exact Vk
  have hFq:Field o:=by
   rcases hqs with rfl|rfl
   ·exact hF
   ·exact λq hq=>hF q (List.mem_reverse.mp hq)
  refine⟨_,hat,rfl,λx=>⟨x,f,rfl,rfl,by lia,?_⟩⟩;rw[A9 hF hz];refine λb1 b2 Y=>⟨rfl,λy=>⟨y,f,rfl,rfl,by lia,?_⟩⟩;rw[A9 hF hz];refine λE C B=>⟨rfl,rfl,rfl,λl=>?_⟩;refine Nq (λr=>∃y E C B:Addr,r=[some (.bor<|.scr H),some (.own<|m.map D.int),some (.sh<|plD f),some (.sh<|plD o),some (.sh<|plD f),some (.own<|twoV (ExcR.UC mg "Village") l x y b1 b2 Y E C B f o [] []),none,none,none,none]) ?_ ?_
  ·refine⟨o,f,rfl,rfl,lq,by lia,U8 (λ_=>?_) λg=>?_⟩
   ·refine⟨rfl,λy=>⟨y,o,rfl,rfl,by lia,?_⟩⟩;rw[A9 hFq (by lia)];exact λE C B=>⟨rfl,1,rfl,rfl,rfl,y,E,C,B,rfl⟩
   ·have e:o=f:=WQ λz=>g (by rw[Qa z];rfl);subst e;exact⟨y,E,C,B,rfl⟩
  clear E C B y;rintro r ⟨y,E,C,B,rfl⟩;refine⟨by simp,by simp,by simp,by simp,by simp,by simp,by simp,by simp,λp a b=>?_⟩;refine⟨H,m,rfl,L,λws hws=>?_⟩;refine⟨rfl,XQ (xs:=ws) (emb:=λq:Int×Int=>dD (Dd.wish q.1 q.2).q) (λi r=>∃h k:Xo,h.length+k.length<=i/\FineH f h/\FineH o k/\r=[some (.bor<|.scr H),some (.own<|m.map D.int),some (.sh<|plD f),some (.sh<|plD o),some (.sh<|plD f),some (.own<|twoV (ExcR.UC mg "Village") l x y b1 b2 Y E C B f o h k),some (.own<|twoP p a b f o h k),none,none,none]) ?_ ?_ ?_⟩
  ·exact⟨[],[],QB _,FineH.nil hF hz,FineH.nil hFq (by lia),rfl⟩
  ·rintro i J r ⟨h,k,hl,A,u,rfl⟩;refine⟨_,rfl,(show(0:Int)<2 by decide),?_⟩;have J:i<ws.length:=J;generalize ws[i]=q;show PJ 8 (S.sh<|D.int (q.1 % 2)) _ _;rcases(by lia:q.1 % 2=0\/q.1 % 2=1)with e|e<;>rw[e]
   ·have la:=B9 f h (.wish q.1 q.2);exact⟨0,_,0,_,rfl,rfl,rfl,rfl,x,b1,b2,Y,a,f,h,_,rfl,rfl,rfl,by lia,A,.inr ⟨.wish q.1 q.2,rfl,_,_,rfl,rfl,UQ ⟨Kh f h (.wish q.1 q.2),k,by lia,A.add _,u,rfl⟩⟩⟩
   ·have la:=B9 o k (.wish q.1 q.2);exact⟨1,_,1,_,rfl,rfl,rfl,rfl,y,E,C,B,b,o,k,_,rfl,rfl,rfl,by lia,u,.inr ⟨.wish q.1 q.2,rfl,_,_,rfl,rfl,UQ ⟨h,Kh o k (.wish q.1 q.2),by lia,A,u.add _,rfl⟩⟩⟩
  rintro r ⟨h,k,hl,A,u,rfl⟩;refine⟨H,20,rfl,by decide,by decide,λcs hc=>?_⟩;refine⟨rfl,XQ (xs:=cs) (emb:=D.int) (λi r=>∃h k:Xo,h.length+k.length<=24+i/\FineH f h/\FineH o k/\r=[some (.bor<|.scr H),some (.own<|m.map D.int),some (.sh<|plD f),some (.sh<|plD o),some (.sh<|plD f),some (.own<|twoV (ExcR.UC mg "Village") l x y b1 b2 Y E C B f o h k),some (.own<|twoP p a b f o h k),none,none,none]) ?_ ?_ ?_⟩
  ·exact⟨h,k,by lia,A,u,rfl⟩
  ·clear A u hl h k;rintro i J r ⟨h,k,hl,A,u,rfl⟩;have J:i<cs.length:=J;generalize cs[i]=c;refine⟨(show(0:Int)<2 by decide),?_⟩;show PJ 8 (S.sh<|D.int (c % 2)) _ _;have T:=A.len;have Q:=u.len;rcases(by lia:c % 2=0\/c % 2=1)with e|e<;>rw[e]
   ·obtain⟨⟨N,q2⟩,M⟩:=A.cur;obtain⟨dl,U⟩:=TQ f h;refine⟨0,_,0,_,rfl,rfl,rfl,rfl,⟨by decide,by decide⟩,_,rfl,_,U,_,m,Xd f h,Xi h,[dl],rfl,L,by lia,N,by have:=M.1;lia,λd=>?_,?_⟩
    ·have la:=B9 f h d;exact⟨x,b1,b2,Y,a,f,h,_,rfl,rfl,rfl,by lia,A,.inr ⟨d,rfl,_,_,rfl,rfl,UQ ⟨_,rfl,_,rfl,o,k,rfl,by lia,Q.1,Q.2,UQ ⟨Kh f h d,k,by lia,A.add d,u,rfl⟩⟩⟩⟩
    ·have la:h.dropLast.length<=h.length:=by rw[List.length_dropLast];lia
     exact⟨x,b1,b2,Y,a,f,h,_,rfl,rfl,rfl,by lia,A,.inl ⟨rfl,_,_,rfl,rfl,UQ ⟨_,rfl,_,rfl,o,k,rfl,by lia,Q.1,Q.2,UQ ⟨h.dropLast,k,by lia,A.back,u,rfl⟩⟩⟩⟩
   ·obtain⟨⟨N,q2⟩,M⟩:=u.cur;obtain⟨dl,U⟩:=TQ o k;refine⟨1,_,1,_,rfl,rfl,rfl,rfl,⟨by decide,by decide⟩,_,rfl,_,U,_,m,Xd o k,Xi k,[dl],rfl,L,by lia,N,by have:=M.1;lia,λd=>?_,?_⟩
    ·have la:=B9 o k d;exact⟨y,E,C,B,b,o,k,_,rfl,rfl,rfl,by lia,u,.inr ⟨d,rfl,_,_,rfl,rfl,UQ ⟨_,rfl,_,rfl,f,h,rfl,by lia,T.1,T.2,UQ ⟨h,Kh o k d,by lia,A,u.add d,rfl⟩⟩⟩⟩
    ·have la:k.dropLast.length<=k.length:=by rw[List.length_dropLast];lia
     exact⟨y,E,C,B,b,o,k,_,rfl,rfl,rfl,by lia,u,.inl ⟨rfl,_,_,rfl,rfl,UQ ⟨_,rfl,_,rfl,f,h,rfl,by lia,T.1,T.2,UQ ⟨h,k.dropLast,by lia,A,u.back,rfl⟩⟩⟩⟩
  clear A u hl h k;rintro r ⟨h,k,hl,A,u,rfl⟩;have T:=A.len;have Q:=u.len;refine⟨⟨by decide,by decide⟩,Pf (λi r=>r=[some (.bor<|.scr H),some (.own<|m.map D.int),some (.sh<|plD f),some (.sh<|plD o),some (.sh<|plD f),some (.own<|twoV (ExcR.UC mg "Village") l x y b1 b2 Y E C B f o h k),some (.own<|twoP p a b f o h k),none,none,none]) rfl ?_ ?_⟩
  ·rintro i r J rfl;have J:i<2:=J;show PJ 8 (S.sh<|D.int (0+(i:Int))) _ _;rcases(by lia:i=0\/i=1)with rfl|rfl
   ·obtain⟨⟨N,q2⟩,M⟩:=A.cur;obtain⟨dl,U⟩:=TQ f h;obtain⟨fs,ef,_⟩:=N2 f h;obtain⟨us,ew,_⟩:=N3 h;have ev:K7 (ExcR.UC mg "Village") (bkH h) (fsH f h) (wsH h)=K7 (ExcR.UC mg "Village") (bkH h) (fs++[Xd f h]) (us++[Xi h]):=by rw[←ef,←ew]
    exact⟨_,rfl,_,rfl,f,h,rfl,by lia,T.1,T.2,UQ ⟨_,rfl,_,rfl,_,U,bkH h,fs,us,Xd f h,Xi h,dl,Qk (λz=>[z,_]) ev,N,by lia,M,UQ rfl⟩⟩
   ·obtain⟨⟨N,q2⟩,M⟩:=u.cur;obtain⟨dl,U⟩:=TQ o k;obtain⟨fs,ef,_⟩:=N2 o k;obtain⟨us,ew,_⟩:=N3 k;have ev:K7 (ExcR.UC mg "Village") (bkH k) (fsH o k) (wsH k)=K7 (ExcR.UC mg "Village") (bkH k) (fs++[Xd o k]) (us++[Xi k]):=by rw[←ef,←ew]
    exact⟨_,rfl,_,rfl,o,k,rfl,by lia,Q.1,Q.2,UQ ⟨_,rfl,_,rfl,_,U,bkH k,fs,us,Xd o k,Xi k,dl,Qk (λz=>[z,_]) ev,N,by lia,M,UQ rfl⟩⟩
  rintro r rfl;exact⟨by simp,by simp,[(((f.map prD).length:Nat):Int)],rfl,by simp,hR⟩
end
end T
namespace T
open L2 Own M
def Zez{l:PySem.W.OpenLaw}{w:World}{K:ZQ}{h:Heap}{g:ZU}{fa:Addr}(X:K.In h)(f:h.Ns mainGlobals g)(hfa:g "law"=some (.ref fa)){n:Addr}(J1:PySem.W.nsIn K mainGlobals "Village"=some (some<|.ref n))(JG:PySem.W.plainGet K n Str.empty=true)(JH:PySem.W.hasDictIn K n=true)(JI:PySem.W.plainOver K n=true)(JJ:PySem.W.findIn K (.ref n) "__setattr__"=some (some<|.builtin "object.__setattr__"))(JK:PySem.W.makesIn K n=true)(JL:PySem.W.keepIn K (.ref n)=true)(JM:PySem.W.findIn K (.ref n) "book"=some none)(JN:PySem.W.findIn K (.ref n) "fields"=some none)(JO:PySem.W.findIn K (.ref n) "wished"=some none)(a0:Pu.DI K "check_holder" Dt)(a1:Pu.DI K "check_width" BW)(a2:Pu.DI K "check_strips" Fd)(a3:Pu.DI K "holders_of" Ft)(a4:Pu.DI K "pair_cost" Ce)(a5:Pu.DI K "check_neighbours" An)(a6:Pu.DI K "longer_paths" Fn)(a7:Pu.DI K "ring_from" AS)(a8:Pu.DI K "find_ring" Fc)(a9:Pu.DI K "check_no_ring" Ds)(a10:Pu.DI K "check_place" Ag)(a11:Pu.DI K "sold" FK)(a12:Pu.DI K "parted" Dx)(a13:Pu.DI K "united" FE)(a14:Pu.DI K "with_wish" Co)(a15:Pu.DI K "without_wish" Ar)(a16:Pu.DI K "pair_costs" Ca)(a17:Pu.DI K "sets_of" Ai)(a18:Pu.DI K "without" FW)(a19:Pu.DI K "may_lie_last" A8)(a20:Pu.DI K "may_lie_first" Dh)(a21:Pu.DI K "cost_with_last" A5)(a22:Pu.DI K "cost_with_first" Da)(a23:Pu.DI K "least_costs" FP)(a24:Pu.DI K "cost_table" Aa)(a25:Pu.DI K "best_order" FH)(a26:Pu.DI K "least_cost" Fw)(a27:Pu.MI K n "__init__" "Village.__init__" Fg)(a28:Pu.MI K n "strips" "Village.strips" Ah)(a29:Pu.MI K n "wishes" "Village.wishes" FS)(a30:Pu.MI K n "deeds" "Village.deeds" AF)(a31:Pu.MI K n "check_room" "Village.check_room" Do)(a32:Pu.MI K n "enter" "Village.enter" AV)(a33:Pu.MI K n "sell" "Village.sell" Fm)(a34:Pu.MI K n "part" "Village.part" AU)(a35:Pu.MI K n "unite" "Village.unite" CN)(a36:Pu.MI K n "wish" "Village.wish" As)(a37:Pu.MI K n "drop" "Village.drop" CM)(a38:Pu.MI K n "take_back" "Village.take_back" Dv)(a39:Pu.MI K n "ring" "Village.ring" AX)(a40:Pu.MI K n "order" "Village.order" Dk)(a41:Pu.MI K n "cost" "Village.cost" Cr)(a42:Pu.DI K "_law_at" D1)(a43:Pu.DI K "_law_whole" FL)(a44:Pu.DI K "_law_mix" CD)(a45:Pu.DI K "_law_draw" D5)(a46:Pu.DI K "_law_spare" Av)(a47:Pu.DI K "_law_menu" F5)(a48:Pu.DI K "_law_holder" Fi)(a49:Pu.DI K "_law_row" BX)(a50:Pu.DI K "_law_tuples" FF)(a51:Pu.DI K "_law_deed_is" Cz)(a52:Pu.DI K "_law_book_is" Ab)(a53:Pu.DI K "_law_present" A6)(a54:Pu.DI K "_law_price" AW)(a55:Pu.DI K "_law_kept" D4)(a56:Pu.DI K "_law_orders" Dg)(a57:Pu.DI K "_law_best" FZ)(a58:Pu.DI K "_law_ring" Al)(a59:Pu.DI K "_law_field_step" Cp)(a60:Pu.DI K "_law_wish_step" CV)(a61:Pu.DI K "_law_step" F7)(a62:Pu.DI K "_law_call" AO)(a63:Pu.DI K "_law_stands" Cb)(a64:Pu.DI K "_law_go" Aj)(a65:Pu.DI K "_law_start" F3)(a66:Pu.DI K "_law_days" Au)(a67:Pu.DI K "_law_odd" Cq)(a68:Pu.DI K "_law_place" FY)(a69:Pu.DI K "_law_pair" F6)(a70:Pu.DI K "_law_opening" Dj)(a71:Pu.DI K "_law_width" AR)(a72:Pu.DI K "_law_deed" Cw)(a73:Pu.DI K "_law_best_is" Af){Q:Addr}{od74 N:Yd}{Y:Array (Yc)}{oc74 J L H x M:Value}(a74:PySem.W.nsIn K mainGlobals "law"=some (some<|.ref Q))(l74:K.lookup Q=some ⟨oc74,od74,.func (PySem.W.fnOf "law" "law" (K4 Pg) (Xb Pg) (U6 Pg) .none J L H N x M),Y⟩)(c74:PySem.W.codeIn K x "law"=true)(k74:PySem.W.keepIn K (.ref Q)=true)(JP:PySem.W.nsIn K mainGlobals "any"=some none)(JQ:PySem.W.nsIn K mainGlobals "bool"=some none)(JR:PySem.W.nsIn K mainGlobals "int"=some none)(JS:PySem.W.nsIn K mainGlobals "isinstance"=some none)(JT:PySem.W.nsIn K mainGlobals "len"=some none)(JU:PySem.W.nsIn K mainGlobals "list"=some none)(JV:PySem.W.nsIn K mainGlobals "max"=some none)(JW:PySem.W.nsIn K mainGlobals "min"=some none)(JX:PySem.W.nsIn K mainGlobals "range"=some none)(JY:PySem.W.nsIn K mainGlobals "set"=some none)(JZ:PySem.W.nsIn K mainGlobals "sorted"=some none)(Ua:PySem.W.nsIn K mainGlobals "str"=some none)(Ub:PySem.W.nsIn K mainGlobals "sum"=some none)(Uc:PySem.W.nsIn K mainGlobals "tuple"=some none){Uj:Tok}(Ud:PySem.W.nsIn K mainGlobals "HOLDERS"=some (some<|.int 10 Uj)){Uk:Tok}(Ue:PySem.W.nsIn K mainGlobals "STRIPS"=some (some<|.int 40 Uk)){Ul:Tok}(Ug:PySem.W.nsIn K mainGlobals "WIDEST"=some (some<|.int 1000 Ul)){Um:Tok}(Uh:PySem.W.nsIn K mainGlobals "MOST_WISHES"=some (some<|.int 20 Um)){Uo:Tok}(Ui:PySem.W.nsIn K mainGlobals "MOST_DEEDS"=some (some<|.int 100 Uo)){Up:Addr}(J2:Pu.EI K "TooManyStrips" Up){Uq:Addr}(J3:Pu.EI K "BadHolder" Uq){Ur:Addr}(J4:Pu.EI K "BadWidth" Ur){Us:Addr}(J5:Pu.EI K "NoStrip" Us){Ut:Addr}(J6:Pu.EI K "OwnStrip" Ut){Uu:Addr}(J7:Pu.EI K "BadPart" Uu){Uv:Addr}(J8:Pu.EI K "UnlikeHolders" Uv){Uw:Addr}(J9:Pu.EI K "TooWide" Uw){Ux:Addr}(JA:Pu.EI K "LikeHolders" Ux){Uy:Addr}(JB:Pu.EI K "WishStands" Uy){U0:Addr}(JC:Pu.EI K "TooManyWishes" U0){U1:Addr}(JD:Pu.EI K "NoWish" U1){U2:Addr}(JE:Pu.EI K "BookFull" U2){U3:Addr}(JF:Pu.EI K "NothingDone" U3)
  : ∃fd:FuncData,(∀(s:Shared) (v:Value),BindsTo s fd ⟨[v],[]⟩ [("_law_script",v)])/\∀base:Heap,K.In base->base.Ns mainGlobals g->XO l.prog w K g base CX0 9 fa fd ["_law_script"] (Pu.BV K):=by
 have e:=hfa.symm.trans (Qy X f a74);cases e
 have o:=ExcR.GJ (Qy X f J1);have G:Glob K g:=⟨Qj X f JP,Qj X f JQ,Qj X f JR,Qj X f JS,Qj X f JT,Qj X f JU,Qj X f JV,Qj X f JW,Qj X f JX,Qj X f JY,Qj X f JZ,Qj X f Ua,Qj X f Ub,Qj X f Uc,⟨_,Qy X f Ud,⟨_,rfl⟩⟩,⟨_,Qy X f Ue,⟨_,rfl⟩⟩,⟨_,Qy X f Ug,⟨_,rfl⟩⟩,⟨_,Qy X f Uh,⟨_,rfl⟩⟩,⟨_,Qy X f Ui,⟨_,rfl⟩⟩,(J2.m X f),(J2.k X f),(J3.m X f),(J3.k X f),(J4.m X f),(J4.k X f),(J5.m X f),(J5.k X f),(J6.m X f),(J6.k X f),(J7.m X f),(J7.k X f),(J8.m X f),(J8.k X f),(J9.m X f),(J9.k X f),(JA.m X f),(JA.k X f),(JB.m X f),(JB.k X f),(JC.m X f),(JC.k X f),(JD.m X f),(JD.k X f),(JE.m X f),(JE.k X f),(JF.m X f),(JF.k X f),(by rw[o];exact Qy X f J1),(by rw[o];exact⟨JG,JH,JI,JJ⟩),(by rw[o];exact JM),(by rw[o];exact JN),(by rw[o];exact JO)⟩;have T:=SD (st:=Pg) l74 c74 k74;have b74:=T.binds (ps:=["_law_script"]) λ_ _ _ _ _ _ us hl=>by obtain⟨_,rfl⟩:=Pu.Sn hl;rfl
 have D74:Def K g "law" Pg ["_law_script"]:=⟨_,_,T,Qy X f a74,b74⟩;refine⟨PySem.W.fnOf "law" "law" (K4 Pg) (Xb Pg) (U6 Pg) .none J L H N x M,λs v=>.of_eq rfl,λbase _ _=>?_⟩;have C0:=@RL l.prog w K g base ⟨⟩ G (a0.e X f);have C1:=@Zib l.prog w K g base ⟨⟩ G (a1.e X f);have C3:=@Zb6 l.prog w K g base G (a3.e X f);have C4:=@Zej l.prog w K g base ⟨⟩ (a4.e X f);have C5:=@Zkx l.prog w K g base ⟨⟩ G (a5.e X f);have C6:=@Zl8 l.prog w K g base ⟨⟩ (a6.e X f);have C10:=@Zks l.prog w K g base ⟨⟩ G (a10.e X f);have C15:=@Zgp l.prog w K g base ⟨⟩ G (a15.e X f);have C17:=@Zft l.prog w K g base ⟨⟩ (a17.e X f);have U:=@Za4 l.prog w K g base ⟨⟩ G (a18.e X f);have C19:=@Zi0 l.prog w K g base ⟨⟩ G (a19.e X f);have C20:=@Zka l.prog w K g base ⟨⟩ G (a20.e X f);have r:=@RT l.prog w K g base ⟨⟩ G (a28.e o);have p:=@Zes l.prog w K g base ⟨⟩ G (a29.e o);have C30:=@Zgv l.prog w K g base ⟨⟩ G (a30.e o);have B:=@Zmf l.prog w K g base ⟨⟩ G (a31.e o);have A:=@Za5 l.prog w K g base ⟨⟩ G (a32.e o);have C38:=@Zht l.prog w K g base ⟨⟩ G (a38.e o);have u:=@Zg1 l.prog w K g base ⟨⟩ G (a42.e X f);have E:=@Zk6 l.prog w K g base ⟨⟩ G (a43.e X f);have y:=@OQ l.prog w K g base ⟨⟩ (a44.e X f);have C47:=@OL l.prog w K g base ⟨⟩ (a47.e X f);have C:=@Zjl l.prog w K g base ⟨⟩ (a48.e X f);have C53:=@RC l.prog w K g base ⟨⟩ G (a53.e X f);have C54:=@Zg7 l.prog w K g base ⟨⟩ G (a54.e X f);have C55:=@Za8 l.prog w K g base ⟨⟩ (a55.e X f);have C56:=@Zit l.prog w K g base ⟨⟩ (a56.e X f);have C58:=@Zij l.prog w K g base ⟨⟩ G (a58.e X f);have C59:=@Ot l.prog w K g base ⟨⟩ G (a59.e X f);have C60:=@Zmj l.prog w K g base ⟨⟩ G (a60.e X f);have C67:=@Zdm l.prog w K g base ⟨⟩ (a67.e X f);have C68:=@Zml l.prog w K g base ⟨⟩ G (a68.e X f);have C71:=@Zl2 l.prog w K g base ⟨⟩ G (a71.e X f);have C2:=Zfj ⟨⟩ G C0 C1 (a2.e X f);have C7:=Rz ⟨⟩ G C6 (a7.e X f);have C11:=O3 ⟨⟩ G C0 C10 (a11.e X f);have C12:=Zll ⟨⟩ G C10 (a12.e X f);have C13:=O4 ⟨⟩ G C5 (a13.e X f);have C14:=Rm ⟨⟩ G C0 (a14.e X f);have C16:=Zbs ⟨⟩ (NF C3) C4 (a16.e X f);have C21:=Zle ⟨⟩ G U (a21.e X f);have C22:=Zc8 ⟨⟩ G U (a22.e X f);have C37:=Ze0 ⟨⟩ G C15 r p B A (a37.e o);have C45:=Zlb ⟨⟩ u y (a45.e X f);have C46:=Zag ⟨⟩ u y (a46.e X f);have C49:=Ow ⟨⟩ G E (a49.e X f);have C50:=Zgz ⟨⟩ G E (a50.e X f);have C51:=Zm2 ⟨⟩ G E (a51.e X f);have C57:=Zhr ⟨⟩ C53 C54 C55 C56 (a57.e X f);have C61:=RA ⟨⟩ C59 C60 (a61.e X f);have C65:=Zj1 ⟨⟩ G u y C (a65.e X f);have C66:=Ou ⟨⟩ G u y (a66.e X f);have C69:=Oy ⟨⟩ G C C67 (a69.e X f);have C8:=Zd3 ⟨⟩ G C7 (a8.e X f);have C23:=Zci ⟨⟩ G (NF C3) C17 C19 C21 (a23.e X f);have C27:=Zlf ⟨⟩ G C2 (a27.j o JK JL);have C33:=Zef ⟨⟩ G r p B A C11 (a33.e o);have C34:=Zh3 ⟨⟩ G r p B A C12 (a34.e o);have C35:=Zl4 ⟨⟩ G r p B A C13 (a35.e o);have C36:=Zah ⟨⟩ G r p B A C14 (a36.e o);have C52:=Zem ⟨⟩ G C51 (a52.e X f);have C70:=Rk ⟨⟩ G u y C C69 (a70.e X f);have C72:=Zjz ⟨⟩ G C C67 C68 C71 C69 (a72.e X f);have C9:=Rq ⟨⟩ (NF C3) C8 (a9.e X f);have C39:=Zhs ⟨⟩ G (NF C3) r p C8 (a39.e o);have C62:=Zcy ⟨⟩ G C37 C33 C34 C35 C36 (a62.e X f);have C63:=Zgj ⟨⟩ G r p C30 C50 C52 (a63.e X f);have C24:=Zl9 ⟨⟩ G C16 C23 C9 (a24.e X f);have C25:=MW ⟨⟩ G (NF C3) U C20 C16 C22 C23 C9 (a25.e X f);have C64:=MY ⟨⟩ G C38 E C61 C62 (a64.e X f);have C26:=Zmv ⟨⟩ C24 (a26.e X f);have C40:=Oj ⟨⟩ G r p C25 (a40.e o);have C41:=Zbd ⟨⟩ G r p C26 (a41.e o);have C73:=Zkz ⟨⟩ G C53 C58 C49 C57 C39 C40 C41 (a73.e X f);have C74:=Zgr ⟨⟩ G u C47 C45 C46 C49 C65 C66 C27 C70 C72 C63 C64 C73 D74;exact(C74.at (Qy X f a74) T D74).imp λ_ _ _ _ z=>Pu.Zmh z
end T
namespace PySem.W.Fast
def I:True:=⟨⟩
def tw11288657952917145825:=I
def tw10246426412243153920:=I
def tw2028840645879696448:=I
def tw10965270952153526336:=I
def tw14884637178816157760:=I
def tw3186514729715836000:=I
def tw5552184310725987488:=I
def tw15515462485686249728:=I
def tw16763075037569070368:=I
def tw8375396126091531552:=I
def tw4851791949400304928:=I
def tw17189761478780037440:=I
def tw2256838407720526144:=I
def tw5931323937037994336:=I
def tw14013531080110823840:=I
def tw6016977785148311008:=I
def tw4204685847297844704:=I
def tw3557610371655374368:=I
def tw6899641506949328416:=I
def tw11724273164206870080:=I
def tw11140804479785588288:=I
def tw15971734059887833696:=I
def tw830523160022150816:=I
def tw11724904252503456448:=I
def tw17209494618853092064:=I
def tw7287102716595528416:=I
def tw15597489442637643488:=I
def tw8744644407342555904:=I
def tw14741256824953499392:=I
def tw14150520010545106720:=I
def tw6698093948179630912:=I
def tw11557834367680809824:=I
def tw18295260827197044608:=I
def tw16856996305834757024:=I
def tw9363770018960398240:=I
def tw11242250434048509888:=I
def tw16358735872600591393:=I
def tw16298724349339051073:=I
def tw7894743873408994465:=I
def tw7327449960544810177:=I
def tw13754151882426128641:=I
def tw3132558732533834017:=I
def tw13765340539087203713:=I
def tw13234829203340215713:=I
def tw17010814188752184769:=I
def tw6679046808280036801:=I
def tw4599947820236305889:=I
def tw16661868860834585121:=I
def tw216490639294446145:=I
def tw1958063732256633409:=I
def tw12034435359976542817:=I
def tw3308465168764999297:=I
def tw12838544225534827137:=I
def tw3521160085177453249:=I
def tw14153561312595264257:=I
def tw11519273282628456225:=I
def tw803175616234951489:=I
def tw17700987009389415265:=I
def tw9710611149488510817:=I
def tw505114262308959105:=I
def tw18392853126223687553:=I
def tw8582828004283462561:=I
def tw7555694409193576353:=I
def tw3929851377116475329:=I
def tw18139247810468960225:=I
def tw5852755055083135010:=I
def tw18370196942794390562:=I
def tw11729675311745665090:=I
def tw14311350416384713826:=I
def tw11616851670986880130:=I
def tw17093163680401139938:=I
def tw3643366777059053826:=I
def tw18255733340457485602:=I
def tw12843973751498644802:=I
def tw1576666811140520258:=I
def tw8097261767514956162:=I
def tw13574643552757870978:=I
def tw14349080155043941954:=I
def tw17039821905564003906:=I
def tw2845972685450212930:=I
def tw12067453719671505602:=I
def tw6786028130805549890:=I
def tw5224182954716412770:=I
def tw9128254956605250466:=I
def tw3515876884861802402:=I
def tw7920619651891666914:=I
def tw15157861541225188419:=I
def tw6206842976306422883:=I
def tw1525601789504046211:=I
def tw6397005049219702947:=I
def tw4384886508266406083:=I
def tw9636675120553207043:=I
def tw13778976135720687875:=I
def tw11680564956174546243:=I
def tw9840971510468264291:=I
def tw4877708750087013731:=I
def tw3530599990099998051:=I
def tw11854694421676469635:=I
def tw9212025150379860387:=I
def tw10287314002506577315:=I
def tw17279790862276408771:=I
def tw8909604771243845059:=I
def tw18233202183375200739:=I
def tw2098800724248802787:=I
def tw10080885100826734115:=I
def tw8082667096227768867:=I
def tw4644863854666804771:=I
def tw2672323507354344131:=I
def tw86420479598004963:=I
def tw7479483784292712163:=I
def tw9377984121741414179:=I
def tw3347669810908244867:=I
def tw16332156030281347971:=I
def tw9309408691659925443:=I
def tw3428121870883625955:=I
def tw623232272748573667:=I
def tw11964211369814944836:=I
def tw2304378164859581540:=I
def tw14590910287809995876:=I
def tw4476378502237873284:=I
def tw12130969985950410884:=I
def tw16139330386558986404:=I
def tw9370725369022430372:=I
def tw7600567842253612260:=I
def tw2287434578238224676:=I
def tw11080371735500475716:=I
def tw1457109289386856772:=I
def tw8717470522715659588:=I
def tw1180998065446706500:=I
def tw10894285116696395076:=I
def tw7415937452327398788:=I
def tw15740999403045941636:=I
def tw5995801925986171332:=I
def tw4493263727182395844:=I
def tw6877909574522129860:=I
def tw8693313817531051492:=I
def tw8683928058338164228:=I
def tw8846863675331864100:=I
def tw9410231145567082052:=I
def tw17947579695751727716:=I
def tw13803542687946120804:=I
def tw7075227781778655876:=I
def tw5508549085928396452:=I
def tw14426553339458988708:=I
def tw17585305284403673764:=I
def tw10676422302066563748:=I
def tw15205205518666348260:=I
def tw2533183329519816420:=I
def tw17930295277577976580:=I
def tw17988887228731227908:=I
def tw2013846395657422628:=I
def tw5910252971068676900:=I
def tw1663921206526577476:=I
def tw10860358086805688260:=I
def tw1321109527208144836:=I
def tw253541152562527204:=I
def tw5053613834536867877:=I
def tw16062266810454652997:=I
def tw16870265979367329925:=I
def tw11562429259644871813:=I
def tw6658963732412297381:=I
def tw1120757150010480869:=I
def tw4021244210605669637:=I
def tw4068647965571026213:=I
def tw5362799141387703589:=I
def tw260602794594314533:=I
def tw16589440440357159237:=I
def tw8903727586550549829:=I
def tw16000586415098271045:=I
def tw8270802049546112325:=I
def tw11722182588564602181:=I
def tw13327485269638522213:=I
def tw7117326465855697253:=I
def tw4414954423152574885:=I
def tw17488531512062872997:=I
def tw9929342334394411525:=I
def tw5621347367226438149:=I
def tw551045765692038693:=I
def tw6022536743950983781:=I
def tw9231732099915429509:=I
def tw13670426220003069637:=I
def tw11725822881217298117:=I
def tw4603228463369740997:=I
def tw18414087645354079045:=I
def tw17071291702676411205:=I
def tw13599538799175342949:=I
def tw4373031001918435173:=I
def tw16897961324655183781:=I
def tw10024862881012581317:=I
def tw1981431750602998757:=I
def tw15025094910545255430:=I
def tw9207150551903647782:=I
def tw5775572080322244678:=I
def tw14831722004579925094:=I
def tw3603633803346270310:=I
def tw8103649671303803014:=I
def tw3785285771688401030:=I
def tw2801819574177247398:=I
def tw7457868222573804710:=I
def tw4530041876990006470:=I
def tw15453333207329237190:=I
def tw271299961940953350:=I
def tw7543152115335412006:=I
def tw6771817893718657350:=I
def tw13475679157076017510:=I
def tw2754698427539250566:=I
def tw13261328956011220390:=I
def tw804589742162951590:=I
def tw11220196410506190278:=I
def tw1512121858947425734:=I
def tw5278215999745413670:=I
def tw12672679756853548646:=I
def tw16029171299045548646:=I
def tw14192416506480853638:=I
def tw14169816220828083846:=I
def tw16339440436924830342:=I
def tw17722881385342784166:=I
def tw8077791237887878822:=I
def tw15625077828339461798:=I
def tw3427823773384807142:=I
def tw692513969877254918:=I
def tw7243279540416188166:=I
def tw5764727744702601062:=I
def tw11132995250365279174:=I
def tw13376430232730931239:=I
def tw12961694358708562023:=I
def tw17302793437541827783:=I
def tw6936214040064663751:=I
def tw9863892265402408167:=I
def tw11308847070681189639:=I
def tw8793282693540173063:=I
def tw218355732339581223:=I
def tw3384663611189644615:=I
def tw12418327136151624007:=I
def tw11586483449444787559:=I
def tw17040723929570233735:=I
def tw813533337423084935:=I
def tw6031594494247580135:=I
def tw2823739705403570663:=I
def tw9694015910379136551:=I
def tw13583106688457623079:=I
def tw11655926461931727431:=I
def tw9276245106630160967:=I
def tw14245942417399858791:=I
def tw17219688874141158087:=I
def tw11354746313435608775:=I
def tw6955944143925972743:=I
def tw6095241717194766087:=I
def tw9196939408654786311:=I
def tw18431004634013734727:=I
def tw720953065108195175:=I
def tw15016486139513703303:=I
def tw9749510511019614087:=I
def tw1325383175931562919:=I
def tw15134405229714192359:=I
def tw3044430466893097000:=I
def tw6319862598957773896:=I
def tw10858537879181150280:=I
def tw6299786133159039080:=I
def tw3245065360986039464:=I
def tw6171867360616731880:=I
def tw11059568846157994280:=I
def tw12583602693709147464:=I
def tw4533568569506651464:=I
def tw1807489835588648264:=I
def tw10040947672697640296:=I
def tw14523610190845401480:=I
def tw7587593255257089448:=I
def tw8005744770374921640:=I
def tw10766105376955271624:=I
def tw15700367902510743016:=I
def tw14709283852932661896:=I
def tw17262406064923456200:=I
def tw11807904936938440456:=I
def tw17837655295103507208:=I
def tw16251591139917037320:=I
def tw7526907943671729960:=I
def tw11466083486803736360:=I
def tw7816727598608449320:=I
def tw11782688383923577672:=I
def tw603203961182818216:=I
def tw13418616578984325032:=I
def tw15229781525718812584:=I
def tw5161624270952752040:=I
def tw15880100809004677096:=I
def tw10706870303164092425:=I
def tw12499354191821789193:=I
def tw6226018669703938089:=I
def tw1635753562685185129:=I
def tw12202158829415055561:=I
def tw9175722491048099081:=I
def tw9400197993041545609:=I
def tw17180946093825054089:=I
def tw13945528140821021097:=I
def tw10529408177203457481:=I
def tw6768228210511372809:=I
def tw985125366141098601:=I
def tw15085709438218714729:=I
def tw8230800641724792425:=I
def tw5676970336152315529:=I
def tw9951887694645587625:=I
def tw13992567213827393225:=I
def tw15352440596848015049:=I
def tw6561063454792439593:=I
def tw17680501258653589289:=I
def tw5706950938000644937:=I
def tw4794493426004633449:=I
def tw5181325924447025001:=I
def tw2377951321736797065:=I
def tw4636018000811666377:=I
def tw16012097018644970441:=I
def tw17128468521793853417:=I
def tw14301256703904815081:=I
def tw13117197833684236298:=I
def tw9040148117301345290:=I
def tw6685294445120687210:=I
def tw14143686539046764650:=I
def tw15836342064315628650:=I
def tw2114868597587480714:=I
def tw11567405646468521098:=I
def tw13030771314365997322:=I
def tw11901772921138295050:=I
def tw12757162282666347818:=I
def tw14215906927646250346:=I
def tw18158644100692398442:=I
def tw11207671820865147274:=I
def tw1066130095200969098:=I
def tw12161706862106228138:=I
def tw13867988165413501386:=I
def tw10895978211133249002:=I
def tw12333206176901999178:=I
def tw2329960996932125290:=I
def tw10368274586737500778:=I
def tw17949410791260332682:=I
def tw9854174251654076042:=I
def tw14617824782175853226:=I
def tw16494492649459409578:=I
def tw9528276283148498634:=I
def tw2448972011107829514:=I
def tw17405936344399038250:=I
def tw1477341560204485418:=I
def tw13219048481907702570:=I
def tw5488004165018647338:=I
def tw7007932671337381738:=I
def tw12008045048473140106:=I
def tw11281764359262379946:=I
def tw789385690585341898:=I
def tw655009871308688427:=I
def tw11606924686252218411:=I
def tw17510972217568045099:=I
def tw12940610077801621579:=I
def tw10988684789457799243:=I
def tw6241679954591674443:=I
def tw13170415102610963563:=I
def tw15598996423244234923:=I
def tw15806813226867492043:=I
def tw9331144569636433163:=I
def tw6626851533447114027:=I
def tw10517717503488381227:=I
def tw11898416805222740331:=I
def tw12100797731687440779:=I
def tw9963088215607294379:=I
def tw4880725664586913451:=I
def tw9352064326903764683:=I
def tw4617801229523960523:=I
def tw7891769750433976139:=I
def tw10422013249668469579:=I
def tw18231591493447870283:=I
def tw13454918703478375275:=I
def tw4554721166350875499:=I
def tw13503263871902673803:=I
def tw133149584842113995:=I
def tw15011226671900058636:=I
def tw16206381486639723564:=I
def tw8945513536582825036:=I
def tw1571666633797156940:=I
def tw407559167844892812:=I
def tw1805372332744922284:=I
def tw7082160562492280108:=I
def tw5292677434151886124:=I
def tw1774449643083764044:=I
def tw2982669095490731372:=I
def tw309705416431371724:=I
def tw16531182242319695308:=I
def tw9020307021420332556:=I
def tw4014525934385941036:=I
def tw12675543874223296044:=I
def tw6336296522113323596:=I
def tw2552451298540191308:=I
def tw16109989010062657132:=I
def tw17078000442320343724:=I
def tw9105987259981219532:=I
def tw585522061161919180:=I
def tw9315692483060279020:=I
def tw13061963732949594956:=I
def tw781106506349950860:=I
def tw16419260305066594252:=I
def tw1829318026273386444:=I
def tw4669285162430759981:=I
def tw7786856378076577837:=I
def tw15463911688156669037:=I
def tw7624829584178067597:=I
def tw7756633213803351181:=I
def tw4356287316743477421:=I
def tw8382708770310721741:=I
def tw14218603857230286093:=I
def tw14831479188877126957:=I
def tw16447796718765324589:=I
def tw10965061749002692909:=I
def tw8103229441744055725:=I
def tw10518809013819436461:=I
def tw11233027830211732973:=I
def tw5021185397406368365:=I
def tw3711596720235451021:=I
def tw2190280531864740525:=I
def tw1921785324236954349:=I
def tw16351087018128572173:=I
def tw8819856268434181965:=I
def tw16860456163723131885:=I
def tw989071883097568366:=I
def tw6150854580981950638:=I
def tw754237811381441742:=I
def tw4211843986410445006:=I
def tw17096380039978427854:=I
def tw14266285520741095886:=I
def tw1775390952902961646:=I
def tw18194923184653680142:=I
def tw6198490432604963374:=I
def tw5442391842482295342:=I
def tw18285973320924473006:=I
def tw17375601954256332462:=I
def tw14924491714606503662:=I
def tw17854890704739475182:=I
def tw17356928765542369038:=I
def tw339190812750731022:=I
def tw16360115407887233806:=I
def tw16595123028790618926:=I
def tw13510186518176434094:=I
def tw9961104902561502158:=I
def tw17483024523384265678:=I
def tw3374355841101160398:=I
def tw2848514862086661135:=I
def tw687160920330290255:=I
def tw4973295889885632623:=I
def tw2110290272973564047:=I
def tw4901638710542331023:=I
def tw8938938147905831087:=I
def tw15805621720256775343:=I
def tw7757807762194060495:=I
def tw955485605917134095:=I
def tw6951247151959677231:=I
def tw13729385734406482223:=I
def tw14312409797282844975:=I
def tw470537455148641679:=I
def tw8691399289597554063:=I
def tw8179476983603078607:=I
def tw10784729882622975439:=I
def tw10190930123397265871:=I
def tw14313991173070012975:=I
def tw8924482835225642575:=I
def tw880320445504334447:=I
def tw2760658863169460847:=I
def tw10036653186531598991:=I
def tw18066704763108990639:=I
def tw8295182271282194095:=I
def tw6090439149699975855:=I
def tw18137752181112295087:=I
def tw17250769189957651151:=I
def tw17450816077097789167:=I
def tw14840170381566999279:=I
def tw15897236313273727727:=I
def tw17857817865195317103:=I
def tw10967094506351660975:=I
def tw12382433989499621295:=I
def tw18335331825168406511:=I
def tw17423353850986009648:=I
def tw18372709222138246192:=I
def tw2453560367806714960:=I
def tw7641124586146177104:=I
def tw12185664319669062800:=I
def tw15345863385738992784:=I
def tw9761818077819197648:=I
def tw4259766909396465936:=I
def tw4679436572969883984:=I
def tw12318789596942255472:=I
def tw11555986619673675152:=I
def tw586372147550530960:=I
def tw3029510204795761040:=I
def tw15735654652272685456:=I
def tw16896021338588041616:=I
def tw1901872499189531056:=I
def tw10662485053259376080:=I
def tw9514720506629233136:=I
def tw16183731514051740144:=I
def tw15113001388207658480:=I
def tw4123935215622912528:=I
def tw4638109344638864944:=I
def tw18040768581467466320:=I
def tw7206555607155793552:=I
def tw8416148932074199792:=I
def tw8112910234992834288:=I
def tw7540635565669266288:=I
def tw2370057098073429872:=I
def tw7085253480235337616:=I
def tw7678233248895827856:=I
def tw15085443801541574576:=I
def tw14928557853607085040:=I
def tw2794534354356579345:=I
def tw16837332979328588849:=I
def tw2887056381260283985:=I
def tw14475738035081837649:=I
def tw5137630597515284625:=I
def tw15316047323933726865:=I
def tw14936248284303519921:=I
def tw11401148099477836017:=I
def tw8958910880259576049:=I
def tw12285766124419873041:=I
def tw3996156411826385329:=I
def tw9242916157739755953:=I
def tw8886583841309661649:=I
def tw16452331045419573777:=I
def tw7681468547304501809:=I
def tw3095064308411691569:=I
def tw13178323861103919697:=I
def tw776259715980390993:=I
def tw1498795509183511185:=I
def tw16332866972005186225:=I
def tw1582814351125506737:=I
def tw10955806363709881137:=I
def tw10076935589371427633:=I
def tw13946833295085379441:=I
def tw8859429342768459697:=I
def tw11234716960368436177:=I
def tw16270591389081002961:=I
def tw8578482705616960465:=I
def tw16702943983055642609:=I
def tw7518615118225111025:=I
def tw10206491482736864306:=I
def tw14829909081144441906:=I
def tw4304833558594417714:=I
def tw7925004804811739218:=I
def tw6233072491376654450:=I
def tw12531923960183581874:=I
def tw7684815518865059026:=I
def tw7123434278084155666:=I
def tw8959358413625615634:=I
def tw10607548370434548050:=I
def tw12200053023915579858:=I
def tw14164096713725031954:=I
def tw13202852050374806034:=I
def tw15608712000669304370:=I
def tw11601322932412873298:=I
def tw9291618601670947442:=I
def tw6245259676052750994:=I
def tw14279595386764664530:=I
def tw5243392148152978162:=I
def tw9220685203815325426:=I
def tw9531472053521707826:=I
def tw11594709170424997714:=I
def tw14367946767035364178:=I
def tw6022350982433363826:=I
def tw17397452351655831442:=I
def tw3608663432333563826:=I
def tw13357232124591510514:=I
def tw8285414571162188786:=I
def tw12443041922212161522:=I
def tw4274768149083050035:=I
def tw8495899776528489555:=I
def tw344015347623169171:=I
def tw2489199583840994515:=I
def tw1252386337224338675:=I
def tw12534436826447363315:=I
def tw14205401744083852563:=I
def tw1763206007458439443:=I
def tw9304345961994135891:=I
def tw4573008659267727699:=I
def tw13994769021641923955:=I
def tw1915821513061557683:=I
def tw17949138898940459475:=I
def tw17093448769292340755:=I
def tw1023155411930226195:=I
def tw11865108567542412851:=I
def tw6831381720877649555:=I
def tw7219712909960726259:=I
def tw8022573655559296819:=I
def tw14877139801581110099:=I
def tw8868611811842969620:=I
def tw6518066110680562708:=I
def tw13343931408459496468:=I
def tw3901093338481438772:=I
def tw684421789102902356:=I
def tw807891555969110100:=I
def tw15394424124668321876:=I
def tw12245929297253769332:=I
def tw16072353295601659028:=I
def tw489258241489706164:=I
def tw16952402661103321332:=I
def tw13603936998227030356:=I
def tw10536507220358673748:=I
def tw1507517122112772436:=I
def tw15515573684645061972:=I
def tw5572564807718534484:=I
def tw11258079238441651572:=I
def tw6124144850764440980:=I
def tw12771736654021593524:=I
def tw7262638827713250740:=I
def tw14674623412934029780:=I
def tw588857821063801396:=I
def tw11934496722506221236:=I
def tw2434562103295391444:=I
def tw1090098349774503636:=I
def tw11214146702753826548:=I
def tw12326356468108202740:=I
def tw1306092085872303860:=I
def tw12111093751064412916:=I
def tw8448979066667112276:=I
def tw12857324790055161684:=I
def tw3024828387604483956:=I
def tw5743736006500088692:=I
def tw18263794003089842132:=I
def tw8366369219867290612:=I
def tw5656257590607697908:=I
def tw1065016481344243829:=I
def tw16549662839882144885:=I
def tw7443412345911615701:=I
def tw5588786036540698901:=I
def tw14702822405366392117:=I
def tw1250711534180245909:=I
def tw6913921543255632309:=I
def tw6402868243121188277:=I
def tw11125261096471060917:=I
def tw139577559455294901:=I
def tw4971108373326101973:=I
def tw16477279890125946389:=I
def tw13980070470859263573:=I
def tw5975313498598864565:=I
def tw17668675557770139445:=I
def tw9995890119440519989:=I
def tw8809760256256433013:=I
def tw6689200161903173493:=I
def tw9111058512604824501:=I
def tw8160047289895324597:=I
def tw6148127428892870645:=I
def tw9245577580162806838:=I
def tw11242625307679229046:=I
def tw4206911422306046134:=I
def tw3148931384267598006:=I
def tw10242559132584393014:=I
def tw8256883372954606902:=I
def tw12683278332798789942:=I
def tw16276369202152158550:=I
def tw13738245657040666966:=I
def tw10638842175220183382:=I
def tw14957219268335314326:=I
def tw5869396604795130326:=I
def tw1378096492377912790:=I
def tw10992151790695869942:=I
def tw17576103090150605366:=I
def tw3483510756422100534:=I
def tw14122728678036718134:=I
def tw12371913299946976886:=I
def tw13246450939639999158:=I
def tw5272960702885606070:=I
def tw14128979127195303606:=I
def tw18333741525292673750:=I
def tw13782198205806484342:=I
def tw12330906294626158486:=I
def tw15146102270103732118:=I
def tw4740313123223990166:=I
def tw11670388687595556790:=I
def tw11585256698869764022:=I
def tw11359962272821617622:=I
def tw12710674985013454806:=I
def tw17880938352973437910:=I
def tw6752028552546084822:=I
def tw18085716780189681687:=I
def tw10240190263984527447:=I
def tw6779952337819395191:=I
def tw5152260525440472247:=I
def tw1067612272378851511:=I
def tw13273730431462231223:=I
def tw8928671625698820311:=I
def tw6780256038865662167:=I
def tw17592089949989522679:=I
def tw6448176057236411639:=I
def tw8748889608033761527:=I
def tw14035977962041997591:=I
def tw6942007454396643735:=I
def tw14846957465115446807:=I
def tw11812889821023394327:=I
def tw9891896647637233175:=I
def tw8146071229476677207:=I
def tw4157745728150465111:=I
def tw4773862586179074711:=I
def tw10321844316694247063:=I
def tw1102690263754540727:=I
def tw8407165412822659799:=I
def tw14824513952242741975:=I
def tw17676773564785384151:=I
def tw348936746376172279:=I
def tw13246593302846419895:=I
def tw14804053363728696247:=I
def tw3560453461287500791:=I
def tw16302720744200248344:=I
def tw3422070677956190232:=I
def tw10693700578368608376:=I
def tw3521896232508160152:=I
def tw7128099855679878328:=I
def tw15126897774544228568:=I
def tw10223016924846882008:=I
def tw13027665492881283320:=I
def tw18364375392508109048:=I
def tw18166362251510758680:=I
def tw3948975877378854200:=I
def tw4374234946186145144:=I
def tw8431526052650995096:=I
def tw3368701161978981784:=I
def tw18266935517384471000:=I
def tw2015559649498665464:=I
def tw9559984638304542264:=I
def tw2074331894209391192:=I
def tw2872844541270191832:=I
def tw2309164265011984152:=I
def tw14223531482569495384:=I
def tw13578735726877219704:=I
def tw7591474233018408824:=I
def tw2278716662961288088:=I
def tw986459510464042904:=I
def tw1818956743371954104:=I
def tw809450382689423320:=I
def tw9980585296809005048:=I
def tw17427509092526339129:=I
def tw10669265342294352953:=I
def tw17341873688344627289:=I
def tw18166389006670488665:=I
def tw3923830324737732697:=I
def tw11099590580769477785:=I
def tw3115945587052536985:=I
def tw12046879509072637081:=I
def tw14058834797671881913:=I
def tw9359417544823602361:=I
def tw14200075289194994905:=I
def tw16664278166923216121:=I
def tw15260917224698965241:=I
def tw4243974926127458617:=I
def tw14578359151583977817:=I
def tw5579706845189234041:=I
def tw16116059285142271353:=I
def tw5041669972345675193:=I
def tw8328473201497282009:=I
def tw3445537584315883993:=I
def tw8164464302529459705:=I
def tw2574618127201061369:=I
def tw7594595115477794297:=I
def tw15123790837035728377:=I
def tw17627676020355228185:=I
def tw15796171567889617465:=I
def tw11890654151788303929:=I
def tw12507842084935714393:=I
def tw6542782302408012377:=I
def tw4059345261260912249:=I
def tw4187565330333091449:=I
def tw8358558622888440537:=I
def tw3571385191051449049:=I
def tw15802965184322496217:=I
def tw14689210473679808217:=I
def tw6832025627179771641:=I
def tw13278548857229622041:=I
def tw10024713780571524889:=I
def tw548585739098648345:=I
def tw15273007186221565785:=I
def tw5390243851528282969:=I
def tw8088747275726346073:=I
def tw7875661429813009241:=I
def tw12992426082565282681:=I
def tw2162333306885820313:=I
def tw16513567801957816249:=I
def tw16918589701533683641:=I
def tw14845217040104855513:=I
def tw3905254227096220633:=I
def tw5740366097642749913:=I
def tw1241765653193712633:=I
def tw10900589498769373177:=I
def tw9481230030131825690:=I
def tw4924986541578693690:=I
def tw3963554908361115802:=I
def tw2318627746221764794:=I
def tw5067094029584169146:=I
def tw4953504141804728538:=I
def tw9993208743199921434:=I
def tw5221945965162230042:=I
def tw1008794394671117626:=I
def tw8990978241212559706:=I
def tw6634982866850736474:=I
def tw4990563313326132602:=I
def tw12909789612131100090:=I
def tw8524832455725286874:=I
def tw15709186803523250650:=I
def tw14884359068691986906:=I
def tw6461886419334823418:=I
def tw2781216076026201626:=I
def tw4887335491785808442:=I
def tw2921709071712586362:=I
def tw7047185332669472410:=I
def tw11646237619143801498:=I
def tw4342703107939594938:=I
def tw16942528420041235194:=I
def tw14675544528442535770:=I
def tw4311125777456773050:=I
def tw17401567637076887514:=I
def tw6265470537109576731:=I
def tw12715952573983280155:=I
def tw13420328485710280795:=I
def tw18425511675475632251:=I
def tw1166848133018191003:=I
def tw10467430158125570267:=I
def tw3190798594085891291:=I
def tw17839523435872253179:=I
def tw16003803027549748475:=I
def tw4183654576338301243:=I
def tw13038956009662446939:=I
def tw9791219071966782843:=I
def tw15430499316754840123:=I
def tw14234642207966019195:=I
def tw16478843472935252603:=I
def tw2484519291339805339:=I
def tw23868402837534363:=I
def tw16038278687170049723:=I
def tw18402233341947044539:=I
def tw16681970573202939611:=I
def tw9054652772142321403:=I
def tw12331799673705160443:=I
def tw4803661251429067515:=I
def tw3141431031171752731:=I
def tw4338929301820220187:=I
def tw2193227755116266299:=I
def tw16694998298505508699:=I
def tw11843870756094714747:=I
def tw16978186755695591323:=I
def tw15061081483250963387:=I
def tw7348398445245460443:=I
def tw79475194117576699:=I
def tw2275286408215005340:=I
def tw13722242215249331388:=I
def tw396457563703310556:=I
def tw3077743152231010556:=I
def tw14081489215203301628:=I
def tw16451239518391305628:=I
def tw15971656449579784636:=I
def tw16020640202754091484:=I
def tw13696054905118011996:=I
def tw18264996836313123484:=I
def tw10887574937207013020:=I
def tw1606023069667699420:=I
def tw6167213662669791100:=I
def tw6278218947251090332:=I
def tw7522971213837789084:=I
def tw12933605410512487356:=I
def tw13674904544312965084:=I
def tw6821767568311302108:=I
def tw2226471301348686812:=I
def tw2154306254569090044:=I
def tw3715764892171257852:=I
def tw11841802525828469821:=I
def tw2972071523651755133:=I
def tw13818130603558533245:=I
def tw4712021986737392797:=I
def tw2194105002977323229:=I
def tw6159862142734887165:=I
def tw7640267313633738013:=I
def tw16042368268430927133:=I
def tw72216710554154269:=I
def tw17259027099870268733:=I
def tw7632845400315002237:=I
def tw255875104613301629:=I
def tw8597597626947837341:=I
def tw8656167999532656029:=I
def tw3929185108450915837:=I
def tw1380705553460337213:=I
def tw13559693817954835037:=I
def tw17867743274854737501:=I
def tw4519685067530594909:=I
def tw9931736813468690077:=I
def tw14849452453478018749:=I
def tw15233426227201939165:=I
def tw13210181419369441053:=I
def tw6060632585374465885:=I
def tw4317877113458558909:=I
def tw4746118259750506461:=I
def tw4440485294516613085:=I
def tw17494017496223201245:=I
def tw15782607950812925917:=I
def tw1506370531064604862:=I
def tw4827616680348331230:=I
def tw16481907580493508830:=I
def tw7036347591164096734:=I
def tw4665782894235884798:=I
def tw1978007264569356542:=I
def tw7757518357439542558:=I
def tw5694776978505028926:=I
def tw15090405829661472126:=I
def tw11293932961226246526:=I
def tw10185252192904305022:=I
def tw10164826272153690494:=I
def tw10359931810919124382:=I
def tw5498872187496519070:=I
def tw10440486000116664766:=I
def tw8276367069821657534:=I
def tw17426329661700282910:=I
def tw13374884737346028062:=I
def tw11318612578706247198:=I
def tw11662689013723502174:=I
def tw10159581350810090110:=I
def tw7448475946825671326:=I
def tw2471109741171244766:=I
def tw10338562115552483166:=I
def tw10289158757658131326:=I
def tw1162228022334590878:=I
def tw2965258621184891806:=I
def tw4681973032768741310:=I
def tw17047446933311014846:=I
def tw12476455814579166174:=I
def tw10572774357420301278:=I
def tw17103274126182672350:=I
def tw13798304288208073726:=I
def tw1669997638648184863:=I
def tw3622460193868337183:=I
def tw4649344469578143839:=I
def tw18265587194223555711:=I
def tw18260419836743759007:=I
def tw18324383624974514335:=I
def tw15573761775055171743:=I
def tw12070527222111408319:=I
def tw10413672166461751487:=I
def tw3067386100439857375:=I
def tw15308122280971844831:=I
def tw4689499170564700447:=I
def tw5553704258237662591:=I
def tw17043087169763109279:=I
def tw7872994341559935455:=I
def tw4075941344636493279:=I
def tw6039510645364981215:=I
def tw16687760315249596927:=I
def tw16905403851899805183:=I
def tw17029593731710031391:=I
def tw6176245886145984031:=I
def tw7668720981890260575:=I
def tw9151001152071853695:=I
def tw205677077413391007:=I
def tw9694682320068819647:=I
def tw3946158964474104511:=I
def tw9476275355311385343:=I
def tw4846663473350131455:=I
def tw12098211405759711071:=I
def tw18160787867733941087:=I
def tw2748215659018475391:=I
def tw16300340019145970591:=I
def tw13065154698154211263:=I
def tw11654018940112686047:=I
def tw17378625142039511007:=I
end PySem.W.Fast
open PySem PySem.W PyProof.Rows
set_option maxRecDepth 100000 in
set_option maxHeartbeats 0 in
theorem PySem.Challenge.cw_stripmeld_k48_whole_two_villages_holds : PySem.Challenge.rw_stripmeld_k48_whole_two_villages.Holds := by
 w_on;o_law;k_head;(case hw=>w_witness2)
 k_fill
 refine L2.Zet (l:=PySem.Challenge.rw_stripmeld_k48_whole_two_villages) (n:=63) (k:=9) (x:="_law_script") (CX:=L2.CX0) (sp:=Pu.BV) rfl (by decide) rfl ⟨rfl,by decide,by decide,rfl⟩ (fun w h Y=>PySem.W.kIn_of Y) ?F ?S ?C
 case F=>
  intro w mg fa h KX G hmg
  refine' T.Zez KX G hmg ?J1 ?JG ?JH ?JI ?JJ ?JK ?JL ?JM ?JN ?JO ?a0 ?a1 ?a2 ?a3 ?a4 ?a5 ?a6 ?a7 ?a8 ?a9 ?a10 ?a11 ?a12 ?a13 ?a14 ?a15 ?a16 ?a17 ?a18 ?a19 ?a20 ?a21 ?a22 ?a23 ?a24 ?a25 ?a26 ?a27 ?a28 ?a29 ?a30 ?a31 ?a32 ?a33 ?a34 ?a35 ?a36 ?a37 ?a38 ?a39 ?a40 ?a41 ?a42 ?a43 ?a44 ?a45 ?a46 ?a47 ?a48 ?a49 ?a50 ?a51 ?a52 ?a53 ?a54 ?a55 ?a56 ?a57 ?a58 ?a59 ?a60 ?a61 ?a62 ?a63 ?a64 ?a65 ?a66 ?a67 ?a68 ?a69 ?a70 ?a71 ?a72 ?a73 ?a74 ?l74 ?c74 ?k74 ?JP ?JQ ?JR ?JS ?JT ?JU ?JV ?JW ?JX ?JY ?JZ ?Ua ?Ub ?Uc ?Ud ?Ue ?Ug ?Uh ?Ui ?J2 ?J3 ?J4 ?J5 ?J6 ?J7 ?J8 ?J9 ?JA ?JB ?JC ?JD ?JE ?JF
  (case J1|JG|JH|JI|JJ|JK|JL|JM|JN|JO=>k_is)
  (case a0|a1|a2|a3|a4|a5|a6|a7|a8|a9|a10|a11|a12|a13|a14|a15|a16|a17|a18|a19|a20|a21|a22|a23|a24|a25|a26=>apply Pu.di<;>k_is)
  (case a27|a28|a29|a30|a31|a32|a33|a34|a35|a36|a37|a38|a39|a40|a41=>apply Pu.mi<;>k_is)
  (case a42|a43|a44|a45|a46|a47|a48|a49|a50|a51|a52|a53|a54|a55|a56|a57|a58|a59|a60|a61|a62|a63|a64|a65|a66|a67|a68|a69|a70|a71|a72|a73=>apply Pu.di<;>k_is)
  (case a74|l74|c74|k74|JP|JQ|JR|JS|JT|JU|JV|JW|JX|JY|JZ|Ua|Ub|Uc|Ud|Ue|Ug|Uh|Ui=>k_is)
  (case J2|J3|J4|J5|J6|J7|J8|J9|JA|JB|JC|JD|JE|JF=>apply Pu.ei<;>first|(k_is;done)|k_exc)
 case S=>exact fun K H a ns hl hO hS=>⟨a,ns,rfl,hS,fun _=>rfl⟩
 case C=>exact fun _ _ _ _ z=>z
