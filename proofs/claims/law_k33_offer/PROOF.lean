import PyProof.Rows.All
import Wide.All
import OpenK.AllK
import Wide.FinOn
import Lean
import PyProof.EqAt
import PyProof.EqKinds
import PyProof.TupleCall
import PySem.Challenge.RW_stripmeld_k33_offer
set_option Elab.async false
set_option linter.all false
set_option compiler.extract_closed false
set_option genSizeOf false
set_option maxRecDepth 100000
def bu_0(h:True:=by rfl):True:=h
def au_0:Lean.Syntax:=bu_0._auto_1
def bu_1(h:True:=by decide):True:=h
def au_1:Lean.Syntax:=bu_1._auto_1
def bu_2(h:True:=by first | exact .inl rfl | exact .inr rfl | assumption):True:=h
def au_2:Lean.Syntax:=bu_2._auto_1
def bu_3(h:True:=by intro _; rfl):True:=h
def au_3:Lean.Syntax:=bu_3._auto_1
def bu_4(h:True:=by first | exact Or.inl rfl | exact Or.inr (Or.inl rfl) | exact Or.inr (Or.inr rfl)):True:=h
def au_4:Lean.Syntax:=bu_4._auto_1
def bu_5(h:True:=by decide +kernel):True:=h
def au_5:Lean.Syntax:=bu_5._auto_1
def bu_6(h:True:=by first | exact Or.inl rfl | exact Or.inr rfl):True:=h
def au_6:Lean.Syntax:=bu_6._auto_1
def bu_7(h:True:=by intro _ _; rfl):True:=h
def au_7:Lean.Syntax:=bu_7._auto_1
def bu_8(h:True:=by size_fits):True:=h
def au_8:Lean.Syntax:=bu_8._auto_1
def bu_9(h:True:=by kernel_rfl):True:=h
def au_9:Lean.Syntax:=bu_9._auto_1
def bu_10(h:True:=by intro _; first | exact Or.inl rfl | exact Or.inr (Or.inl rfl) | exact Or.inr (Or.inr rfl)):True:=h
def au_10:Lean.Syntax:=bu_10._auto_1
def bu_11(h:True:=by intro _; exact ⟨rfl, rfl, rfl⟩):True:=h
def au_11:Lean.Syntax:=bu_11._auto_1
def bu_12(h:True:=by with_unfolding_all rfl):True:=h
def au_12:Lean.Syntax:=bu_12._auto_1
def bu_13(h:True:=by intro _; first | exact Or.inl rfl | exact Or.inr rfl):True:=h
def au_13:Lean.Syntax:=bu_13._auto_1
def bu_14(h:True:=by intro _; first | exact .inl rfl | exact .inr rfl | assumption):True:=h
def au_14:Lean.Syntax:=bu_14._auto_1
def bu_15(h:True:=by intro _; kernel_rfl):True:=h
def au_15:Lean.Syntax:=bu_15._auto_1
noncomputable section
def WE:=@PySem.wpAny_bind
def WG:=@List.length_map
def WH:=@List.getElem?_eq_getElem
def WI:=@decide_eq_true
def WJ:=@List.mem_singleton
def WK:=@of_decide_eq_true
def WL:=@PySem.wpAny_pure
def WM:=@PySem.Heap.get?_push_of_some
def WN:=@if_neg
def WO:=@if_pos
def WQ:=@Nat.le_refl
def WR:=@List.length_append
def WS:=@List.getElem?_map
def WT:=@PySem.Heap.lt_size
def WU:=@Nat.le_trans
def WV:=@List.mem_append
def WW:=@Option.some.inj
def WX:=@PySem.Heap.get?_push_size
def WY:=@List.take_succ_eq_append_getElem
def WZ:=@List.getElem?_eq_some_iff
def Qa:=@List.mem_cons
def Qb:=@List.getD_eq_getElem?_getD
def Qc:=@List.map_append
def Qd:=@PySem.PassesOwn.never
def Qe:=@List.mem_cons_of_mem
def Qf:=@List.getElem_mem
def Qg:=@List.mem_of_getElem?
def Qh:=@Bool.false_ne_true
def Qi:=@List.length_cons
def Qj:=@Classical.byContradiction
def Qk:=@Nat.ne_of_lt
def Ql:=@List.mem_append_right
def Qm:=@List.length_take
def Qn:=@List.map_cons
def Qo:=@List.pairwise_iff_getElem
def Qp:=@List.mem_map
def Qq:=@Nat.lt_of_lt_of_le
def Qr:=@List.size_toArray
def Qs:=@List.getElem?_append_left
def Qt:=@List.mem_iff_getElem
def Qu:=@List.mem_cons_self
def Qv:=@decide_eq_false
def Qw:=@Nat.add_le_add
def Qx:=@PySem.F.plainAttrs_list
def Qy:=@List.take_length
def Qz:=@PySem.wpAny_mono
def Q0:=@PySem.W.mg_none_of
def Q1:=@List.getElem?_append_right
def Q2:=@congrArg
def Q3:=@List.nodup_cons
def Q4:=@Bool.and_eq_true
def Q5:=@PySem.Heap.get?_update_self
def Q6:=@List.mem_filter
def Q7:=@List.nodup_append
def Q8:=@PySem.wpAny_loadPart_at
def Q9:=@List.mem_append_left
def QA:=@List.map_map
def QB:=@List.append_nil
def QC:=@PySem.wpAny_newObj_type
def QD:=@Int.toNat_natCast
def QE:=@PySem.Heap.get?_update_other
def QF:=@PySem.W.mg_of
def QG:=@PyProof.Rows.boot_isinstance
def QH:=@Array.length_toList
def QI:=@List.getElem?_cons_succ
def QJ:=@PySem.W.kia_one
def QK:=@List.length_set
def QL:=@PySem.Obj.data_mapFields
def QM:=@PySem.Heap.SameBut.update
def QN:=@List.length_eq_zero_iff
def QO:=@PySem.W.looks_findIn
def QP:=@Nat.lt_irrefl
def QR:=@PySem.wpAny_holding
def QS:=@List.take_zero
def QT:=@List.getElem_take
def QU:=@List.filterMap_cons
def QV:=@Array.getElem?_eq_getElem
def QW:=@Array.getElem?_toList
def QX:=@List.eq_nil_or_concat
def QY:=@Nat.zero_le
def QZ:=@List.dropLast_concat_getLast
def Va:=@List.lookup_cons
def Vb:=@List.all_eq_true
def Vc:=@PySem.wpAny_setField
def Vd:=@PySem.Obj.isFreed_of_fields
def Ve:=@List.length_filter_le
def Vf:=@Nat.le_of_eq
def Vg:=@List.getElem?_take_of_lt
def Vh:=@PySem.F.slot_dict_valueiterator_next
def Vi:=@List.dropLast_concat
def Vj:=@PySem.wpAny_typeNameOfWhole_valiter
def Vk:=@beq_eq_false_iff_ne
def Vl:=@PySem.mem_of_lookup
def Vm:=@PySem.Heap.size_push
def Vn:=@List.cons_append
def Vo:=@PySem.wpAny_call_entry
def Vp:=@PySem.codeAny_mono
def Vq:=@PySem.wpAny_passesOwn
def Vr:=@PySem.codeAny_builtin
def Vs:=@List.getElem?_eq_none
def Vt:=@List.length_singleton
def Vu:=@List.concat_eq_append
def Vv:=@PySem.F.excBase_ValueError
def Vw:=@PySem.wpAny_truthy_bool
def Vx:=@List.take_sublist
def Vy:=@PySem.wpAny_setState_of
def Vz:=@PySem.Heap.get?_none_of_le
def V0:=@List.pairwise_append
def V1:=@PySem.codeAny_call_builtin
def V2:=@List.mem_of_mem_take
def V3:=@List.nodup_nil
def V4:=@Nat.lt_succ_self
def V5:=@PySem.wpAny_typeNameOf_valiter
def V6:=@PySem.F.slot_list_append
def V7:=@PySem.F.type_list_append
def V8:=@PySem.wpAny_isSubtype_exc
def V9:=@List.length_pos_iff
def VA:=@List.getElem?_replicate
def VB:=@PySem.F.slot_list_index
def VC:=@List.find?_cons
def VD:=@List.contains_cons
def VE:=@List.map_singleton
def VF:=@Nat.le_succ
def VG:=@List.filterMap_eq_map'
def VH:=@Bool.eq_false_iff
def VI:=@Classical.not_not
def VJ:=@PySem.W.methodCall_KW
def VL:=@Nat.lt_trans
def VM:=@List.filterMap_append
def VN:=@PySem.F.slot_list_pop
def VO:=@PySem.F.type_list_pop
def VP:=@PyProof.Rows.callWith_type1
def VQ:=@PySem.W.any_some
def VR:=@PySem.Around.under_plainId
def VS:=@PySem.wpAny_standAt
def VT:=@List.any_cons
def VU:=@Array.getElem?_eq_some_iff
def VW:=@List.map_congr_left
def VX:=@List.drop_eq_getElem_cons
def VY:=@List.exists_mem_of_ne_nil
def VZ:=@Nat.le_of_lt
def Ja:=@PySem.wpAny_Call_Name_kw
def Jb:=@PySem.W.callWith_K
def Jc:=@PySem.F.args_tuple_add_2
def Jd:=@PyProof.Rows.F.entry_set_update_loop
def Je:=@PyProof.Rows.F.plain_set_update_loop
def Jf:=@PySem.Code.quiet_builtin
def Jg:=@Bool.false_eq_true
def Jh:=@List.idxOf_lt_length_iff
def Ji:=@Nat.add_sub_cancel
def Jj:=@Int.add_zero
def Jk:=@PySem.F.entry_tuple_add
def Jl:=@PySem.wpAny_callSpecial?_slot
def Jm:=@List.filter_cons_of_pos
def Jn:=@PySem.F.type_list_index
def Jo:=@PySem.fits_of_scanBound
def Jp:=@Nat.lt_succ_of_lt
def Jq:=@PySem.Obj.cls_mapFields
def Jr:=@decide_eq_true_eq
def Js:=@PySem.F.slot_tuple_add
def Jt:=@Array.getElem?_eq_none
def Ju:=@List.all_cons
def Jv:=@if_false
def Jw:=@List.not_mem_nil
def Jx:=@PySem.F.typeOf_object_class
def Jy:=@PySem.wpAny_isOneOf_valiter
def Jz:=@List.getElem?_reverse
def J0:=@List.getElem?_set_ne
def J1:=@PySem.wpAny_execs_nil
def J2:=@Bool.eq_iff_iff
def J4:=@PySem.wpAny_call
def J6:=@PySem.Calls.evalArgs_plain
def J7:=@Option.map_some
def J8:=@Nat.not_lt
def J9:=@List.mem_of_mem_drop
def JA:=@List.cons.injEq
def JB:=@Nat.mul_le_mul_right
def JC:=@Int.ne_of_lt
def JD:=@PySem.W.plainGet_of
def JE:=@PySem.W.looks_clsIn
def JF:=@List.length_reverse
def JG:=@List.mem_map_of_mem
def JH:=@PySem.sizeLine_eq
def JI:=@PySem.wpAny_field
def JJ:=@List.mem_filterMap
def JK:=@PySem.W.Looks.here
def JL:=@Nat.lt_of_le_of_lt
def JM:=@List.getElem_idxOf
def JN:=@PySem.W.isNs_of_in
def JO:=@List.filter_append
def JP:=@Int.emod_lt_of_pos
def JQ:=@List.pairwise_map
def JR:=@List.ext_getElem?
def JS:=@Nat.ne_of_gt
abbrev Yk:=List (Int×Int)
abbrev Yl:=List Int
abbrev Ym:=List (PySem.Addr×PySem.Obj)
abbrev Yn:=PySem.Str->Option PySem.Value
abbrev Yo:=PySem.Value->PySem.Shared->Prop
abbrev Yp:=List (Option Nat)
abbrev Yq:=List Nat
abbrev Yr:=List PySem.Value
abbrev Ys:=List PySem.Str
abbrev Yt:=List PySem.Expr
abbrev Yu:=List PySem.Stmt
abbrev Yv:=Option PySem.Value
abbrev Yw:=Option PySem.Addr
abbrev Yx:=List (PySem.Str×PySem.Addr)
abbrev Yy:=Array (Int×PySem.Value)
abbrev Yj:=PySem.W.Frag
namespace L2
open PySem PySem.Spec PyProof.Rows
abbrev Key:=Sum Int Str
noncomputable def NW:Key->Value->Bool
 | .inl k,v=>Value.isInt k v
 | .inr x,v=>Value.isStrOf x v
noncomputable def Zaz(w:World):Key->Int
 | .inl k=>hashInt k
 | .inr x=>hashStr w x
def T6:∀{k}{v:Value},NW k v=true->(∃i t,k=Sum.inl i/\v=Value.int i t)\/(∃x t,k=Sum.inr x/\v=Value.str x t)
 | .inl i,v,h=>by
  obtain⟨t,e⟩:=Value.isInt_shape h
  grind
 | .inr x,v,h=>by
  obtain⟨t,e⟩:=Value.isStrOf_shape h
  grind
def Zds(i:Int)(t:Tok):NW (.inl i) (.int i t)=true:=by simp[NW,Value.isInt]
def Zfv(x:Str)(t:Tok):NW (.inr x) (.str x t)=true:=by simp[NW,Value.isStrOf]
def Zfd(a b:Int):decide ((Sum.inl a:Key)=Sum.inl b)=(a==b):=by grind
def Zgs(a b:Str):decide ((Sum.inr a:Key)=Sum.inr b)=decide (a=b):=by simp
def Zg1(a:Int)(b:Str):decide ((Sum.inl a:Key)=Sum.inr b)=false:=Qv (λq=>nomatch q)
def Zfn(a:Str)(b:Int):decide ((Sum.inr a:Key)=Sum.inl b)=false:=Qv (λq=>nomatch q)
noncomputable def Px(prog:Program)(w:World):PySem.KeyKind prog w Key where
 is:=NW
 hash:=Zaz w
 inj:=λv a b ha hb=>by
  rcases T6 ha with⟨i,t,rfl,rfl⟩|⟨x,t,rfl,rfl⟩
  ·rcases T6 hb with⟨j,u,rfl,e⟩|⟨y,u,rfl,e⟩
   ·injection e with e1 _;rw[e1]
   ·exact nomatch e
  ·rcases T6 hb with⟨j,u,rfl,e⟩|⟨y,u,rfl,e⟩
   ·exact nomatch e
   ·injection e with e1 _;rw[e1]
 byValue:=λk v h=>by
  rcases T6 h with⟨i,t,rfl,rfl⟩|⟨x,t,rfl,rfl⟩<;>rfl
 pyHash:=λhv h=>by
  rcases T6 hv with⟨i,t,rfl,rfl⟩|⟨x,t,rfl,rfl⟩
  ·exact wpAny_pyHash_int h
  ·exact wpAny_pyHash_str h
 eqBool:=λhu hv h=>by
  rcases T6 hu with⟨i,t,rfl,rfl⟩|⟨x,t,rfl,rfl⟩
  ·rcases T6 hv with⟨j,u,rfl,rfl⟩|⟨y,u,rfl,rfl⟩
   ·rw[Zfd]at h;exact wpAny_eqBool_int h
   ·rw[Zg1]at h;exact SeqAt.EqAt.int_str i t y u _ _ _ _ h
  ·rcases T6 hv with⟨j,u,rfl,rfl⟩|⟨y,u,rfl,rfl⟩
   ·rw[Zfn]at h;exact SeqAt.EqAt.str_int x t j u _ _ _ _ h
   ·rw[Zgs]at h;exact wpAny_eqBool_str h
 «strs»:=λk x t v h=>by
  rcases T6 h with⟨i,u,rfl,e⟩|⟨y,u,rfl,e⟩
  ·exact nomatch e
  ·injection e with e1 _;subst e1;cases v<;>rfl
def Zlf(prog:Program)(w:World)(i:Int)(t:Tok):(Px prog w).is (.inl i) (.int i t)=true:=Zds i t
def Zj8(prog:Program)(w:World)(x:Str)(t:Tok):(Px prog w).is (.inr x) (.str x t)=true:=Zfv x t
inductive V where
 |non|bl (b:Bool)|int (i:Int)|str (x:Str)|byt (b:Array UInt8)|flt (b:UInt64)|ref (a:Addr)|ty (n:String)
 deriving DecidableEq
def RelV:V->Value->Prop
 | .non,u=>u=Value.none
 | .bl b,u=>u=Value.bool b
 | .int i,u=>∃t,u=Value.int i t
 | .str x,u=>∃t,u=Value.str x t
 | .byt b,u=>∃t,u=Value.bytes b t
 | .flt b,u=>∃t,u=Value.float b t
 | .ref a,u=>u=Value.ref a
 | .ty n,u=>u=Value.type n
abbrev Vals:List V->Yr->Prop:=Paired RelV
def Vals.length (r:Vals xs us):xs.length=us.length:=Paired.length r
def Vals.get:∀{xs us}{i:Nat}{x:V},Vals xs us->xs[i]?=some x->∃u,us[i]?=some u/\RelV x u:=by
 intro ds
 induction ds with
 |nil=>
  intro _ i _ h e;simp at e
 |cons _ _ ih=>
  intro _ i d h e;cases h with
  |cons h r=>
   cases i with
   |zero=>
    simp at e;subst e;exact⟨_,rfl,h⟩
   |succ i=>
    obtain⟨v,h1,h2⟩:=ih r (by simpa using e);exact⟨v,by simpa using h1,h2⟩
theorem Vals.set (r:RelV x u):∀{xs us} i,Vals xs us->Vals (xs.set i x) (us.set i u)
 |_,_,_,.nil=>.nil
 |_,_,0,.cons _ t=>.cons r t
 |_,_,i+1,.cons q t=>.cons q (Vals.set r i t)
def Vals.append:∀{xs ys}{us ws:Yr},Vals xs us->Vals ys ws->Vals (xs++ys) (us++ws):=by
 intro ds
 induction ds with
 |nil=>
  intro _ _ _ h s;cases h
  exact s
 |cons _ _ ih=>
  intro _ _ _ h s;cases h with
  |cons h r=>
   exact .cons h (ih r s)
theorem Vals.take:∀{xs us} n,Vals xs us->Vals (xs.take n) (us.take n)
 |_,_,0,_|_,_,_+1,.nil=>.nil
 |_,_,n+1,.cons r t=>.cons r (Vals.take n t)
theorem Vals.drop:∀{xs us} n,Vals xs us->Vals (xs.drop n) (us.drop n)
 |_,_,0,r=>r
 |_,_,_+1,.nil=>.nil
 |_,_,n+1,.cons _ t=>Vals.drop n t
def RelO:Option V->Yv->Prop
 |some v,some u=>RelV v u
 |none,none=>True
 |_,_=>False
def KV{κ:Type}:List (κ×V)->List (κ×Value)->Prop:=Paired λ(p:κ×V) (q:κ×Value)=>p.1=q.1/\RelV p.2 q.2
noncomputable def kV:Key->V
 | .inl i=>.int i
 | .inr x=>.str x
inductive HO where
 |lst (xs:List V)
 |tup (xs:List V)
 |dK (kvs:List (Key×V))|dT (kvs:List (List Key×V))
 |set (S:Int->Bool) (n:Nat)
 |ins (C dx:Addr) (fs:List (Str×V))
 |own (x:Addr)
 |xd (fs:List (Str×V))
 |met (f x:Addr)
 |rng (lo hi:Int)
 |frz (o:Obj) (u:HO)
 |tbl (ps:Array Value)
 |ext (φ:Heap->Prop)
abbrev Hp:=Addr->Option HO
noncomputable def upd(H:Hp)(a:Addr)(o:HO):Hp:=λb=>if b=a then some o else H b
def X4:upd H a o a=some o:=by unfold upd;rw[WO rfl]
def Xr{a b o}(h:b≠a):upd H a o b=H b:=by unfold upd;rw[WN h]
def Mg:upd (upd H a o) a u=upd H a u:=by
 funext b;unfold upd;split<;>rfl
def Ep{H:Hp}{a b}{o u}(h:H a=some o)(h':H b=some u)(d:o≠u):a≠b:=by grind
def Kw{H:Hp}{a b}{o}(h:H a=some o)(h':H b=none):a≠b:=by grind
section
variable (P:Program) (w:World)
def ObjOk(H:Hp)(h:Heap)(a:Addr):HO->Prop
 | .lst xs=>xs.length<=sizeLine/\∃(its:Yr) (n:Nat),Vals xs its/\h.get? a=some {cls:=.type "list",data:=.seq its.toArray n}
 | .tup xs=>xs.length<=sizeLine/\∃its:Yr,Vals xs its/\IsTup h a its.toArray
 | .dK kvs=>kvs.length<=sizeLine/\(a==sysModules)=false/\∃vs,KV kvs vs/\h.DictOf (Px P w) a vs
 | .dT kvs=>kvs.length<=sizeLine/\(a==sysModules)=false/\∃xs:List (List Key×Addr×Value),
   Paired (λ(p:List Key×V) (q:List Key×Addr×Value)=>p.1=q.1/\H q.2.1=some (.tup<|p.1.map kV)/\RelV p.2 q.2.2) kvs xs/\
   ∃o es ep,h.get? a=some o/\o.ExactDict/\o.data=.dict es ep/\es.toList=xs.map (entryOfKey<|tupleKind<|Px P w)/\(xs.map (·.1)).Nodup
 | .set S n=>h.SetOf (intKind P w) a S n
 | .ins C dx fs=>H dx=some (.own a)/\fs.length<=1000/\dx≠a/\h.get? a=some (PySem.W.instObj C dx)/\
   ∃mA,h.Ns1 dx mA/\(∀f,RelO (fs.lookup f) (mA f))/\PySem.Within mA (fs.map (·.1))
 | .own _=>∃o,h.get? a=some o
 | .xd fs=>∃mA,h.Ns1 a mA/\∀f,RelO (fs.lookup f) (mA f)
 | .rng lo hi=>∃t u v,h.get? a=some {cls:=.type "range",data:=.fields #[.int lo t,.int hi u,.int 1 v]}
 | .frz o u=>h.get? a=some o/\ObjOk H h a u
 | .tbl ps=>h.get? a=some {cls:=.none,data:=.fields ps}
 | .met f x=>h.get? a=some (PySem.W.methodObj (.ref f)<|.ref x)
 | .ext φ=>φ h/\(∃o,h.get? a=some o)/\∀h1 h2:Heap,φ h1->(∀o,h1.get? a=some o->h2.get? a=some o)->φ h2
def HOk(H:Hp)(h:Heap):Prop:=∀a o,H a=some o->ObjOk P w H h a o
end
section
variable {P:Program}{w:World}{H H':Hp}{h h':Heap}{a:Addr}{o:HO}
def ObjOk.lt (x:ObjOk P w H h a o):a<h.objs.size:=by
 cases o with
 |lst xs=>obtain⟨_,_,_,_,e⟩:=x;exact WT e
 |tup xs=>obtain⟨_,_,_,p⟩:=x;exact p.lt
 |set S n=>obtain⟨o,_,_,_,e,_⟩:=x;exact WT e
 |ins C dx fs=>obtain⟨_,_,_,e,_⟩:=x;exact WT e
 |own y=>obtain⟨_,e⟩:=x;exact WT e
 |xd fs=>obtain⟨_,⟨_,_,_,e,_⟩,_⟩:=x;exact WT e
 |rng lo hi=>obtain⟨_,_,_,e⟩:=x;exact WT e
 |frz ob u=>obtain⟨e,_⟩:=x;exact WT e
 |tbl ps|met f y=>exact WT x
 |ext φ=>obtain⟨_,⟨_,e⟩,_⟩:=x;exact WT e
 |_=>obtain⟨_,_,_,_,o,_,_,e,_⟩:=x;exact WT e
def Paired.mapP:∀{l₁:List α}{l₂:List β},Paired F l₁ l₂->(∀a b,F a b->G a b)->Paired G l₁ l₂:=by
 intro ds
 induction ds with
 |nil=>
  intro _ h _;cases h
  exact .nil
 |cons _ _ ih=>
  intro _ h f;cases h with
  |cons h r=>
   exact .cons (f _ _ h) (ih r f)
def ObjOk.stay (x:ObjOk P w H h a o) (k:∀b u,(b=a\/H b=some (.own a))->h.get? b=some u->h'.get? b=some u)
  (ho:∀b,H b=some (.own a)->H' b=some (.own a)) (ht:∀b xs,H b=some (.tup xs)->H' b=some (.tup xs)):ObjOk P w H' h' a o:=by
 induction o with
 |lst xs=>obtain⟨z,its,n,r,e⟩:=x;exact⟨z,its,n,r,k _ _ (.inl rfl) e⟩
 |tup xs=>obtain⟨z,its,r,ob,e,c⟩:=x;exact⟨z,its,r,ob,k _ _ (.inl rfl) e,c⟩
 |dK kvs=>obtain⟨z,y,vs,r,ob,es,ep,e,c⟩:=x;exact⟨z,y,vs,r,ob,es,ep,k _ _ (.inl rfl) e,c⟩
 |dT kvs=>
  obtain⟨z,y,xs,r,ob,es,ep,e,c⟩:=x;exact⟨z,y,xs,Paired.mapP r λp q z=>⟨z.1,ht _ _ z.2.1,z.2.2⟩,ob,es,ep,k _ _ (.inl rfl) e,c⟩
 |set S n=>obtain⟨ob,es,ep,t,e,c⟩:=x;exact⟨ob,es,ep,t,k _ _ (.inl rfl) e,c⟩
 |ins C dx fs=>
  obtain⟨d,z,ne,e,mA,⟨od,es,ep,e2,c⟩,r⟩:=x;exact⟨ho _ d,z,ne,k _ _ (.inl rfl) e,mA,⟨od,es,ep,k _ _ (.inr d) e2,c⟩,r⟩
 |own y=>obtain⟨ob,e⟩:=x;exact⟨ob,k _ _ (.inl rfl) e⟩
 |xd fs=>obtain⟨mA,⟨od,es,ep,e,c⟩,r⟩:=x;exact⟨mA,⟨od,es,ep,k _ _ (.inl rfl) e,c⟩,r⟩
 |rng lo hi=>obtain⟨t,u,v,e⟩:=x;exact⟨t,u,v,k _ _ (.inl rfl) e⟩
 |frz ob u ih=>obtain⟨e,q⟩:=x;exact⟨k _ _ (.inl rfl) e,ih q⟩
 |tbl ps=>
  have e:=x;exact k a _ (.inl rfl) e
 |met f y=>
  have e:=x;exact k a _ (.inl rfl) e
 |ext φ=>obtain⟨p,⟨o,e⟩,st⟩:=x;exact⟨st _ _ p λo q=>k _ _ (.inl rfl) q,⟨o,k _ _ (.inl rfl) e⟩,st⟩
def HOk.lt (x:HOk P w H h) (e:H a=some o):a<h.objs.size:=(x a o e).lt
def HOk.fresh (x:HOk P w H h) (e:h.objs.size<=a):H a=none:=by
 cases q:H a with
 |none=>rfl
 |some u=>exact absurd (Qq (x.lt q) e) (QP _)
def HOk.kept (x:HOk P w H h) (k:∀b u,h.get? b=some u->h'.get? b=some u):HOk P w H h':=λa o e=>
 (x a o e).stay (λb u _ q=>k b u q) (λ_ q=>q) λ_ _ q=>q
def HOk.laid (x:HOk P w H h) (k:∀b u,h.get? b=some u->h'.get? b=some u) (hp:h.objs.size<=a) (new:ObjOk P w (upd H a o) h' a o):HOk P w (upd H a o) h':=λb u e=>by
 have hn:=x.fresh hp;by_cases hb:b=a
 ·subst hb;rw[X4]at e;cases e;exact new
 ·rw[Xr hb]at e;exact(x b u e).stay (λc v _ q=>k c v q) (λc q=>by rw[Xr (Kw q hn)];exact q) λc xs q=>by rw[Xr (Kw q hn)];exact q
end
def Rd(H:Hp)(a:Addr)(u:HO):Prop:=H a=some u\/∃o,H a=some (.frz o u)
def Rd.ok {H h a u} (r:Rd H a u) (x:HOk P w H h):ObjOk P w H h a u:=by
 rcases r with r|⟨o,r⟩
 ·exact x a u r
 ·obtain⟨_,q⟩:=x a _ r;omega
def Mut:Option HO->Prop
 |some (.lst _)=>True
 |some (.dK _)=>True
 |some (.dT _)=>True
 |some (.set _ _)=>True
 |some (.ins _ _ _)=>True
 |some (.ext _)=>True
 |_=>False
section
variable {P:Program}{w:World}{H:Hp}{h h':Heap}{x e:Addr}{o':HO}
def HOk.write (ok:HOk P w H h) (mu:Mut (H x)) (he:e=x\/H e=some (.own x)) (k:∀b u,b≠e->h.get? b=some u->h'.get? b=some u) (heo:∃u,h'.get? e=some u)
  (new:ObjOk P w (upd H x o') h' x o'):HOk P w (upd H x o') h':=λb u q=>by
 have nown:∀c y,H c=some (.own y)->c≠x:=λc y r z=>by subst z;rw[r]at mu;exact mu
 have ntup:∀c xs,H c=some (.tup xs)->c≠x:=λc xs r z=>by subst z;rw[r]at mu;exact mu
 by_cases hb:b=x
 ·subst hb;rw[X4]at q;cases q;exact new
 ·rw[Xr hb]at q;by_cases hbe:b=e
  ·have q':H b=some (.own x):=by
    rcases he with z|z
    ·grind
    ·rw[hbe];exact z
   rw[q]at q';cases q';obtain⟨v,hv⟩:=heo;exact⟨v,by rw[hbe];exact hv⟩
  ·refine(ok b u q).stay (λc v hc r=>k c v ?_ r) (λc r=>by rw[Xr (nown c b r)];exact r) λc xs r=>by rw[Xr (ntup c xs r)];exact r
   rcases hc with rfl|hc
   ·exact hbe
   ·grind
end
structure Un (fs ex:List Addr) (H H':Hp) (h h':Heap):Prop where
 keep:∀b o,h.get? b=some o->H b=none->b∉fs->b∉ex->h'.get? b=some o
 slot:∀b o,h.get? b=some o->H b=none->b∈fs->b∉ex->∃sl,h'.get? b=some {o with slots:=sl}
 free:∀b o,h.get? b=some o->H b=none->b∉ex->H' b=none
 there:∀b o,h.get? b=some o->b∉ex->∃o',h'.get? b=some o'
 tups:∀b xs,H b=some (.tup xs)->H' b=some (.tup xs)
 frzs:∀b o u,H b=some (.frz o u)->H' b=some (.frz o u)
 tbls:∀b ps,H b=some (.tbl ps)->∃more,H' b=some (.tbl (ps++more))
section
variable {fs fs' ex ex':List Addr}{H H1 H2:Hp}{h h1 h2 h':Heap}{a x e:Addr}{o:HO}
def Un.any (u:Un fs ex H H1 h h1) {b ob} (q:h.get? b=some ob) (n:H b=none) (hx:b∉ex):∃sl,h1.get? b=some {ob with slots:=sl}:=by
 by_cases hb:b∈fs
 ·exact u.slot b ob q n hb hx
 ·exact⟨ob.slots,u.keep b ob q n hb hx⟩
def Un.kept (k:∀b u,h.get? b=some u->h'.get? b=some u):Un fs ex H H h h':=
 ⟨λb ob q _ _ _=>k b ob q,λb ob q _ _ _=>⟨ob.slots,k b ob q⟩,λ_ _ _ n _=>n,λb ob q _=>⟨ob,k b ob q⟩,λ_ _ q=>q,λ_ _ _ q=>q,λ_ ps q=>⟨#[],by rw[q];simp⟩⟩
def Un.refl:Un fs ex H H h h:=Un.kept λ_ _ q=>q
def Un.laid (k:∀b u,h.get? b=some u->h'.get? b=some u) (hp:h.objs.size<=a) (hn:H a=none):Un fs ex H (upd H a o) h h' where
 keep:=λb u q _ _ _=>k b u q
 slot:=λb u q _ _ _=>⟨u.slots,k b u q⟩
 free:=λb u q n _=>by rw[Xr (Qk<|Qq (WT q) hp)];exact n
 there:=λb u q _=>⟨u,k b u q⟩
 tups:=λb xs q=>by rw[Xr (Kw q hn)];exact q
 frzs:=λb u xs q=>by rw[Xr (Kw q hn)];exact q
 tbls:=λb ps q=>⟨#[],by rw[Xr (Kw q hn),q];simp⟩
def Un.write (mu:Mut (H x)) (he:e=x\/H e=some (.own x)) (k:∀b u,b≠e->h.get? b=some u->h'.get? b=some u) (heo:∃u,h'.get? e=some u):Un fs ex H (upd H x o) h h':=by
 have hx:∀b,H b=none->b≠x:=λb n z=>by subst z;rw[n]at mu;exact mu
 have hb:∀b,H b=none->b≠e:=λb n z=>by
  rcases he with r|r
  ·grind
  ·grind
 have hm:∀b u,H b=some u->¬Mut (some u)->b≠x:=λb u q nm z=>by subst z;rw[q]at mu;exact nm mu
 refine⟨λb u q n _ _=>k b u (hb b n) q,λb u q n _ _=>⟨u.slots,k b u (hb b n) q⟩,λb u q n _=>by rw[Xr (hx b n)];exact n,λb u q _=>?_,
  λb xs q=>by rw[Xr (hm b _ q λz=>z)];exact q,λb u xs q=>by rw[Xr (hm b _ q λz=>z)];exact q,λb ps q=>⟨#[],by rw[Xr (hm b _ q λz=>z),q];simp⟩⟩
 by_cases hbe:b=e
 ·grind
 ·grind
end
noncomputable def trk(h:Heap)(H:Hp):List Addr:=(List.range h.objs.size).filter λa=>(H a).isSome
noncomputable def Nj(h:Heap)(H:Hp):Heap:=PySem.W.hideAll h (trk h H)
def Zje(h:Heap)(H:Hp):(Nj h H).objs.size=h.objs.size:=PySem.W.hideAll_size _ _
def Zft{H b o}(e:h.get? b=some o)(n:H b=none):(Nj h H).get? b=some o:=
 PySem.W.hideAll_get _ e λhm=>by
  have q:=(Q6.mp hm).2
  grind
def Zec(e:(Nj h H).get? b=some o):h.get? b=some o/\H b=none:=by
 have e':=PySem.W.of_hideAll (trk h H) e;refine⟨e',?_⟩;cases q:H b with
 |none=>rfl
 |some x=>
  have hm:b∈trk h H:=Q6.mpr ⟨List.mem_range.mpr (WT e'),by simp[q]⟩;have z:(Nj h H).get? b=none:=PySem.W.hideAll_none (trk h H) hm
  grind
noncomputable def Zfb(g h:Heap)(L:Addr):Ym:=(List.range h.objs.size).filterMap λa=>if a=L\/(g.get? a).isSome=true then none else(h.get? a).map λo=>(a,o)
noncomputable def rest(g h:Heap)(L d:Addr):Ym:=(Zfb g h L).filter λp=>decide (p.1≠d)
structure Mod (K:Yj) (mg:Yn) (base:Heap):Prop where
 kin:K.In base
 glob:base.Ns mainGlobals mg
 blt:∃mb,base.Ns builtinsNs mb/\∀x:Str,x≠"__name__"->mb x=bootBuiltins x
 nolimit:base.NoLimit
structure Cx where
 prog:Program
 w:World
 K:Yj
 mg:Yn
 base:Heap
 A:Around
 N:Ys
 s₀:Shared
 H₀:Hp
 env:Env
 outer:List Env
 stack:List Env
 ex:List Addr
 fn:Str->Bool
 calm:Bool
 pn:Ym
 xe:Yo
noncomputable def frs(l:List Env):List Addr:=l.filterMap (·.frame)
noncomputable abbrev Cx.fs (X:Cx):List Addr:=frs X.outer
def Vis(sc:Scope)(x:Str):Prop:=sc.names.lookup x=some .local\/sc.names.lookup x=some .cell\/sc.names.lookup x=some .free
def Loc(sc:Scope)(x:Str):Prop:=sc.names.lookup x=some .local\/sc.names.lookup x=some .cell
def Look(env:Env)(h:Heap)(m:Yn)(x:Str)(u:Value):Prop:=
 (env.kindOf x=some .local/\m x=some u)\/((env.kindOf x=some .cell\/env.kindOf x=some .free)/\∃c,env.cells.lookup x=some c/\h.IsCell c (some u))
structure Cx.Ok (X:Cx):Prop where
 mod:Mod X.K X.mg X.base
 kind:X.env.scope.kind=.function
 glob:X.env.globals=mainGlobals
 blt:X.env.builtins=builtinsNs
 above:X.s₀.heap.objs.size<=X.env.locals
 inj:∀x y c,X.env.cells.lookup x=some c->X.env.cells.lookup y=some c->x=y
 has:∀x,(X.env.kindOf x=some .cell\/X.env.kindOf x=some .free)->∃c,X.env.cells.lookup x=some c
 cab:∀x c,X.fn x=true->X.env.cells.lookup x=some c->X.s₀.heap.objs.size<=c
 hd:X.calm=true->X.A.handled=none
 frames:X.A.frames=some X.stack
 stk:X.stack=X.outer\/(X.stack=X.env::X.outer/\X.env.frame=some X.env.locals)
 exf:∀b∈X.ex,b≠X.env.locals/\∀x c,X.env.cells.lookup x=some c->c≠b
 bs:∀b o,X.base.get? b=some o->X.s₀.heap.get? b=some o/\X.H₀ b=none
 bsz:X.base.objs.size<=X.s₀.heap.objs.size
 noex:∀b o,X.base.get? b=some o->b∉X.ex
 exfs:∀b∈X.ex,b∉X.fs
 funs:X.s₀.heap.FunFrames X.base X.outer
 frf:∀b∈X.fs,X.H₀ b=none
structure Inv (X:Cx) (pins:Ym) (σ:List (Option V)) (H:Hp) (s:Shared):Prop where
 ok:X.Ok
 os:s.os=X.s₀.os
 bare:AllBare s.gens
 base:Un X.fs X.ex X.H₀ H X.s₀.heap s.heap
 loc:∃m,s.heap.Ns X.env.locals m/\∀(i:Nat) (x:Str) (v:V),X.N[i]?=some x->σ[i]?=some (some v)->Vis X.env.scope x->∃u,RelV v u/\Look X.env s.heap m x u
 cell:∀x c,X.env.cells.lookup x=some c->∃v,s.heap.IsCell c v
 free:H X.env.locals=none
 freeC:∀x c,X.env.cells.lookup x=some c->H c=none
 pin:∀p∈X.pn++pins,s.heap.get? p.1=some p.2/\H p.1=none/\p.1≠X.env.locals/\p.1∉X.fs/\∀v,p.2.data≠.cell v
 hok:HOk X.prog X.w H s.heap
 len:σ.length=X.N.length
section
variable {X:Cx}{pins:Ym}{σ:List (Option V)}{H H':Hp}{s:Shared}{h':Heap}
def Cx.Ok.nofr (ok:X.Ok) {b o} (e:X.base.get? b=some o):b∉X.fs:=λhb=>by
 have:=(ok.funs.mem hb).1
 grind
def Inv.bs (I:Inv X pins σ H s):∀b o,X.base.get? b=some o->s.heap.get? b=some o/\H b=none:=λb o e=>
 ⟨I.base.keep b o (I.ok.bs b o e).1 (I.ok.bs b o e).2 (I.ok.nofr e) (I.ok.noex b o e),I.base.free b o (I.ok.bs b o e).1 (I.ok.bs b o e).2 (I.ok.noex b o e)⟩
def Inv.bk (I:Inv X pins σ H s):∀b o,X.base.get? b=some o->s.heap.get? b=some o:=λb o e=>(I.bs b o e).1
def Inv.mod (I:Inv X pins σ H s):Mod X.K X.mg X.base:=I.ok.mod
def Inv.kIn (I:Inv X pins σ H s):X.K.In s.heap:=I.ok.mod.kin.keeps I.bk
def Inv.lt (I:Inv X pins σ H s):X.env.locals<s.heap.objs.size:=let ⟨_,hn,_⟩:=I.loc;hn.lt
def Inv.sz (I:Inv X pins σ H s):X.s₀.heap.objs.size<=s.heap.objs.size:=WU I.ok.above (VZ I.lt)
def Inv.nofs (I:Inv X pins σ H s) {a:Addr} (h:s.heap.objs.size<=a):a∉X.fs:=λhb=>by
 obtain⟨_,o,ho,_⟩:=I.ok.funs.mem hb;exact absurd (Qq (WT ho)<|WU I.sz h) (QP _)
def Inv.cne (I:Inv X pins σ H s):∀x c,X.env.cells.lookup x=some c->c≠X.env.locals:=λx c e z=>by
 obtain⟨v,o,ho,hd⟩:=I.cell x c e;obtain⟨m,⟨o',es,ep,ho',hd',_⟩,_⟩:=I.loc
 grind
def Inv.funs (I:Inv X pins σ H s):s.heap.FunFrames X.base X.outer:=by
 have all:∀l,(∀b∈frs l,b∈X.fs)->X.s₀.heap.FunFrames X.base l->s.heap.FunFrames X.base l:=by
  intro l
  induction l with
  |nil=>intro _ _;trivial
  |cons env r ih=>
   intro hs hl;obtain⟨hk,⟨L,o,hf,hn,ho,hd⟩,hr⟩:=hl;have hL:=hs L (by unfold frs;rw[QU,hf];exact Qu);obtain⟨sl,e⟩:=I.base.slot L o ho (I.ok.frf L hL) hL λz=>I.ok.exfs L z hL;exact⟨hk,⟨L,_,hf,hn,e,hd⟩,ih (λb hb=>hs b (by unfold frs;rw[QU,hf];exact Qe _ hb)) hr⟩
 exact all X.outer (λ_ hb=>hb) I.ok.funs
def Inv.stack (I:Inv X pins σ H s):s.heap.FunFrames X.base X.stack:=by
 rcases I.ok.stk with e|⟨e,hf⟩
 ·rw[e];exact I.funs
 ·rw[e];obtain⟨m,hn,_⟩:=I.loc;refine .cons (by rw[I.ok.kind];decide) hf hn ?_ I.funs;exact Vz (WU I.ok.bsz I.ok.above)
def Inv.stkSub (I:Inv X pins σ H s):∀b∈frs X.stack,b∈X.env.locals::X.fs:=λb hb=>by
 rcases I.ok.stk with e|⟨e,hf⟩
 ·grind
 ·rw[e]at hb;unfold frs at hb;rw[QU,hf]at hb;trivial
def Inv.stkFree (I:Inv X pins σ H s):∀b∈frs X.stack,H b=none:=λb hb=>by
 rcases Qa.mp (I.stkSub b hb)with e|hb
 ·rw[e];exact I.free
 ·obtain⟨_,o,ho,_⟩:=I.ok.funs.mem hb;exact I.base.free b o ho (I.ok.frf b hb) λz=>I.ok.exfs b z hb
def Inv.step {d'}{ch:List Addr} (I:Inv X pins σ H s)
  (hch:∀b∈ch,(b∈X.ex\/X.s₀.heap.objs.size<=b)/\b≠X.env.locals/\(∀x c,X.env.cells.lookup x=some c->c≠b)/\∀p∈X.pn++pins,p.1≠b)
  (keep:∀b o,b≠X.env.locals->b∉X.fs->b∉ch->s.heap.get? b=some o->H b=none->h'.get? b=some o)
  (slot:∀b o,b≠X.env.locals->b∈X.fs->b∉ch->s.heap.get? b=some o->H b=none->∃sl,h'.get? b=some {o with slots:=sl}) (free:∀b o,b∉ch->s.heap.get? b=some o->H b=none->H' b=none)
  (there:∀b o,b∉ch->s.heap.get? b=some o->∃o',h'.get? b=some o')
  (tups:∀b xs,H b=some (.tup xs)->H' b=some (.tup xs)) (frzs:∀b o u,H b=some (.frz o u)->H' b=some (.frz o u)) (tbls:∀b ps,H b=some (.tbl ps)->∃more,H' b=some (.tbl (ps++more)))
  (ns:∀m,s.heap.Ns X.env.locals m->h'.Ns X.env.locals m) (hok:HOk X.prog X.w H' h') (hg:AllBare g') :
  Inv X pins σ H' {s with heap:=h',gens:=g',drawn:=d',toks:=t'}:=by
 have neL:∀b o,X.s₀.heap.get? b=some o->b≠X.env.locals:=λb o e=>Qk (Qq (WT e) I.ok.above)
 have neC:∀b o,X.s₀.heap.get? b=some o->b∉X.ex->b∉ch:=λb o e hx hb=>by
  rcases(hch b hb).1 with z|z
  ·exact hx z
  ·exact absurd (Qq (WT e) z) (QP _)
 have cellK:∀x c,X.env.cells.lookup x=some c->∀v,s.heap.IsCell c v->h'.IsCell c v:=λx c e v ⟨o,ho,hd⟩=>by
  have nch:=λz=>(hch c z).2.2.1 x c e rfl;by_cases hc:c∈X.fs
  ·obtain⟨sl,q⟩:=slot c o (I.cne x c e) hc nch ho (I.freeC x c e);exact⟨_,q,hd⟩
  ·exact⟨o,keep c o (I.cne x c e) hc nch ho (I.freeC x c e),hd⟩
 refine⟨I.ok,I.os,hg,⟨λb o e n hb hx=>?_,λb o e n hb hx=>?_,λb o e n hx=>?_,λb o e hx=>?_,λb xs e=>tups b xs (I.base.tups b xs e),λb o xs e=>frzs b o xs (I.base.frzs b o xs e),λb ps e=>?_⟩,?_,λx c e=>?_,?_,λx c e=>?_,λp hp=>?_,hok,I.len⟩
 ·exact keep b o (neL b o e) hb (neC b o e hx) (I.base.keep b o e n hb hx) (I.base.free b o e n hx)
 ·obtain⟨sl,e1⟩:=I.base.slot b o e n hb hx;obtain⟨sl',e2⟩:=slot b _ (neL b o e) hb (neC b o e hx) e1 (I.base.free b o e n hx);exact⟨sl',e2⟩
 ·obtain⟨o',e1⟩:=I.base.there b o e hx;exact free b o' (neC b o e hx) e1 (I.base.free b o e n hx)
 ·obtain⟨o',e1⟩:=I.base.there b o e hx;exact there b o' (neC b o e hx) e1
 ·obtain⟨m1,e1⟩:=I.base.tbls b ps e;obtain⟨m2,e2⟩:=tbls b _ e1;exact⟨m1++m2,by rw[e2,Array.append_assoc]⟩
 ·obtain⟨m,hn,hl⟩:=I.loc;refine⟨m,ns m hn,λi x v e1 e2 e3=>?_⟩;obtain⟨u,r,l⟩:=hl i x v e1 e2 e3;refine⟨u,r,?_⟩;rcases l with l|⟨k,c,e,z⟩
  ·exact .inl l
  ·exact .inr ⟨k,c,e,cellK x c e _ z⟩
 ·obtain⟨v,z⟩:=I.cell x c e;exact⟨v,cellK x c e v z⟩
 ·obtain⟨m,⟨o,_,_,ho,_⟩,_⟩:=I.loc;exact free _ o (λz=>(hch _ z).2.1 rfl) ho I.free
 ·obtain⟨v,o,ho,hd⟩:=I.cell x c e;exact free c o (λz=>(hch c z).2.2.1 x c e rfl) ho (I.freeC x c e)
 ·obtain⟨e,n,ne,nf,d⟩:=I.pin p hp
  grind
def Inv.un (I:Inv X pins σ H s) (u:Un X.fs [] H H' s.heap h') (hok:HOk X.prog X.w H' h'):Inv X pins σ H' {s with heap:=h',toks:=t'}:=by
 obtain⟨m,⟨o,es,ep,ho,r⟩,_⟩:=id I.loc;obtain⟨sl,hL⟩:=u.any ho I.free (by simp)
 exact I.step (ch:=[]) (λ_ z=>nomatch z) (λb o _ hb _ e n=>u.keep b o e n hb (by simp)) (λb o _ hb _ e n=>u.slot b o e n hb (by simp)) (λb o _ e n=>u.free b o e n (by simp)) (λb o _ e=>u.there b o e (by simp)) u.tups u.frzs u.tbls (λm' hm=>by
  obtain⟨o',es',ep',ho',r'⟩:=hm;rw[ho]at ho';cases ho';exact⟨_,es',ep',hL,r'⟩) hok I.bare
def Inv.call {d'}{ch} (I:Inv X pins σ H s) (u:Un (frs X.stack) ch H H' s.heap h') (hok:HOk X.prog X.w H' h') (hg:AllBare g')
  (hch:∀b∈ch,(b∈X.ex\/X.s₀.heap.objs.size<=b)/\b≠X.env.locals/\(∀x c,X.env.cells.lookup x=some c->c≠b)/\∀p∈X.pn++pins,p.1≠b) :
  Inv X pins σ H' {s with heap:=h',gens:=g',drawn:=d',toks:=t'}:=by
 obtain⟨m,⟨o,es,ep,ho,r⟩,_⟩:=id I.loc;obtain⟨sl,hL⟩:=u.any ho I.free λz=>(hch _ z).2.1 rfl
 exact I.step hch (λb o hL hb hc e n=>u.keep b o e n (λz=>(Qa.mp<|I.stkSub b z).elim hL hb) hc) (λb o _ _ hc e n=>u.any e n hc) (λb o hc e n=>u.free b o e n hc) (λb o hc e=>u.there b o e hc) u.tups u.frzs u.tbls (λm' hm=>by
  obtain⟨o',es',ep',ho',r'⟩:=hm;rw[ho]at ho';cases ho';exact⟨_,es',ep',hL,r'⟩) hok hg
def Inv.turned {it} (I:Inv X pins σ H s) (k:∀b o,b≠it->s.heap.get? b=some o->h'.get? b=some o) (hn:H it=none) (hL:it≠X.env.locals)
  (h1:it∈X.ex\/X.s₀.heap.objs.size<=it) (h2:∀x c,X.env.cells.lookup x=some c->c≠it) (h3:∀p∈X.pn++pins,p.1≠it):Inv X pins σ H {s with heap:=h',toks:=t'}:=by
 refine I.step (ch:=[it]) (λb hb=>?_) (λb o _ _ hc e _=>k b o (λz=>hc (by simp[z])) e) (λb o _ _ hc e _=>⟨o.slots,k b o (λz=>hc (by simp[z])) e⟩) (λ_ _ _ _ n=>n)
  (λb o hc e=>⟨o,k b o (λz=>hc (by simp[z])) e⟩) (λ_ _ e=>e) (λ_ _ _ e=>e) (λb ps e=>⟨#[],by rw[e];simp⟩) (λm hm=>?_) (λb u e=>?_) I.bare
 ·grind
 ·obtain⟨o,es,ep,ho,r⟩:=hm;exact⟨o,es,ep,k _ o (Ne.symm hL) ho,r⟩
 ·refine(I.hok b u e).stay (λc v hc q=>k c v ?_ q) (λ_ q=>q) λ_ _ q=>q;rcases hc with z|z
  ·grind
  ·grind
def Inv.tok (I:Inv X pins σ H s) (t:Nat):Inv X pins σ H {s with toks:=t}:=I.un Un.refl I.hok
def Inv.kept (I:Inv X pins σ H s) (k:∀b u,s.heap.get? b=some u->h'.get? b=some u):Inv X pins σ H {s with heap:=h',toks:=t'}:=I.un (Un.kept k) (I.hok.kept k)
def Inv.laid {a:Addr}{o}{t'} (I:Inv X pins σ H s) (k:∀b u,s.heap.get? b=some u->h'.get? b=some u) (hp:s.heap.objs.size<=a) (new:ObjOk X.prog X.w (upd H a o) h' a o) :
  Inv X pins σ (upd H a o) {s with heap:=h',toks:=t'}:=I.un (Un.laid k hp<|I.hok.fresh hp) (I.hok.laid k hp new)
def Inv.write (I:Inv X pins σ H s) (mu:Mut (H x)) (he:e=x\/H e=some (.own x)) (k:∀b u,b≠e->s.heap.get? b=some u->h'.get? b=some u) (heo:∃u,h'.get? e=some u)
  (new:ObjOk X.prog X.w (upd H x o) h' x o):Inv X pins σ (upd H x o) {s with heap:=h',toks:=t'}:=I.un (Un.write mu he k heo) (I.hok.write mu he k heo new)
def Inv.weak (I:Inv X pins σ H s) (hl:σ'.length=σ.length) (w:∀(i:Nat) v,σ'[i]?=some (some v)->σ[i]?=some (some v)):Inv X pins σ' H s:=
 ⟨I.ok,I.os,I.bare,I.base,let ⟨m,hn,hl'⟩:=I.loc;⟨m,hn,λi x v e1 e2 e3=>hl' i x v e1 (w i v e2) e3⟩,I.cell,I.free,I.freeC,I.pin,I.hok,hl.trans I.len⟩
def Inv.pins_of (I:Inv X pins σ H s) (h:∀p∈pins',s.heap.get? p.1=some p.2/\H p.1=none/\p.1≠X.env.locals/\p.1∉X.fs/\∀v,p.2.data≠.cell v):Inv X pins' σ H s:=
 ⟨I.ok,I.os,I.bare,I.base,I.loc,I.cell,I.free,I.freeC,λp hp=>(WV.mp hp).elim (λz=>I.pin p (Q9 _ z)) (h p),I.hok,I.len⟩
def AN{N:Ys}(hN:N.Nodup){i j:Nat}{x}(a:N[i]?=some x)(b:N[j]?=some x):i=j:=by
 obtain⟨h1,e1⟩:=WZ.mp a;obtain⟨h2,e2⟩:=WZ.mp b;exact(List.getElem_inj hN).mp (e1.trans e2.symm)
def Zki{i x v u Q}(I:Inv X pins σ H s)(hN:X.N.Nodup)(hi:X.N[i]?=some x)(hx:Loc X.env.scope x)(r:RelV v u)(h:∀s',Inv X pins (σ.set i<|some v) H s'->(∃a,Heap.SameBut a s.heap s'.heap/\(a=X.env.locals\/X.env.cells.lookup x=some a))->Q () s')(hf:autoParam (X.fn x=true\/X.env.scope.names.lookup x=some .local) au_2):wpAny M A (storeName X.env x u) Q E s:=by
 obtain⟨m,hn,hl⟩:=id I.loc;have hcls:(X.env.scope.kind == .class || (X.env.scope.kind == .module&&X.env.locals != X.env.globals))=false:=by rw[I.ok.kind];rfl
 have hiσ:i<σ.length:=by rw[I.len];exact(WZ.mp hi).1
 have cne:=I.cne
 have tracked:∀{a:Addr} {h':Heap},(∃o,s.heap.get? a=some o/\H a=none)->Heap.SameBut a s.heap h'->HOk X.prog X.w H h':=λ{a h'} ha hs b ob e=>by
  obtain⟨_,_,hfree⟩:=ha;refine(I.hok b ob e).stay (λc w' hc q=>(hs.2 c ?_).trans q) (λ_ q=>q) λ_ _ q=>q;rintro rfl;rcases hc with rfl|hc
  ·rw[hfree]at e;cases e
  ·rw[hfree]at hc;cases hc
 rcases hx with hk|hk
 ·refine wpAny_storeName_local hk hn (λh' hn' hs=>?_) hcls;obtain⟨oL,_,_,hoL,_⟩:=id hn;refine h _ ⟨I.ok,I.os,I.bare,⟨λb o e n hb hx=>?_,λb o e n hb hx=>?_,I.base.free,λb o e hx=>?_,I.base.tups,I.base.frzs,I.base.tbls⟩,⟨_,hn',λj y v' e1 e2 e3=>?_⟩,λy c e=>?_,I.free,I.freeC,λp hp=>?_,tracked ⟨oL,hoL,I.free⟩ hs,by simpa using I.len⟩ ⟨_,hs,.inl rfl⟩
  ·exact(hs.2 b<|Qk<|Qq (WT e) I.ok.above).trans (I.base.keep b o e n hb hx)
  ·obtain⟨sl,e1⟩:=I.base.slot b o e n hb hx;exact⟨sl,(hs.2 b<|Qk<|Qq (WT e) I.ok.above).trans e1⟩
  ·obtain⟨o',e1⟩:=I.base.there b o e hx;exact⟨o',(hs.2 b<|Qk<|Qq (WT e) I.ok.above).trans e1⟩
  ·by_cases hj:j=i
   ·subst hj;rw[hi]at e1;cases e1;rw[List.getElem?_set_self hiσ]at e2;cases e2
    exact⟨u,r,.inl ⟨hk,by simp⟩⟩
   ·rw[J0 (Ne.symm hj)]at e2;obtain⟨u',r',q⟩:=hl j y v' e1 e2 e3;refine⟨u',r',?_⟩;rcases q with⟨k,e⟩|⟨k,c,e,z⟩
    ·refine .inl ⟨k,?_⟩
     have:y≠x:=λe=>hj (AN hN e1 (e▸hi))
     simp[this,e]
    ·exact .inr ⟨k,c,e,z.sameBut hs (cne y c e)⟩
  ·obtain⟨w',z⟩:=I.cell y c e;exact⟨w',z.sameBut hs (cne y c e)⟩
  ·obtain⟨e,n,ne,nf,d⟩:=I.pin p hp;exact⟨(hs.2 p.1 ne).trans e,n,ne,nf,d⟩
 ·have hfn:X.fn x=true:=by
   rcases hf with z|z
   ·exact z
   ·rw[z]at hk;cases hk
  obtain⟨c,hc⟩:=I.ok.has x (.inl hk);obtain⟨w',z⟩:=I.cell x c hc;refine wpAny_storeName_cell I.ok.kind hk hc z (λh' hc' hs=>?_);obtain⟨oc,hoc,hocd⟩:=id z;refine h {s with heap:=h'} ⟨I.ok,I.os,I.bare,⟨λb o e n hb hx=>?_,λb o e n hb hx=>?_,I.base.free,λb o e hx=>?_,I.base.tups,I.base.frzs,I.base.tbls⟩,⟨m,hn.sameBut hs (Ne.symm<|cne x c hc),λj y v' e1 e2 e3=>?_⟩,λy c' e=>?_,I.free,I.freeC,λp hp=>?_,tracked ⟨oc,hoc,I.freeC x c hc⟩ hs,by simpa using I.len⟩ ⟨c,hs,.inr hc⟩
  ·exact(hs.2 b<|Qk<|Qq (WT e)<|I.ok.cab x c hfn hc).trans (I.base.keep b o e n hb hx)
  ·obtain⟨sl,e1⟩:=I.base.slot b o e n hb hx;exact⟨sl,(hs.2 b<|Qk<|Qq (WT e)<|I.ok.cab x c hfn hc).trans e1⟩
  ·obtain⟨o',e1⟩:=I.base.there b o e hx;exact⟨o',(hs.2 b<|Qk<|Qq (WT e)<|I.ok.cab x c hfn hc).trans e1⟩
  ·by_cases hj:j=i
   ·subst hj;rw[hi]at e1;cases e1;rw[List.getElem?_set_self hiσ]at e2;cases e2
    exact⟨u,r,.inr ⟨.inl hk,c,hc,hc'⟩⟩
   ·rw[J0 (Ne.symm hj)]at e2;obtain⟨u',r',q⟩:=hl j y v' e1 e2 e3;refine⟨u',r',?_⟩;rcases q with q|⟨k,c',e,z'⟩
    ·exact .inl q
    ·refine .inr ⟨k,c',e,z'.sameBut hs ?_⟩;rintro rfl;exact hj (AN hN e1 (I.ok.inj _ _ _ e hc▸hi))
  ·by_cases hcc:c'=c
   ·subst hcc;exact⟨_,hc'⟩
   ·obtain⟨w2,z2⟩:=I.cell y c' e;exact⟨w2,z2.sameBut hs hcc⟩
  ·obtain⟨e,n,ne,nf,d⟩:=I.pin p hp;refine⟨(hs.2 p.1 ?_).trans e,n,ne,nf,d⟩;intro q;rw[q,hoc]at e;exact d w' (by rw[←(WW e)];exact hocd)
def SE{i x v u Q}(I:Inv X pins σ H s)(hN:X.N.Nodup)(hi:X.N[i]?=some x)(hx:Loc X.env.scope x)(r:RelV v u)(h:∀s',Inv X pins (σ.set i<|some v) H s'->Q () s')(hf:autoParam (X.fn x=true\/X.env.scope.names.lookup x=some .local) au_2):wpAny M A (storeName X.env x u) Q E s:=
 Zki I hN hi hx r (λs' I' _=>h s' I') hf
def Inv.call' {ch} (I:Inv X pins σ H s) (ho:s'.os=s.os) (u:Un (frs X.stack) ch H H' s.heap s'.heap) (hok:HOk X.prog X.w H' s'.heap) (hg:AllBare s'.gens)
  (hch:∀b∈ch,(b∈X.ex\/X.s₀.heap.objs.size<=b)/\b≠X.env.locals/\(∀x c,X.env.cells.lookup x=some c->c≠b)/\∀p∈X.pn++pins,p.1≠b):Inv X pins σ H' s':=by
 obtain⟨h',g',d',t',o'⟩:=s';subst ho;exact I.call u hok hg hch
end
abbrev XK:=Value->Yw->Hp->Prop
abbrev St:=List (Option V)
abbrev VK:=V->Hp->Prop
abbrev TE:=St->Hp->VK->Prop
abbrev TT:=St->Hp->(Bool->Hp->Prop)->Prop
abbrev TA:=St->Hp->(List V->Hp->Prop)->Prop
structure Ends where
 nx:St->Hp->Prop
 rt:VK
 bk:St->Hp->Prop:=λ_ _=>False
 ct:St->Hp->Prop:=λ_ _=>False
abbrev TS:=Ends->St->Hp->Prop
def EP(X:Cx)(pins:Ym)(σ:St)(Q:VK)(u:Value)(s':Shared):Prop:=∃v H',Inv X pins σ H' s'/\RelV v u/\Q v H'
def TP(X:Cx)(pins:Ym)(σ:St)(Q:Bool->Hp->Prop)(b:Bool)(s':Shared):Prop:=∃H',Inv X pins σ H' s'/\Q b H'
def AP(X:Cx)(pins:Ym)(σ:St)(Q:List V->Hp->Prop)(us:Yr)(s':Shared):Prop:=∃vs H',Inv X pins σ H' s'/\Vals vs us/\Q vs H'
def SP(X:Cx)(pins:Ym)(D:Ends)(f:Flow)(s':Shared):Prop:=
 match f with
 | .next=>∃σ' H',Inv X pins σ' H' s'/\D.nx σ' H'
 | .brk=>∃σ' H',Inv X pins σ' H' s'/\D.bk σ' H'
 | .cont=>∃σ' H',Inv X pins σ' H' s'/\D.ct σ' H'
 | .ret u=>∃v σ' H',Inv X pins σ' H' s'/\RelV v u/\D.rt v H'
def PE(X:Cx)(e:Expr)(t:TE):Prop:=
 ∀(pins:Ym) (s:Shared) (σ:St) (H:Hp) (Q:VK),Inv X pins σ H s->t σ H Q->wpAny (model X.prog X.w) X.A (eval e X.env) (EP X pins σ Q) X.xe s
def PT(X:Cx)(e:Expr)(t:TT):Prop:=
 ∀(pins:Ym) (s:Shared) (σ:St) (H:Hp) (Q:Bool->Hp->Prop),Inv X pins σ H s->t σ H Q->wpAny (model X.prog X.w) X.A (isTrue e X.env<|eval e X.env) (TP X pins σ Q) X.xe s
def PW(X:Cx)(e:Expr)(t:TT):Prop:=
 ∀(whole:Sem Value) (pins:Ym) (s:Shared) (σ:St) (H:Hp) (Q:Bool->Hp->Prop),Inv X pins σ H s->t σ H Q->wpAny (model X.prog X.w) X.A (isTrue e X.env whole) (TP X pins σ Q) X.xe s
def PW.pt (h:PW X e t):PT X e t:=h _
def PA(X:Cx)(es:Yt)(t:TA):Prop:=
 ∀(pos:Pos) (pins:Ym) (s:Shared) (σ:St) (H:Hp) (Q:List V->Hp->Prop),Inv X pins σ H s->t σ H Q->wpAny (model X.prog X.w) X.A (spliced<|backTo pos<|starEach es X.env) (AP X pins σ Q) X.xe s
def PS(X:Cx)(st:Stmt)(t:TS):Prop:=
 ∀(pins:Ym) (s:Shared) (σ:St) (H:Hp) (D:Ends),Inv X pins σ H s->t D σ H->wpAny (model X.prog X.w) X.A (exec st X.env) (SP X pins D) X.xe s
def PSs(X:Cx)(st:Yu)(t:TS):Prop:=
 ∀(pins:Ym) (s:Shared) (σ:St) (H:Hp) (D:Ends),Inv X pins σ H s->t D σ H->wpAny (model X.prog X.w) X.A (execs st X.env) (SP X pins D) X.xe s
def thn{M A E s}(h:wpAny M A t Q E s)(hQ:∀a s,Q a s->Q' a s):wpAny M A t Q' E s:=Qz h hQ λ_ _ x=>x
section
variable {X:Cx}
def bin{ta tb}(ha:PE X a ta)(hb:PE X b tb){pins}{s}{σ:St}{H}{R:V->V->Hp->Prop}(I:Inv X pins σ H s)(h:ta σ H λx H1=>tb σ H1 λy H2=>R x y H2){α}{Q}{f:Value->Value->Sem α}(hf:∀v u s2 x y H2,Inv X pins σ H2 s2->RelV x v->RelV y u->R x y H2->wpAny (model X.prog X.w) X.A (f v u) Q X.xe s2) :
  wpAny (model X.prog X.w) X.A (eval a X.env) (λv s₁=>wpAny (model X.prog X.w) X.A (eval b X.env) (λu s₂=>wpAny (model X.prog X.w) X.A (f v u) Q X.xe s₂) X.xe s₁) X.xe s:=by
 refine thn (ha pins s σ H _ I h) λv s1 ⟨x,H1,I1,r1,q1⟩=>?_;refine thn (hb pins s1 σ H1 _ I1 q1) λu s2 ⟨y,H2,I2,r2,q2⟩=>?_
 grind
noncomputable def Kz(i:Nat):TE:=λσ H Q=>∃v,σ[i]?=some (some v)/\Q v H
noncomputable def tC(v:V):TE:=λ_ H Q=>Q v H
def Zlu{pos}(hN:X.N[i]?=some x)(hv:Vis X.env.scope x)(hd:autoParam ((x==("__debug__" : Str))=false) au_1)(hcd:autoParam ((x==("__classdict__" : Str))=false) au_1):PE X (.Name x pos) (Kz i):=by
 intro pins s σ H Q I h;obtain⟨v,e,h⟩:=h;obtain⟨m,hn,hl⟩:=I.loc;obtain⟨u,r,l⟩:=hl i x v hN e hv;have fin:EP X pins σ Q u s:=⟨v,H,I,r,h⟩;rcases l with⟨hk,hm⟩|⟨hk,c,hc,hcell⟩
 ·exact wpAny_Name (wpAny_loadName_local I.ok.kind hk hn hm fin) hd
 ·rcases hk with hk|hk
  ·exact wpAny_Name (wpAny_loadName_cell I.ok.kind hk hc hcell fin) hd
  ·exact wpAny_Name (wpAny_loadName_free I.ok.kind hk hc hcell fin hcd) hd
def Xt:PE X (.Constant (.int i) j pos) (tC<|.int i):=λ_ _ _ H _ I h=>wpAny_Constant_int ⟨.int i,H,I.tok _,⟨_,rfl⟩,h⟩
def Py:PE X (.Constant (.bool b) j pos) (tC<|.bl b):=λ_ _ _ H _ I h=>Constant_bool ⟨.bl b,H,I,rfl,h⟩
def TM:PE X (.Constant (.str x) j pos) (tC<|.str x):=λ_ _ _ H _ I h=>Calls.Constant_str ⟨.str x,H,I.tok _,⟨_,rfl⟩,h⟩
def Gl(X:Cx)(x:Str):Prop:=X.env.kindOf x=some .globalImplicit
def NX{pins}{s}{σ:St}{H}{x}{u}{pos}{Q}(I:Inv X pins σ H s)(hg:Gl X x)(hm:X.mg x=some u)(h:Q u s)(hd:autoParam ((x==("__debug__" : Str))=false) au_1):wpAny (model X.prog X.w) X.A (eval (.Name x pos) X.env) Q E s:=
 Calls.Name_function_global I.ok.kind hg (Calls.loadGlobal_global (by rw[I.ok.glob];exact I.mod.glob.keeps I.bk) hm h) hd
def B4{E}{pins}{s}{σ:St}{H}{x}{u}{pos}{Q}(I:Inv X pins σ H s)(hg:Gl X x)(hm:X.mg x=none)(hv:bootBuiltins x=some u)(h:Q u s)(hn:autoParam (x≠"__name__") au_1)(hd:autoParam ((x==("__debug__" : Str))=false) au_1):wpAny (model X.prog X.w) X.A (eval (.Name x pos) X.env) Q E s:=by
 obtain⟨mb,h1,h2⟩:=I.mod.blt;exact Calls.Name_function_global I.ok.kind hg (Calls.loadGlobal_builtin (by rw[I.ok.glob];exact I.mod.glob.keeps I.bk) hm (by rw[I.ok.blt];exact h1.keeps I.bk) ((h2 x hn).trans hv) h) hd
def Mb{u pos}(hg:Gl X x)(hm:X.mg x=some u)(r:RelV v u)(hd:autoParam ((x==("__debug__" : Str))=false) au_1):PE X (.Name x pos) (tC v):=
 λ_ _ _ H _ I h=>NX I hg hm ⟨v,H,I,r,h⟩ hd
def T1{u pos}(hg:Gl X x)(hm:X.mg x=none)(hv:bootBuiltins x=some u)(r:RelV v u)(hn:autoParam (x≠"__name__") au_1)(hd:autoParam ((x==("__debug__" : Str))=false) au_1):PE X (.Name x pos) (tC v):=
 λ_ _ _ H _ I h=>B4 I hg hm hv ⟨v,H,I,r,h⟩ hn hd
variable {a b:Expr}{ta tb:TE}{pos:Pos}
def PC(X:Cx)(op:CmpOp)(a b:Expr)(t:TE):Prop:=
 ∀(pins:Ym) (s:Shared) (σ:St) (H:Hp) (Q:VK),Inv X pins σ H s->t σ H Q->
  wpAny (model X.prog X.w) X.A (eval a X.env) (λv s₁=>wpAny (model X.prog X.w) X.A (eval b X.env) (λu s₂=>wpAny (model X.prog X.w) X.A (compareOp op v u) (EP X pins σ Q) X.xe s₂) X.xe s₁) X.xe s
def Zeg(b:Expr){op}(h:op≠.In)(h2:op≠.NotIn):behindInMarks op b=false:=by
 have e1:(op==CmpOp.In)=false:=by grind
 have e2:(op==CmpOp.NotIn)=false:=by grind
 cases b<;>simp[behindInMarks,e1,e2]
noncomputable def tB(t:TE):TT:=λσ H Q=>t σ H λx H1=>∃c,x=.bl c/\Q c H1
def Zl3(h:PC X op a b t)(h1:behindInMarks op b=false:=by first|exact Zeg _ (by decide) (by decide)|rfl):PT X (.Compare a [op] [b] pos) (tB t):=by
 intro pins s σ H Q I hw;refine wpAny_isTrue_Compare1 (thn (h pins s σ H _ I hw) λv s1 h1=>thn h1 λu s2 h2=>thn h2 ?_) h1;rintro c s3 ⟨x,H1,I1,r1,q1⟩;obtain⟨d,rfl,q⟩:=q1;cases r1
 exact Vw ⟨H1,I1,q⟩
variable {tA tB':TT}{rest:Yt}
noncomputable def HH(t u:TT):TT:=λσ H Q=>t σ H λc H1=>if c=true then u σ H1 Q else Q false H1
noncomputable def tOr(t u:TT):TT:=λσ H Q=>t σ H λc H1=>if c=true then Q true H1 else u σ H1 Q
noncomputable def DT(t:TT):TT:=λσ H Q=>t σ H λc H1=>Q (!c) H1
def Znp(ha:PT X a tA):PW X (.BoolOp .And [a] pos) tA:=by
 intro wh pins s σ H Q I h;refine isTrue_and (thn (ha pins s σ H Q I h) λc s1 e=>?_);cases c with
 |true=>exact isTrue_and_nil e
 |false=>exact e
def Zlr(ha:PT X a tA):PW X (.BoolOp .Or [a] pos) tA:=by
 intro wh pins s σ H Q I h;refine isTrue_or (thn (ha pins s σ H Q I h) λc s1 e=>?_);cases c with
 |false=>exact isTrue_or_nil e
 |true=>exact e
def Zbj(ha:PT X a tA)(hb:PW X (.BoolOp .And (b::rest) pos) tB'):PW X (.BoolOp .And (a::b::rest) pos) (HH tA tB'):=by
 intro wh pins s σ H Q I h;refine isTrue_and (thn (ha pins s σ H _ I h) λc s1 ⟨H1,I1,q1⟩=>?_);cases c with
 |true=>exact hb wh pins s1 σ H1 Q I1 q1
 |false=>trivial
def Zon(ha:PT X a tA)(hb:PW X (.BoolOp .Or (b::rest) pos) tB'):PW X (.BoolOp .Or (a::b::rest) pos) (tOr tA tB'):=by
 intro wh pins s σ H Q I h;refine isTrue_or (thn (ha pins s σ H _ I h) λc s1 ⟨H1,I1,q1⟩=>?_);cases c with
 |true=>trivial
 |false=>exact hb wh pins s1 σ H1 Q I1 q1
def A9(ha:PT X a tA):PT X (.UnaryOp .Not a pos) (DT tA):=by
 intro pins s σ H Q I h;exact isTrue_not (ha pins s σ H (λc H1=>Q (!c) H1) I h)
noncomputable def LU(ta tb:TE):TE:=λσ H Q=>ta σ H λx H1=>∃c,x=.bl c/\if c=true then tb σ H1 Q else Q (.bl false) H1
noncomputable def Lh(ta:TE):TE:=λσ H Q=>ta σ H λx H1=>∃c,x=.bl c/\Q (.bl (!c)) H1
def AY{t}(h:PE X a t):PE X (.BoolOp op [a] pos) t:=by trivial
def AS(ha:PE X a ta)(hb:PE X (.BoolOp .And (b::rest) pos) tb):PE X (.BoolOp .And (a::b::rest) pos) (LU ta tb):=by
 intro pins s σ H Q I h;refine BoolOp_and (thn (ha pins s σ H _ I h) ?_);rintro v s1 ⟨x,H1,I1,r1,q1⟩;obtain⟨c,rfl,q1⟩:=q1;cases r1
 refine Vw ?_;cases c with
 |true=>exact hb pins s1 σ H1 Q I1 q1
 |false=>exact⟨.bl false,H1,I1,rfl,q1⟩
def M5(ha:PE X a ta):PE X (.UnaryOp .Not a pos) (Lh ta):=by
 intro pins s σ H Q I h;refine UnaryOp_ (thn (ha pins s σ H _ I h) ?_);rintro v s1 ⟨x,H1,I1,r1,q1⟩;obtain⟨c,rfl,q1⟩:=q1;cases r1
 exact not_of (Vw ⟨.bl (!c),H1,I1,rfl,q1⟩)
end
def SqL(K:Yj)(H:Hp)(a:Addr)(xs:List V):Prop:=
 Rd H a (.lst xs)\/
  ∃(o:Obj) (its:Array Value) (n:Nat),K.lookup a=some o/\o.cls=.type "list"/\o.dict=none/\o.data=.seq its n/\its.size<=sizeLine/\Vals xs its.toList
def SqT(K:Yj)(H:Hp)(a:Addr)(xs:List V):Prop:=
 Rd H a (.tup xs)\/
  ∃(o:Obj) (its:Array Value) (n:Nat),K.lookup a=some o/\o.cls=.type "tuple"/\o.data=.seq its n/\its.size<=sizeLine/\Vals xs its.toList
noncomputable def R8:Value->Option V
 | .none=>some .non
 | .bool b=>some (.bl b)
 | .int i _=>some (.int i)
 | .str x _=>some (.str x)
 | .bytes b _=>some (.byt b)
 | .float b _=>some (.flt b)
 | .ref a=>some (.ref a)
 | .type n=>some (.ty n)
 |_=>none
def RelV.abs (r:RelV x u):R8 u=some x:=by
 cases x with
 |non|bl _|ref _|ty _=>cases r;rfl
 |_=>obtain⟨t,rfl⟩:=r;rfl
def RelV.inj {u} (r:RelV x u) (q:RelV y u):x=y:=WW (r.abs.symm.trans q.abs)
def Vals.inj:∀{xs ys}{us:Yr},Vals xs us->Vals ys us->xs=ys:=by
 intro ds
 induction ds with
 |nil=>
  intro _ _ h g;cases h
  cases g
  rfl
 |cons _ _ ih=>
  intro _ _ h g;cases h with
  |cons h r=>
   cases g with
   |cons r' t'=>rw[h.inj r',ih r t']
section
variable {X:Cx}{pins:Ym}{σ:St}{H:Hp}{s:Shared}{a:Addr}{xs ys:List V}
def SqL.of {K} (h:H a=some (.lst xs)):SqL K H a xs:=.inl (.inl h)
def SqT.of {K} (h:H a=some (.tup xs)):SqT K H a xs:=.inl (.inl h)
def Inv.list (I:Inv X pins σ H s) (h:SqL X.K H a xs):∃its,Vals xs its/\PlainL s.heap a its.toArray/\xs.length<=sizeLine:=by
 rcases h with h|⟨o,its,n,hk,hc,hd,hs,hz,r⟩
 ·obtain⟨z,its,n,r,e⟩:=h.ok I.hok;exact⟨its,r,⟨_,n,e,rfl,rfl,rfl⟩,z⟩
 ·refine⟨its.toList,r,⟨o,n,I.kIn a o hk,hc,hd,by simpa using hs⟩,?_⟩;have e:=r.length
  grind
def Inv.tuple (I:Inv X pins σ H s) (h:SqT X.K H a xs):∃its,Vals xs its/\IsTup s.heap a its.toArray/\xs.length<=sizeLine:=by
 rcases h with h|⟨o,its,n,hk,hc,hs,hz,r⟩
 ·obtain⟨z,its,r,p⟩:=h.ok I.hok
  grind
 ·refine⟨its.toList,r,⟨o,I.kIn a o hk,hc,n,by simpa using hs⟩,?_⟩;have e:=r.length
  grind
def Inv.list_inj (I:Inv X pins σ H s) (h:SqL X.K H a xs) (h':SqL X.K H a ys):xs=ys:=by
 obtain⟨its,r,⟨o,n,e,_,_,d⟩,_⟩:=I.list h;obtain⟨its',r',⟨o',n',e',_,_,d'⟩,_⟩:=I.list h'
 have:its=its':=by grind
 subst this;exact r.inj r'
def Inv.tuple_inj (I:Inv X pins σ H s) (h:SqT X.K H a xs) (h':SqT X.K H a ys):xs=ys:=by
 obtain⟨its,r,⟨o,e,_,n,d⟩,_⟩:=I.tuple h;obtain⟨its',r',⟨o',e',_,n',d'⟩,_⟩:=I.tuple h'
 have:its=its':=by grind
 subst this;exact r.inj r'
end
noncomputable abbrev Cx.wish (X:Cx) (E:Yo):Cx:={X with xe:=E}
noncomputable abbrev Cx.nox (X:Cx):Cx:=X.wish λ_ _=>False
def Cx.Ok.wish {X:Cx} (ok:X.Ok) (E:Yo):(X.wish E).Ok:=
 ⟨ok.mod,ok.kind,ok.glob,ok.blt,ok.above,ok.inj,ok.has,ok.cab,ok.hd,ok.frames,ok.stk,ok.exf,ok.bs,ok.bsz,ok.noex,ok.exfs,ok.funs,ok.frf⟩
def Cx.Ok.unwish {X:Cx}{E} (ok:(X.wish E).Ok):X.Ok:=
 ⟨ok.mod,ok.kind,ok.glob,ok.blt,ok.above,ok.inj,ok.has,ok.cab,ok.hd,ok.frames,ok.stk,ok.exf,ok.bs,ok.bsz,ok.noex,ok.exfs,ok.funs,ok.frf⟩
section
variable {X:Cx}{pins:Ym}{σ:St}{H:Hp}{s:Shared}{E:Yo}
def Inv.wish (I:Inv X pins σ H s) (E:Yo):Inv (X.wish E) pins σ H s:=⟨I.ok.wish E,I.os,I.bare,I.base,I.loc,I.cell,I.free,I.freeC,I.pin,I.hok,I.len⟩
def Inv.unwish (I:Inv (X.wish E) pins σ H s):Inv X pins σ H s:=⟨I.ok.unwish,I.os,I.bare,I.base,I.loc,I.cell,I.free,I.freeC,I.pin,I.hok,I.len⟩
def SP.unwish (h:SP (X.wish E) pins D f s'):SP X pins D f s':=by
 cases f with
 |ret u=>obtain⟨v,σ',H',I,r,q⟩:=h;exact⟨v,σ',H',I.unwish,r,q⟩
 |_=>obtain⟨σ',H',I,q⟩:=h;exact⟨σ',H',I.unwish,q⟩
def PSs.nox {st t} (h:PSs X.nox st t):PSs X st t:=λpins s σ H D I hw=>
 Qz (h pins s σ H D (I.wish _) hw) (λ_ _ q=>q.unwish) λ_ _ z=>False.elim z
end
section
variable {X:Cx}{st:Stmt}{rest:Yu}{t u:TS}{e:Expr}{te:TE}{pos:Pos}
noncomputable def HL:TS:=λD σ H=>D.nx σ H
noncomputable def HZ(t u:TS):TS:=λD σ H=>t {D with nx:=u D} σ H
def FZ:PSs X [] HL:=λ_ _ σ H _ I h=>J1 ⟨σ,H,I,h⟩
def HW(h1:PS X st t)(h2:PSs X rest u):PSs X (st::rest) (HZ t u):=by
 intro pins s σ H D I h;refine wpAny_execs_cons (thn (h1 pins s σ H {D with nx:=u D} I h) λf s1 q=>?_)
 cases f with
 |next=>
  obtain⟨σ',H',I',q⟩:=q;exact h2 pins s1 σ' H' D I' q
 |_=>exact q
def Na(h1:PS X st t):PSs X [st] t:=by
 intro pins s σ H D I h;refine wpAny_execs_cons (thn (h1 pins s σ H D I h) λf s1 q=>?_);cases f with
 |next=>exact J1 q
 |_=>omega
def Inv.quiet {σ:St}{H}{s} (I:Inv X pins σ H s):interactive X.env=false:=by simp[interactive,I.ok.kind]
noncomputable def Be(te:TE):TS:=λD σ H=>te σ H λ_ H1=>D.nx σ H1
def Pe(he:PE X e te)(hs:autoParam (swapsWith e none pos.line X.env=pure false) au_0):PS X (.Expr e pos) (Be te):=by
 intro pins s σ H D I h;exact wpAny_Expr_any (thn (he pins s σ H _ I h) λv s1 ⟨x,H1,I1,r1,q1⟩=>⟨σ,H1,I1,q1⟩) I.quiet hs
noncomputable def Sd(te:TE):TS:=λD σ H=>te σ H D.rt
def Ks(he:PE X e te):PS X (.Return (some e) pos) (Sd te):=by
 intro pins s σ H D I h;exact wpAny_Return_some (thn (he pins s σ H _ I h) λv s1 ⟨x,H1,I1,r1,q1⟩=>⟨x,σ,H1,I1,r1,q1⟩)
noncomputable def AL(c:TT)(t u:TS):TS:=λD σ H=>c σ H λb H1=>if b=true then t D σ H1 else u D σ H1
def Dg{tc}(hc:PT X c tc)(ha:PSs X a t)(hb:PSs X b u):PS X (.If c a b pos) (AL tc t u):=by
 intro pins s σ H D I h;refine wpAny_If (thn (hc pins s σ H _ I h) ?_);rintro d s1 ⟨H1,I1,q1⟩;cases d with
 |true=>exact ha pins s1 σ H1 D I1 q1
 |false=>exact hb pins s1 σ H1 D I1 q1
end
abbrev TG:=V->St->Hp->(St->Hp->Prop)->Prop
abbrev TGs:=List V->St->Hp->(St->Hp->Prop)->Prop
def PG(X:Cx)(target:Expr)(t:TG):Prop:=
 ∀(pins:Ym) (s:Shared) (σ:St) (H:Hp) (v:V) (u:Value) (Q:St->Hp->Prop),Inv X pins σ H s->RelV v u->t v σ H Q->
  wpAny (model X.prog X.w) X.A (assign target X.env u) (λ_ s'=>∃σ' H',Inv X pins σ' H' s'/\Q σ' H') X.xe s
def PGs(X:Cx)(ts:Yt)(t:TGs):Prop:=
 ∀(pins:Ym) (s:Shared) (σ:St) (H:Hp) (vs:List V) (us:Yr) (Q:St->Hp->Prop),Inv X pins σ H s->Vals vs us->t vs σ H Q->
  wpAny (model X.prog X.w) X.A (assignInOrder ((assignEach ts X.env).map (·.2)) us) (λ_ s'=>∃σ' H',Inv X pins σ' H' s'/\Q σ' H') X.xe s
abbrev MX:=V->V->V->Hp->(Hp->Prop)->Prop
def L6(X:Cx)(t:MX):Prop:=
 ∀(pins:Ym) (s:Shared) (σ:St) (H:Hp) (o i v:V) (ov iv u:Value) (Q:Hp->Prop),Inv X pins σ H s->RelV o ov->RelV i iv->RelV v u->t o i v H Q->
  wpAny (model X.prog X.w) X.A (setItem ov iv u) (λ_ s'=>∃H',Inv X pins σ H' s'/\Q H') X.xe s
abbrev TIp:=V->V->Hp->VK->Prop
def PIp(X:Cx)(op:Operator)(t:TIp):Prop:=
 ∀(pins:Ym) (s:Shared) (σ:St) (H:Hp) (x y:V) (v u:Value) (Q:VK),Inv X pins σ H s->RelV x v->RelV y u->t x y H Q->
  wpAny (model X.prog X.w) X.A (inplaceOp op v u) (EP X pins σ Q) X.xe s
section
variable {X:Cx}{pos:Pos}
noncomputable def Sm(i:Nat):TG:=λv σ H Q=>Q (σ.set i<|some v) H
def EC(hN:X.N.Nodup)(hi:X.N[i]?=some x)(hx:Loc X.env.scope x)(hf:autoParam (X.fn x=true\/X.env.scope.names.lookup x=some .local) au_2):PG X (.Name x pos) (Sm i):=by
 intro pins s σ H v u Q I r h;exact wpAny_assign_Name (SE I hN hi hx r (λs' I'=>⟨_,H,I',h⟩) hf)
noncomputable def Rj:TGs:=λvs σ H Q=>vs=[]/\Q σ H
noncomputable def Lc(t:TG)(u:TGs):TGs:=λvs σ H Q=>∃v r,vs=v::r/\t v σ H λσ' H'=>u r σ' H' Q
def AO:PGs X [] Rj:=by
 intro pins s σ H vs us Q I r h;obtain⟨e,h⟩:=h;exact assignInOrder_nil ⟨σ,H,I,h⟩
def SZ{t u}(h1:PG X e t)(h2:PGs X es u)(hs:autoParam ((assignEach (e::es) X.env).map (·.2)=assign e X.env::(assignEach es X.env).map (·.2)) au_0):PGs X (e::es) (Lc t u):=by
 intro pins s σ H vs us Q I r h;obtain⟨v,vr,e1,h⟩:=h;subst e1;cases r with
 |cons r rr=>
  rw[hs];refine assignInOrder_cons (thn (h1 pins s σ H _ _ _ I r h) ?_);rintro _ s1 ⟨σ1,H1,I1,q1⟩;exact h2 pins s1 σ1 H1 _ _ Q I1 rr q1
noncomputable def A6(K:Yj)(n:Nat)(t:TGs):TG:=λv σ H Q=>∃a xs,v=.ref a/\SqT K H a xs/\xs.length=n/\t xs σ H Q
def Zeb{k t n}(hc:X.calm=true)(h:PGs X es t)(hn:autoParam ((assignEach es X.env).length=n) au_0)(hst:autoParam ((assignEach es X.env).findIdx? (·.1)=none) au_0):PG X (.Tuple es k pos) (A6 X.K n t):=by
 intro pins s σ H v u Q I r hw;obtain⟨a,xs,e1,hq,hl,hw⟩:=hw;subst e1;cases r
 obtain⟨its,rv,ht,hz⟩:=I.tuple hq;refine assign_Tuple_tuple (I.ok.hd hc) ht (by simp[hn,←hl,rv.length]) hst λh' hx=>?_;have I1:Inv X pins σ H {s with heap:=h'}:=I.kept λb o e=>hx b o (Qk<|WT e) e
 exact h pins _ σ H xs _ Q I1 (by omega) hw
noncomputable def IF(to ti:TE)(t:MX):TG:=λv σ H Q=>to σ H λo H1=>ti σ H1 λi H2=>t o i v H2 λH3=>Q σ H3
def Zjt{to ti t}(ho:PE X o to)(hi:PE X i ti)(hs:L6 X t)
  (ha:autoParam (∀v,assign (.Subscript o i pos) X.env v=(do
   let ov ←holding [v] (eval o X.env)
   let iv ←holding [v,ov] (eval i X.env)
   standAt pos
   holding [v,ov,iv] (setItem ov iv v)
   release [v,ov,iv] [])) au_3):PG X (.Subscript o i pos) (IF to ti t):=by
 intro pins s σ H v u Q I r h;rw[ha];refine WE (QR<|thn (ho pins s σ H _ I h) ?_);rintro ov s1 ⟨x,H1,I1,r1,q1⟩;refine WE (QR<|thn (hi pins s1 σ H1 _ I1 q1) ?_);rintro iv s2 ⟨y,H2,I2,r2,q2⟩;refine WE (VS<|WE<|QR<|thn (hs pins s2 σ H2 x y v ov iv u _ I2 r1 r2 r q2) ?_);rintro _ s3 ⟨H3,I3,q3⟩;exact wpAny_release ⟨σ,H3,I3,q3⟩
noncomputable def N2(te:TE)(g:TG):TS:=λD σ H=>te σ H λx H1=>g x σ H1 D.nx
def Zlx{tg e te g}(he:PE X e te)(hg:PG X tg g)(hs:autoParam (swapsWithSole [tg] e pos.line X.env=pure false) au_0)(hw:autoParam (swappedStores [tg] e X.env=pure none) au_0)(h1:autoParam ((assignEach [tg] X.env).map (·.2)=[assign tg X.env]) au_0):PS X (.Assign [tg] e pos) (N2 te g):=by
 intro pins s σ H D I h;refine wpAny_Assign_stores (thn (he pins s σ H _ I h) ?_) hs hw;rintro v s1 ⟨x,H1,I1,r1,q1⟩;rw[h1];exact thn (hg pins s1 σ H1 x v _ I1 r1 q1) λ_ s2 q=>q
def Zf6(hN:X.N.Nodup)(hi:X.N[i]?=some x)(hx:Loc X.env.scope x)(he:PE X e te)(hs:autoParam (swapsWith e (some<|.Name x pos') pos.line X.env=pure false) au_0)(hf:autoParam (X.fn x=true\/X.env.scope.names.lookup x=some .local) au_2) :
  PS X (.Assign [.Name x pos'] e pos) (N2 te<|Sm i):=by
 intro pins s σ H D I h;refine wpAny_Assign_Name (thn (he pins s σ H _ I h) λv s1 ⟨y,H1,I1,r1,q1⟩=>?_) hs;exact SE I1 hN hi hx r1 (λs2 I2=>⟨_,H1,I2,q1⟩) hf
noncomputable def Gc(i:Nat)(te:TE)(ti:TIp):TS:=λD σ H=>∃x,σ[i]?=some (some x)/\te σ H λy H1=>ti x y H1 λz H2=>D.nx (σ.set i<|some z) H2
def Zmh(hN:X.N.Nodup)(hi:X.N[i]?=some x)(hx:Loc X.env.scope x)(he:PE X e te)(ho:PIp X op ti)(hf:autoParam (X.fn x=true\/X.env.scope.names.lookup x=some .local) au_2) :
  PS X (.AugAssign (.Name x pos') op e pos) (Gc i te ti):=by
 intro pins s σ H D I h;obtain⟨v,e1,h⟩:=h;obtain⟨m,hn,hl⟩:=I.loc;have vis:Vis X.env.scope x:=by rcases hx with k|k;exact .inl k;exact .inr (.inl k)
 obtain⟨u,r,l⟩:=hl i x v hi e1 vis;refine wpAny_AugAssign_Name ?_
 have go:wpAny (model X.prog X.w) X.A (eval e X.env) (λw s₂=>wpAny (model X.prog X.w) X.A (inplaceOp op u w) (λr s₃=>wpAny (model X.prog X.w) X.A (storeName X.env x r) (λ_=>SP X pins D .next) X.xe s₃) X.xe s₂) X.xe s:=by
  refine thn (he pins s σ H _ I h) λw s1 ⟨y,H1,I1,r1,q1⟩=>?_;refine thn (ho pins s1 σ H1 v y u w _ I1 r r1 q1) λz s2 ⟨zv,H2,I2,r2,q2⟩=>?_;exact SE I2 hN hi hx r2 (λs3 I3=>⟨_,H2,I3,q2⟩) hf
 rcases l with⟨hk,hm⟩|⟨hk,c,hc,hcell⟩
 ·exact wpAny_loadName_local I.ok.kind hk hn hm go
 ·rcases hk with hk|hk
  ·exact wpAny_loadName_cell I.ok.kind hk hc hcell go
  ·rcases hx with k|k
   ·have:X.env.scope.names.lookup x=some .free:=hk
    grind
   ·have:X.env.scope.names.lookup x=some .free:=hk
    rw[k]at this;cases this
noncomputable def ipI(f:Int->Int->Int):TIp:=λx y H Q=>∃i j,x=.int i/\y=.int j/\Q (.int<|f i j) H
def Lz:PIp X .Add (ipI λi j=>i+j):=by
 intro pins s σ H x y v u Q I r1 r2 h;obtain⟨i,j,e1,e2,q⟩:=h;subst e1;subst e2;obtain⟨t,rfl⟩:=r1;obtain⟨t',rfl⟩:=r2;exact iadd_int ⟨.int _,H,I.tok _,⟨_,rfl⟩,q⟩
noncomputable def O8(c:TT)(tb:TS):TS:=λD σ H=>∃W:Nat->St->Hp->Prop,(∃m,W m σ H)/\∀m σ H,W m σ H->
 c σ H λb H1=>if b=true then ∃N:St->Hp->Prop,(∀σ' H',N σ' H'->∃m',m'<m/\W m' σ' H')/\tb {D with nx:=N,ct:=N,bk:=D.nx} σ H1 else D.nx σ H1
def Zj3{tc tb}(hp:PassesOwn (model X.prog X.w) X.A X.env X.xe)(hc:PT X c tc)(hb:PSs X body tb):PS X (.While c body [] pos) (O8 tc tb):=by
 intro pins s σ H D I h;obtain⟨W,⟨m0,w0⟩,turn⟩:=h;refine wpAny_While (codeAny_whileLoop (λn s'=>∃σ' H',Inv X pins σ' H' s'/\W n σ' H') ?_ m0 ⟨σ,H,I,w0⟩);rintro n s1 ⟨σ1,H1,I1,w1⟩;refine Vq hp (thn (hc pins s1 σ1 H1 _ I1<|turn n σ1 H1 w1) λb s2 ⟨H2,I2,q2⟩=>?_);cases b with
 |true=>
  obtain⟨N,hN,q2⟩:=q2;refine Vq hp (thn (hb pins s2 σ1 H2 _ I2 q2) λf s3 q3=>?_);cases f with
  |brk|ret v=>exact q3
  |_=>
   obtain⟨σ3,H3,I3,n3⟩:=q3
   grind
 |false=>
  exact J1 ⟨σ1,H2,I2,q2⟩
end
structure It where
 go:Nat->Hp->Prop
 yld:Nat->Hp->V->Hp->Prop
 stop:Nat->Hp->Prop
def TZ(X:Cx)(pins:Ym)(H:Hp)(b:Addr):Prop:=
 H b=none/\b≠X.env.locals/\b∉X.fs/\(b∈X.ex\/X.s₀.heap.objs.size<=b)/\(∀x c,X.env.cells.lookup x=some c->c≠b)/\∀p∈X.pn++pins,p.1≠b
def Inv.fpOk {σ:St}{H H'}{s}{b:Addr} (I:Inv X pins σ H s) (hb:s.heap.objs.size<=b) (hn:H' b=none):TZ X pins H' b:=by
 refine⟨hn,JS (Qq I.lt hb),I.nofs hb,.inr (WU I.sz hb),λx c e z=>?_,λp hp z=>?_⟩
 ·obtain⟨v,q⟩:=I.cell x c e;exact absurd (Qq q.lt<|by grind) (QP _)
 ·exact absurd (Qq (WT (I.pin p hp).1)<|by grind) (QP _)
structure Turn (P:Program) (w:World) (K:Yj) (tg:Expr) (J:It) (fp:List Addr) (it:Addr) (tn:Nat->Heap->Prop):Prop where
 mem:it∈fp
 obj:∀i h,tn i h->∀b∈fp,∃o,h.get? b=some o/\∀v,o.data≠.cell v
 keep:∀i h h',tn i h->(∀b∈fp,∀o,h.get? b=some o->h'.get? b=some o)->tn i h'
 item:∀(X:Cx),X.prog=P->X.w=w->X.K=K->X.calm=true->∀(i:Nat) (pins:Ym) (s:Shared) (σ:St) (H:Hp) (E:Yo),Inv X pins σ H s->(∀b∈fp,TZ X pins H b)->tn i s.heap->J.go i H->
  wpAny (model P w) X.A (pyNext<|.ref it) (λr s1=>∃u,r=some u/\
   wpAny (model P w) X.A (letOwnedTupleGo tg (.ref it) u) (λ_ s2=>∃x H',Inv X pins σ H' s2/\RelV x u/\J.yld i H x H'/\tn (i+1) s2.heap/\∀b∈fp,H' b=none) E s1) E s
 done:∀(X:Cx),X.prog=P->X.w=w->X.K=K->X.calm=true->∀(i:Nat) (pins:Ym) (s:Shared) (σ:St) (H:Hp) (E:Yo),Inv X pins σ H s->(∀b∈fp,TZ X pins H b)->tn i s.heap->J.stop i H->
  wpAny (model P w) X.A (pyNext<|.ref it) (λr s1=>r=none/\Inv X pins σ H s1) E s
 self:∀(A:Around) (i:Nat) (s:Shared) (Q:Yo) (E:Yo),tn i s.heap->Q (.ref it) s->wpAny (model P w) A (pyIter<|.ref it) Q E s
abbrev TI:=St->Hp->(It->Hp->Prop)->Prop
def PIE(X:Cx)(pins:Ym)(σ:St)(tg:Expr)(R:It->Hp->Prop)(itv:Value)(s2:Shared):Prop:=
 ∃(it:Addr) (fp:List Addr) (tn:Nat->Heap->Prop) (J:It) (H':Hp),itv=.ref it/\Inv X pins σ H' s2/\Turn X.prog X.w X.K tg J fp it tn/\tn 0 s2.heap/\(∀b∈fp,TZ X pins H' b)/\R J H'
def PI(X:Cx)(tg iter:Expr)(wi:TI):Prop:=
 ∀(pins:Ym) (s:Shared) (σ:St) (H:Hp) (R:It->Hp->Prop),Inv X pins σ H s->wi σ H R->
  wpAny (model X.prog X.w) X.A (eval iter X.env) (λv s1=>wpAny (model X.prog X.w) X.A (pyIter v) (PIE X pins σ tg R) X.xe s1) X.xe s
def CC {s tg it u o n vs Q} (ho : s.heap.get? it = some o) (hc : o.cls = .type n) (hd : o.data = .fields vs)
    (hn : ["enumerate", "zip", "dict_itemiterator", "dict_reverseitemiterator", "odict_iterator", "itertools.zip_longest", "itertools.pairwise"].contains n = false) (hQ : Q () s) : wpAny M A (letOwnedTupleGo tg (.ref it) u) Q E s := by
  cases tg <;> first
    | exact WL hQ
    | (cases u <;> first
        | exact WL hQ
        | (refine WE (wpAny_load ho ?_)
           rw [hc, hd]
           show wpAny M A (if (["enumerate", "zip", "dict_itemiterator", "dict_reverseitemiterator", "odict_iterator", "itertools.zip_longest", "itertools.pairwise"].contains n && vs[0]? == some (rawInt _)) = true then _ else _) Q E s
           rw [WN (by grind)]
           exact WL hQ))
noncomputable def Itl(K:Yj)(a:Addr):It:=
 ⟨λi H=>∃xs x,SqL K H a xs/\xs[i]?=some x,λi H x H'=>H'=H/\∀xs,SqL K H a xs->xs[i]?=some x,λi H=>∃xs,SqL K H a xs/\xs.length<=i⟩
noncomputable def Itt(K:Yj)(a:Addr):It:=
 ⟨λi H=>∃xs x,SqT K H a xs/\xs[i]?=some x,λi H x H'=>H'=H/\∀xs,SqT K H a xs->xs[i]?=some x,λi H=>∃xs,SqT K H a xs/\xs.length<=i⟩
noncomputable def Itr(lo:Int)(n:Nat):It:=⟨λi _=>i<n,λi H x H'=>H'=H/\x=.int (lo+i),λi _=>n<=i⟩
def RC{K tg}(a it:Addr):Turn P w K tg (Itl K a) [it] it (λi h=>h.IsListIter it a i) where
 mem:=by simp
 obj:=λi h st b hb=>by
  have e:b=it:=by simpa using hb
  subst e;obtain⟨o,e,c,d⟩:=st;exact⟨o,e,λv z=>by rw[d]at z;cases z⟩
 keep:=λi h h' st k=>st.at λo e=>k it (by simp) o e
 item:=by
  intro X hP hw hK hc i pins s σ H E I hf st hg;subst hP hw hK;obtain⟨xs,x,hq,hx⟩:=hg;obtain⟨its,rv,p,hz⟩:=I.list hq;obtain⟨u,hu,ru⟩:=rv.get hx;obtain⟨f0,f1,f2,f3,f4,f5⟩:=hf it (by simp);refine wpAny_pyNext_list_item st p.isList (by simpa using hu) λh' st' sb=>?_;have I1:Inv X pins σ H {s with heap:=h'}:=I.turned (λb o hb e=>(sb.2 b hb).trans e) f0 f1 f3 f4 f5
  obtain⟨o,e,c,d⟩:=id st';exact⟨u,rfl,CC e c d (by decide) ⟨x,H,I1,ru,⟨rfl,λys hy=>by rw[I.list_inj hy hq];exact hx⟩,st',λb hb=>(hf b hb).1⟩⟩
 done:=by
  intro X hP hw hK hc i pins s σ H E I hf st hg;subst hP hw hK;obtain⟨xs,hq,hx⟩:=hg;obtain⟨its,rv,p,hz⟩:=I.list hq;obtain⟨f0,f1,f2,f3,f4,f5⟩:=hf it (by simp);have hl:=rv.length;exact wpAny_pyNext_list_end (I.ok.hd hc) st p.isList (by simp;omega) λh' eb=>⟨rfl,I.turned (λb o hb e=>eb b o hb e) f0 f1 f3 f4 f5⟩
 self:=λ_ _ _ _ _ st h=>wpAny_pyIter_listiter st h
def Zln{K tg}(a it:Addr):Turn P w K tg (Itt K a) [it] it (λi h=>h.IsTupleIter it a i) where
 mem:=by simp
 obj:=λi h st b hb=>by
  have e:b=it:=by simpa using hb
  subst e;obtain⟨o,e,c,d⟩:=st;exact⟨o,e,λv z=>by rw[d]at z;cases z⟩
 keep:=λi h h' st k=>st.at λo e=>k it (by simp) o e
 item:=by
  intro X hP hw hK hc i pins s σ H E I hf st hg;subst hP hw hK;obtain⟨xs,x,hq,hx⟩:=hg;obtain⟨its,rv,p,hz⟩:=I.tuple hq;obtain⟨u,hu,ru⟩:=rv.get hx;obtain⟨f0,f1,f2,f3,f4,f5⟩:=hf it (by simp);refine wpAny_pyNext_tuple_item st p (by simpa using hu) λh' st' sb=>?_;have I1:Inv X pins σ H {s with heap:=h'}:=I.turned (λb o hb e=>(sb.2 b hb).trans e) f0 f1 f3 f4 f5
  obtain⟨o,e,c,d⟩:=id st';exact⟨u,rfl,CC e c d (by decide) ⟨x,H,I1,ru,⟨rfl,λys hy=>by rw[I.tuple_inj hy hq];exact hx⟩,st',λb hb=>(hf b hb).1⟩⟩
 done:=by
  intro X hP hw hK hc i pins s σ H E I hf st hg;subst hP hw hK;obtain⟨xs,hq,hx⟩:=hg;obtain⟨its,rv,p,hz⟩:=I.tuple hq;obtain⟨f0,f1,f2,f3,f4,f5⟩:=hf it (by simp);have hl:=rv.length;exact wpAny_pyNext_tuple_end (I.ok.hd hc) st p (by simp;omega) λh' eb=>⟨rfl,I.turned (λb o hb e=>eb b o hb e) f0 f1 f3 f4 f5⟩
 self:=λ_ _ _ _ _ st h=>wpAny_pyIter_tupleiter st h
def Zoy{K tg}(it:Addr)(lo:Int)(n:Nat):Turn P w K tg (Itr lo n) [it] it (λi h=>IsRangeIter h it (lo+(i:Nat)*1) ((n:Int)-(i:Nat)) 1) where
 mem:=by simp
 obj:=λi h st b hb=>by
  have e:b=it:=by simpa using hb
  subst e
  exact⟨_,st,λv z=>by
   cases z⟩
 keep:=λi h h' st k=>k it (by simp) _ st
 item:=by
  intro X hP hw hK hc i pins s σ H E I hf st hg;subst hP hw hK;obtain⟨f0,f1,f2,f3,f4,f5⟩:=hf it (by simp);refine(Walks.range (prog:=X.prog) (w:=X.w) (I.ok.hd hc) it lo 1 n).item i s _ _ hg st λv h' tk hv st' kk=>?_;obtain⟨t,rfl⟩:=hv;have I1:Inv X pins σ H {s with heap:=h',toks:=tk}:=I.turned (λb o hb e=>kk b o (by simpa using hb) e) f0 f1 f3 f4 f5
  refine⟨_,rfl,CC st' rfl rfl (by decide) ⟨.int (lo+i),H,I1,⟨t,?_⟩,⟨rfl,rfl⟩,st',λb hb=>(hf b hb).1⟩⟩;rw[Int.mul_one]
 done:=by
  intro X hP hw hK hc i pins s σ H E I hf st hg;obtain⟨f0,f1,f2,f3,f4,f5⟩:=hf it (by simp);exact wpAny_pyNext_range_end (I.ok.hd hc) st (by have:n<=i:=hg;omega) λh' eb=>⟨rfl,I.turned (λb o hb e=>eb b o hb e) f0 f1 f3 f4 f5⟩
 self:=λ_ _ _ _ _ st h=>wpAny_pyIter_rangeiter st h
section
variable {X:Cx}{tg:Expr}
noncomputable def SC(K:Yj)(tl:TE):TI:=λσ H R=>tl σ H λx H1=>∃a,x=.ref a/\(∃xs,SqL K H1 a xs)/\R (Itl K a) H1
noncomputable def DK(K:Yj)(tl:TE):TI:=λσ H R=>tl σ H λx H1=>∃a,x=.ref a/\(∃xs,SqT K H1 a xs)/\R (Itt K a) H1
def OG(hl:PE X l tl):PI X tg l (SC X.K tl):=by
 intro pins s σ H R I h;refine thn (hl pins s σ H _ I h) λv s1 ⟨x,H1,I1,r1,q1⟩=>?_;obtain⟨a,e,⟨xs,hq⟩,q⟩:=q1;subst e;cases r1
 obtain⟨its,rv,p,hz⟩:=I1.list hq;refine wpAny_pyIter_list p.isList ?_;refine⟨s1.heap.objs.size,[s1.heap.objs.size],_,_,H1,rfl,I1.kept λb o e=>WM _ e,RC a _,⟨_,WX _ rfl,rfl,rfl⟩,λb hb=>?_,q⟩;have e:b=s1.heap.objs.size:=by grind
 subst e;exact I1.fpOk (WQ _) (I1.hok.fresh<|WQ _)
def Zj6(hl:PE X l tl):PI X tg l (DK X.K tl):=by
 intro pins s σ H R I h;refine thn (hl pins s σ H _ I h) λv s1 ⟨x,H1,I1,r1,q1⟩=>?_;obtain⟨a,e,⟨xs,hq⟩,q⟩:=q1;subst e;cases r1
 obtain⟨its,rv,p,hz⟩:=I1.tuple hq;refine wpAny_pyIter_tuple p ?_;refine⟨s1.heap.objs.size,[s1.heap.objs.size],_,_,H1,rfl,I1.kept λb o e=>WM _ e,Zln a _,⟨_,WX _ rfl,rfl,rfl⟩,λb hb=>?_,q⟩;have e:b=s1.heap.objs.size:=by grind
 subst e;exact I1.fpOk (WQ _) (I1.hok.fresh<|WQ _)
def G5{σ:St}{H}{s}{R}{E}{lo hi}{t u v}{tk}(I:Inv X pins σ H s)(h1:-(2 ^ 62)<=lo)(h2:lo<2 ^ 62)(h3:-(2 ^ 62)<=hi)(h4:hi<2 ^ 62)(q:R (Itr lo (hi-lo).toNat) H):wpAny (model X.prog X.w) X.A (pyIter<|.ref s.heap.objs.size) (PIE X pins σ tg R) E {s with heap:=s.heap.push {cls:=.type "range",data:=.fields #[.int lo t,.int hi u,.int 1 v]},toks:=tk}:=by
 refine wpAny_pyIter_range (IsRange.new ..) (small_one h1 h2 h3 h4) ?_;have I1:Inv X pins σ H {s with heap:=s.heap.push {cls:=.type "range",data:=.fields #[.int lo t,.int hi u,.int 1 v]},toks:=tk}:=I.kept λb o e=>WM _ e
 refine⟨(s.heap.push {cls:=.type "range",data:=.fields #[.int lo t,.int hi u,.int 1 v]}).objs.size,[(s.heap.push {cls:=.type "range",data:=.fields #[.int lo t,.int hi u,.int 1 v]}).objs.size],_,_,H,rfl,
  I1.kept λb o e=>WM _ e,Zoy _ lo (hi-lo).toNat,?_,λb hb=>?_,q⟩
 ·have e1:lo+((0:Nat):Int)*1=lo:=by simp
  have e2:(((hi-lo).toNat:Nat):Int)-((0:Nat):Int)=Builtin.Range.rangeSize lo hi 1:=by rw[rangeSize_one];split<;>omega
  rw[e1,e2];exact WX _ rfl
 ·have e:b=(s.heap.push {cls:=.type "range",data:=.fields #[.int lo t,.int hi u,.int 1 v]}).objs.size:=by simpa using hb
  subst e;exact I1.fpOk (WQ _) (I1.hok.fresh<|WQ _)
noncomputable def IE(ta:TA):TI:=λσ H R=>ta σ H λvs H1=>∃j:Int,vs=[.int j]/\-(2 ^ 62)<=j/\j<2 ^ 62/\R (Itr 0 j.toNat) H1
noncomputable def Hq(ta:TA):TI:=λσ H R=>ta σ H λvs H1=>∃i j:Int,vs=[.int i,.int j]/\(-(2 ^ 62)<=i/\i<2 ^ 62/\-(2 ^ 62)<=j/\j<2 ^ 62)/\R (Itr i (j-i).toNat) H1
def Znv(hg:Gl X "range")(hm:X.mg "range"=none)(ha:PA X [a] ta)(hs:autoParam (starEach [a] X.env=[(false,eval a X.env)]) au_0):PI X tg (.Call (.Name "range" p) [a] [] pos) (IE ta):=by
 intro pins s σ H R I h;refine Call_ (B4 I hg hm boot_range<|VP (thn (ha pos pins s σ H _ I h) λus s1 ⟨vs,H1,I1,r1,q1⟩=>?_) hs rfl);obtain⟨j,e,q1,q2,q⟩:=q1;subst e;cases r1 with
 |cons r rr=>
  cases rr
  obtain⟨t,rfl⟩:=r;exact call_range_1 (G5 I1 (by omega) (by omega) q1 q2<|by grind)
def Zde{p pos}(hg:Gl X "range")(hm:X.mg "range"=none)(ha:PA X [a,b] ta)(hs:autoParam (starEach [a,b] X.env=[(false,eval a X.env),(false,eval b X.env)]) au_0)(hs2:autoParam (starEach [b] X.env=[(false,eval b X.env)]) au_0) :
  PI X tg (.Call (.Name "range" p) [a,b] [] pos) (Hq ta):=by
 intro pins s σ H R I h;refine Call_ (B4 I hg hm boot_range<|VP (thn (ha pos pins s σ H _ I h) λus s1 ⟨vs,H1,I1,r1,q1⟩=>?_) (by grind)<|by rw[hs2];rfl);obtain⟨i,j,e,⟨q1,q2,q3,q4⟩,q⟩:=q1;subst e;cases r1 with
 |cons r rr=>
  cases rr with
  |cons r' rr=>
   cases rr
   obtain⟨t,rfl⟩:=r;obtain⟨t',rfl⟩:=r';exact call_range_2 (G5 I1 q1 q2 q3 q4 q)
noncomputable def Rm(wi:TI)(g:TG)(tb:TS):TS:=λD σ H=>wi σ H λJ H1=>∃W:Nat->Nat->St->Hp->Prop,(∃m,W 0 m σ H1)/\∀i m σ H,W i m σ H->
 (J.stop i H/\D.nx σ H)\/(J.go i H/\∃N:St->Hp->Prop,(∀σ' H',N σ' H'->∃m',m'<m/\W (i+1) m' σ' H')/\∀x H',J.yld i H x H'->g x σ H' λσ2 H2=>tb {D with nx:=N,ct:=N,bk:=D.nx} σ2 H2)
noncomputable def SB(fp:List Addr)(h:Heap):Ym:=fp.filterMap λb=>(h.get? b).map λo=>(b,o)
def BE{b o}(hb:b∈fp)(e:h.get? b=some o):(b,o)∈SB fp h:=JJ.mpr ⟨b,hb,by rw[e];rfl⟩
def Zga(hp:p∈SB fp h):p.1∈fp/\h.get? p.1=some p.2:=by
 obtain⟨b,hb,e⟩:=JJ.mp hp;cases q:h.get? b with
 |_=>grind
def Inv.pinned {σ:St}{H}{s}{fp} (I:Inv X pins σ H s) (hf:∀b∈fp,TZ X pins H b) (ho:∀b∈fp,∃o,s.heap.get? b=some o/\∀v,o.data≠.cell v):Inv X (pins++SB fp s.heap) σ H s:=
 I.pins_of λp hp=>(WV.mp hp).elim (λz=>I.pin p (Ql _ z)) λz=>by
  obtain⟨hb,e⟩:=Zga z;obtain⟨f0,f1,f2,_⟩:=hf p.1 hb
  grind
def Inv.unpinned {σ:St}{H}{s} (I:Inv X (pins++pl) σ H s):Inv X pins σ H s:=I.pins_of λp hp=>I.pin p (Ql _<|Q9 _ hp)
def Zna{wi g tb pos}(hp:PassesOwn (model X.prog X.w) X.A X.env X.xe)(hc:X.calm=true)(hi:PI X tg iter wi)(hg:PG X tg g)(hb:PSs X body tb)(hs:autoParam (∀x,foldedSetIterable iter X.env x=pure x) au_3):PS X (.For tg iter body [] pos) (Rm wi g tb):=by
 intro pins s σ H D I h;refine wpAny_For (thn (hi pins s σ H _ I h) λv s1 h1=>thn h1 λitv s2 h2=>?_) hs;obtain⟨it,fp,tn,J,H2,e,I2,T,st2,f2,W,⟨m0,w0⟩,turn⟩:=h2;subst e;have stat:∀{H':Hp},(∀b∈fp,H' b=none)->∀b∈fp,TZ X pins H' b:=λhn b hb=>⟨hn b hb,(f2 b hb).2⟩;refine codeAny_forLoop_any (λn s'=>∃i σ' H',Inv X pins σ' H' s'/\tn i s'.heap/\(∀b∈fp,H' b=none)/\W i n σ' H') ?_ m0 ⟨0,σ,H2,I2,st2,λb hb=>(f2 b hb).1,w0⟩;rintro n s3 ⟨i,σ3,H3,I3,st3,fr3,w3⟩;rcases turn i n σ3 H3 w3 with⟨stop,qn⟩|⟨go,N,hN,step⟩
 ·refine Vq hp (thn (T.done X rfl rfl rfl hc i pins s3 σ3 H3 X.xe I3 (stat fr3) st3 stop) ?_);rintro r s4 ⟨hr,I4⟩;subst hr;exact J1 ⟨σ3,H3,I4,qn⟩
 ·refine Vq hp (thn (T.item X rfl rfl rfl hc i pins s3 σ3 H3 X.xe I3 (stat fr3) st3 go) ?_);rintro r s4 ⟨u,hr,h4⟩;subst hr;refine Vq hp (thn h4 ?_);rintro _ s5 ⟨x,H5,I5,r5,y5,st5,fr5⟩;refine Vq hp (thn (hg _ s5 σ3 H5 x u _ (I5.pinned (stat fr5)<|T.obj _ _ st5) r5<|step x H5 y5) ?_);rintro _ s6 ⟨σ6,H6,I6,q6⟩;refine Vq hp (thn (hb _ s6 σ6 H6 _ I6 q6) λf s7 q7=>?_)
  have again:∀{σ7:St} {H7:Hp},Inv X (pins++SB fp s5.heap) σ7 H7 s7->N σ7 H7->∃m,m<n/\∃i σ' H',Inv X pins σ' H' s7/\tn i s7.heap/\(∀b∈fp,H' b=none)/\W i m σ' H':=λ{σ7 H7} I7 n7=>by
   obtain⟨m',hm,w7⟩:=hN σ7 H7 n7;refine⟨m',hm,i+1,σ7,H7,I7.unpinned,T.keep _ _ _ st5 λb hb o e=>(I7.pin (b,o)<|Ql _<|Ql _<|BE hb e).1,λb hb=>?_,w7⟩;obtain⟨o,e,d⟩:=T.obj _ _ st5 b hb;exact(I7.pin (b,o)<|Ql _<|Ql _<|BE hb e).2.1
  cases f with
  |brk=>obtain⟨σ7,H7,I7,q7⟩:=q7;exact⟨σ7,H7,I7.unpinned,q7⟩
  |ret v=>obtain⟨x7,σ7,H7,I7,r7,q7⟩:=q7;exact⟨x7,σ7,H7,I7.unpinned,r7,q7⟩
  |_=>obtain⟨σ7,H7,I7,n7⟩:=q7;exact again I7 n7
end
abbrev R2:=V->V->Hp->VK->Prop
def OpR(X:Cx)(f:Value->Value->Sem Value)(r:R2):Prop:=
 ∀(pins:Ym) (s:Shared) (σ:St) (H:Hp) (x y:V) (v u:Value) (Q:VK),Inv X pins σ H s->RelV x v->RelV y u->r x y H Q->
  wpAny (model X.prog X.w) X.A (f v u) (EP X pins σ Q) X.xe s
def UnR(X:Cx)(f:Value->Sem Value)(r:V->Hp->VK->Prop):Prop:=
 ∀(pins:Ym) (s:Shared) (σ:St) (H:Hp) (x:V) (v:Value) (Q:VK),Inv X pins σ H s->RelV x v->r x H Q->
  wpAny (model X.prog X.w) X.A (f v) (EP X pins σ Q) X.xe s
def Kh(X:Cx)(f:Value)(r:List V->Hp->VK->Prop):Prop:=
 ∀(pins:Ym) (s:Shared) (σ:St) (H:Hp) (xs:List V) (us:Yr) (Q:VK),Inv X pins σ H s->Vals xs us->r xs H Q->
  wpAny (model X.prog X.w) X.A (call f us) (EP X pins σ Q) X.xe s
def Zm5(X:Cx)(r:V->Hp->(Bool->Hp->Prop)->Prop):Prop:=
 ∀(pins:Ym) (s:Shared) (σ:St) (H:Hp) (x:V) (v:Value) (Q:Bool->Hp->Prop),Inv X pins σ H s->RelV x v->r x H Q->
  wpAny (model X.prog X.w) X.A (truthy v) (TP X pins σ Q) X.xe s
noncomputable def tOp(r:R2)(ta tb:TE):TE:=λσ H Q=>ta σ H λx H1=>tb σ H1 λy H2=>r x y H2 Q
noncomputable def tUn(r:V->Hp->VK->Prop)(ta:TE):TE:=λσ H Q=>ta σ H λx H1=>r x H1 Q
noncomputable def rI(C:Int->Int->Prop)(g:Int->Int->V):R2:=λx y H Q=>∃i j,x=.int i/\y=.int j/\C i j/\Q (g i j) H
noncomputable def rI0(g:Int->Int->V):R2:=λx y H Q=>∃i j,x=.int i/\y=.int j/\Q (g i j) H
def rU(g:Int->V):V->Hp->VK->Prop:=λx H Q=>∃i,x=.int i/\Q (g i) H
section
variable {X:Cx}{a b c:Expr}{ta tb tc:TE}{pos:Pos}
def A2(ha:PE X a ta)(hb:PE X b tb){pins}{s}{σ:St}{H}{R:V->V->Hp->Prop}(I:Inv X pins σ H s)(h:ta σ H λx H1=>tb σ H1 λy H2=>R x y H2){Q}{f:Value->Value->Sem Value}(hf:∀v u s2 x y H2,Inv X pins σ H2 s2->RelV x v->RelV y u->R x y H2->wpAny (model X.prog X.w) X.A (f v u) Q X.xe s2) :
  wpAny (model X.prog X.w) X.A (eval a X.env) (λv s₁=>wpAny (model X.prog X.w) X.A (eval b X.env) (λu s₂=>wpAny (model X.prog X.w) X.A (f v u) Q X.xe s₂) X.xe s₁) X.xe s:=by
 refine thn (ha pins s σ H _ I h) λv s1 ⟨x,H1,I1,r1,q1⟩=>?_;refine thn (hb pins s1 σ H1 _ I1 q1) λu s2 ⟨y,H2,I2,r2,q2⟩=>?_
 grind
def PQ(ho:OpR X (binaryOp op) r)(ha:PE X a ta)(hb:PE X b tb):PE X (.BinOp a op b pos) (tOp r ta tb):=by
 intro pins s σ H Q I h;exact wpAny_BinOp (A2 ha hb I h λv u s2 x y H2 I2 rx ry q=>ho pins s2 σ H2 x y v u Q I2 rx ry q)
def KP(ho:UnR X (unaryOp op) r)(ha:PE X a ta):PE X (.UnaryOp op a pos) (tUn r ta):=by
 intro pins s σ H Q I h;exact UnaryOp_ (thn (ha pins s σ H _ I h) λv s1 ⟨x,H1,I1,r1,q1⟩=>ho pins s1 σ H1 x v Q I1 r1 q1)
def opI{C}{g:Int->Int->Int}(rule:∀i j t u s Q E,C i j->Q (.int (g i j) s.toks) {s with toks:=s.toks+1}->wpAny (model X.prog X.w) X.A (f (.int i t)<|.int j u) Q E s) :
  OpR X f (rI C λi j=>.int (g i j)):=by
 intro pins s σ H x y v u Q I rx ry h;obtain⟨i,j,rfl,rfl,hc,q⟩:=h;obtain⟨t,rfl⟩:=rx;obtain⟨t',rfl⟩:=ry;exact rule i j t t' s _ _ hc ⟨.int (g i j),H,I.tok _,⟨_,rfl⟩,q⟩
def OX{g:Int->Int->Int}(rule:∀i j t u s Q E,Q (.int (g i j) s.toks) {s with toks:=s.toks+1}->wpAny (model X.prog X.w) X.A (f (.int i t)<|.int j u) Q E s) :
  OpR X f (rI0 λi j=>.int (g i j)):=by
 intro pins s σ H x y v u Q I rx ry h;obtain⟨i,j,rfl,rfl,q⟩:=h;obtain⟨t,rfl⟩:=rx;obtain⟨t',rfl⟩:=ry;exact rule i j t t' s _ _ ⟨.int (g i j),H,I.tok _,⟨_,rfl⟩,q⟩
def Cv{g:Int->Int->Bool}(rule:∀i j t u s Q E,Q (.bool<|g i j) s->wpAny (model X.prog X.w) X.A (f (.int i t)<|.int j u) Q E s) :
  OpR X f (rI0 λi j=>.bl (g i j)):=by
 intro pins s σ H x y v u Q I rx ry h;obtain⟨i,j,rfl,rfl,q⟩:=h;obtain⟨t,rfl⟩:=rx;obtain⟨t',rfl⟩:=ry;exact rule i j t t' s _ _ ⟨.bl (g i j),H,I,rfl,q⟩
def AZ(i j:Int):Prop:=0<j/\j<1073741824
def DO(i j:Int):Prop:=0<=j/\j<=1000000/\i.natAbs<2 ^ 64
def CMul(i j:Int):Prop:=(-(2 ^ 64)<i/\i<2 ^ 64)\/(-(2 ^ 64)<j/\j<2 ^ 64)
def CMul.ok (h:CMul i j):IntMulOk i j:=by
 rcases h with⟨h1,h2⟩|⟨h1,h2⟩
 ·exact .of_left (intBits_le_64 h1 h2)
 ·exact .of_right (intBits_le_64 h1 h2)
def XB:OpR X (binaryOp .Add) (rI0 λi j=>.int (i+j)):=OX λ_ _ _ _ _ _ _ q=>add_int q
def K0:OpR X (binaryOp .Sub) (rI0 λi j=>.int (i-j)):=OX λ_ _ _ _ _ _ _ q=>sub_int q
def T7:OpR X (binaryOp .Mult) (rI CMul λi j=>.int (i*j)):=opI λ_ _ _ _ _ _ _ hc q=>mul_int q hc.ok
def XI:OpR X (binaryOp .FloorDiv) (rI AZ λi j=>.int (i / j)):=opI λi j _ _ _ _ _ hc q=>by
 have h1:=hc.1;have h2:=hc.2;exact floordiv_int (by omega) (by rw[Int.fdiv_eq_ediv_of_nonneg i (by omega)];exact q) (.inl<|PyProof.noPylong_small<|by omega)
def X2:OpR X (binaryOp .Mod) (rI (λ_ j=>0<j) λi j=>.int (i % j)):=opI λi j _ _ _ _ _ hc q=>by
 exact mod_int' (by omega) (by grind)
def Dt:OpR X (binaryOp .Pow) (rI DO λi j=>.int (i ^ j.toNat)):=opI λ_ _ _ _ _ _ _ hc q=>pow_int_small hc.1 hc.2.1 hc.2.2 q
def unI{g:Int->Int}(rule:∀i t s Q E,Q (.int (g i) s.toks) {s with toks:=s.toks+1}->wpAny (model X.prog X.w) X.A (f<|.int i t) Q E s) :
  UnR X f (rU λi=>.int (g i)):=by
 intro pins s σ H x v Q I rx h;obtain⟨i,rfl,q⟩:=h;obtain⟨t,rfl⟩:=rx;exact rule i t s _ _ ⟨.int (g i),H,I.tok _,⟨_,rfl⟩,q⟩
def KU:UnR X (unaryOp .USub) (rU λi=>.int (-i)):=unI λ_ _ _ _ _ q=>neg_int q
end
noncomputable def L5:V->V->Bool
 | .non,.non=>true | .non,.int _=>true | .int _,.non=>true | .non,.bl _=>true | .bl _,.non=>true | .non,.str _=>true | .str _,.non=>true
 | .int _,.int _=>true | .bl _,.bl _=>true | .str _,.str _=>true | .byt _,.byt _=>true
 | .int _,.str _=>true | .str _,.int _=>true | .bl _,.str _=>true | .str _,.bl _=>true
 |_,_=>false
noncomputable def rEq:R2:=λx y H Q=>L5 x y=true/\Q (.bl<|decide (x=y)) H
noncomputable def rNe:R2:=λx y H Q=>L5 x y=true/\Q (.bl (!decide (x=y))) H
def He{i j:Int}:decide (V.int i=V.int j)=(i==j):=by
 rw[J2];simp
def M0{i j:Bool}:decide (V.bl i=V.bl j)=(i==j):=by
 rw[J2];simp
def IH{i j:Str}:decide (V.str i=V.str j)=(i==j):=by
 rw[J2];simp
def Ic{i j:Array UInt8}:decide (V.byt i=V.byt j)=(i.toList==j.toList):=by
 rw[J2];cases i
 cases j
 simp
section
variable {X:Cx}{a b c:Expr}{ta tb tc:TE}{pos:Pos}
def XT{σ:St}{H}{s}{Q}{k k'}(I:Inv X pins σ H s)(q:Q (.bl k) H)(e:k=k'):EP X pins σ Q (.bool k') s:=by
 subst e;exact⟨.bl k,H,I,rfl,q⟩
def op_eq:OpR X (compareOp .Eq) rEq:=by
 intro pins s σ H x y v u Q I rx ry h;obtain⟨hs,q⟩:=h;cases x with
 |non=>
  cases rx
  cases y with
  |non=>cases ry;exact PySem.EqNone.eq_none_none (XT I q<|by simp)
  |bl j=>cases ry;exact PySem.EqNone.eq_none_bool (XT I q<|by simp)
  |int j=>obtain⟨t',rfl⟩:=ry;exact PySem.EqNone.eq_none_int (XT I q<|by simp)
  |str j=>obtain⟨t',rfl⟩:=ry;exact PySem.EqNone.eq_none_str (XT I q<|by simp)
  |_=>exact absurd hs Qh
 |bl i=>
  cases rx
  cases y with
  |non=>cases ry;exact PySem.EqNone.eq_bool_none (XT I q<|by simp)
  |bl j=>cases ry;exact eq_bool (XT I q M0)
  |str j=>obtain⟨t',rfl⟩:=ry;exact PySem.EqMixed.eq_bool_str (XT I q<|by simp)
  |_=>exact absurd hs Qh
 |int i=>
  obtain⟨t,rfl⟩:=rx;cases y with
  |non=>cases ry;exact PySem.EqNone.eq_int_none (XT I q<|by simp)
  |int j=>obtain⟨t',rfl⟩:=ry;exact eq_int (XT I q He)
  |str j=>obtain⟨t',rfl⟩:=ry;exact PySem.EqMixed.eq_int_str (XT I q<|by simp)
  |_=>exact absurd hs Qh
 |str i=>
  obtain⟨t,rfl⟩:=rx;cases y with
  |non=>cases ry;exact PySem.EqNone.eq_str_none (XT I q<|by simp)
  |bl j=>cases ry;exact PySem.EqMixed.eq_str_bool (XT I q<|by simp)
  |int j=>obtain⟨t',rfl⟩:=ry;exact PySem.EqMixed.eq_str_int (XT I q<|by simp)
  |str j=>obtain⟨t',rfl⟩:=ry;exact eq_str (XT I q IH)
  |_=>exact absurd hs Qh
 |byt i=>
  obtain⟨t,rfl⟩:=rx;cases y with
  |byt j=>obtain⟨t',rfl⟩:=ry;exact PySem.W.eq_bytes (XT I q Ic)
  |_=>exact absurd hs Qh
 |_=>cases y<;>exact absurd (show false=true from hs) Qh
def op_ne:OpR X (compareOp .NotEq) rNe:=by
 intro pins s σ H x y v u Q I rx ry h;obtain⟨hs,q⟩:=h;cases x with
 |non=>
  cases rx
  cases y with
  |non=>cases ry;exact PySem.EqNone.ne_none_none (XT I q<|by simp)
  |bl j=>cases ry;exact PySem.EqNone.ne_none_bool (XT I q<|by simp)
  |int j=>obtain⟨t',rfl⟩:=ry;exact PySem.EqNone.ne_none_int (XT I q<|by simp)
  |str j=>obtain⟨t',rfl⟩:=ry;exact PySem.EqNone.ne_none_str (XT I q<|by simp)
  |_=>exact absurd hs Qh
 |bl i=>
  cases rx
  cases y with
  |non=>cases ry;exact PySem.EqNone.ne_bool_none (XT I q<|by simp)
  |bl j=>cases ry;exact ne_bool (XT I q<|Q2 not M0)
  |str j=>obtain⟨t',rfl⟩:=ry;exact PySem.EqMixed.ne_bool_str (XT I q<|by simp)
  |_=>exact absurd hs Qh
 |int i=>
  obtain⟨t,rfl⟩:=rx;cases y with
  |non=>cases ry;exact PySem.EqNone.ne_int_none (XT I q<|by simp)
  |int j=>obtain⟨t',rfl⟩:=ry;exact ne_int (XT I q<|Q2 not He)
  |str j=>obtain⟨t',rfl⟩:=ry;exact PySem.EqMixed.ne_int_str (XT I q<|by simp)
  |_=>exact absurd hs Qh
 |str i=>
  obtain⟨t,rfl⟩:=rx;cases y with
  |non=>cases ry;exact PySem.EqNone.ne_str_none (XT I q<|by simp)
  |bl j=>cases ry;exact PySem.EqMixed.ne_str_bool (XT I q<|by simp)
  |int j=>obtain⟨t',rfl⟩:=ry;exact PySem.EqMixed.ne_str_int (XT I q<|by simp)
  |str j=>obtain⟨t',rfl⟩:=ry;exact ne_str (XT I q<|Q2 not IH)
  |_=>exact absurd hs Qh
 |byt i=>
  obtain⟨t,rfl⟩:=rx;cases y with
  |byt j=>obtain⟨t',rfl⟩:=ry;exact PySem.W.ne_bytes (XT I q<|Q2 not Ic)
  |_=>exact absurd hs Qh
 |_=>cases y<;>exact absurd (show false=true from hs) Qh
def KS:OpR X (compareOp .Lt) (rI0 λi j=>.bl (decide (i<j))):=Cv λ_ _ _ _ _ _ _ q=>lt_int q
def KF:OpR X (compareOp .Gt) (rI0 λi j=>.bl (decide (j<i))):=Cv λ_ _ _ _ _ _ _ q=>gt_int q
def NU:OpR X (compareOp .GtE) (rI0 λi j=>.bl (decide (j<=i))):=Cv λ_ _ _ _ _ _ _ q=>ge_int q
def OpR.or (h:OpR X f r) (h':OpR X f r'):OpR X f (λx y H Q=>r x y H Q\/r' x y H Q):=by
 intro pins s σ H x y v u Q I rx ry q;rcases q with q|q
 ·exact h pins s σ H x y v u Q I rx ry q
 ·exact h' pins s σ H x y v u Q I rx ry q
def KB(b:Expr){op}(h:autoParam (op≠.In) au_1)(h2:autoParam (op≠.NotIn) au_1):behindInMarks op b=false:=by
 have e1:(op==CmpOp.In)=false:=by grind
 have e2:(op==CmpOp.NotIn)=false:=by grind
 cases b<;>simp[behindInMarks,e1,e2]
def N1(ho:OpR X (compareOp op) r)(ha:PE X a ta)(hb:PE X b tb)(hm:behindInMarks op b=false):PE X (.Compare a [op] [b] pos) (tOp r ta tb):=by
 intro pins s σ H Q I h;exact wpAny_Compare1 (A2 ha hb I h λv u s2 x y H2 I2 rx ry q=>ho pins s2 σ H2 x y v u Q I2 rx ry q) hm
noncomputable def Fk(t:TE):TT:=λσ H Q=>t σ H λx H'=>∃k,x=.bl k/\Q k H'
def Pb(ho:OpR X (compareOp op) r)(ha:PE X a ta)(hb:PE X b tb)(hm:behindInMarks op b=false):PT X (.Compare a [op] [b] pos) (Fk<|tOp r ta tb):=by
 intro pins s σ H Q I h
 refine wpAny_isTrue_Compare1 (thn (ha pins s σ H _ I h) λv s1 ⟨x,H1,I1,r1,q1⟩=>thn (hb pins s1 σ H1 _ I1 q1) λu s2 ⟨y,H2,I2,r2,q2⟩=>
  thn (ho pins s2 σ H2 x y v u _ I2 r1 r2 q2) λc s3 ⟨z,H3,I3,r3,k,e,q3⟩=>?_) hm
 subst e;cases r3
 exact Vw ⟨H3,I3,q3⟩
def Dp(K:Yj)(x:V)(H:Hp)(k:Bool):Prop:=
 match x with
 | .non=>k=false
 | .bl b=>k=b
 | .int i=>k=(i != 0)
 | .str y=>y.length<=sizeLine/\k=((y.length:Int) != 0)
 | .byt y=>y.size<=sizeLine/\k=((y.size:Int) != 0)
 | .ref p=>(∃xs,SqL K H p xs/\k=!xs.isEmpty)\/(∃xs,SqT K H p xs/\k=!xs.isEmpty)\/∃kvs,H p=some (.dK kvs)/\k=!kvs.isEmpty
 |_=>False
def Zii(r:KV kvs vs):(!vs.isEmpty)=!kvs.isEmpty:=by
 cases r<;>rfl
def Oc(r:Vals xs its):(!its.toArray.isEmpty)=!xs.isEmpty:=by
 cases r<;>simp
def BK:(sizeLine:Nat)<2 ^ 63:=by trivial
def Zdc:Zm5 X (λx H Q=>∃k,Dp X.K x H k/\Q k H):=by
 intro pins s σ H x v Q I rx h;obtain⟨k,e,q⟩:=h;have hl:=BK;have hs:=JH;cases x with
 |non=>
  cases rx
  have e':=e;subst e';exact truthy_none ⟨H,I,q⟩
 |bl b=>
  cases rx
  have e':=e;subst e';exact Vw ⟨H,I,q⟩
 |int i=>
  obtain⟨t,rfl⟩:=rx;have e':=e;subst e';exact PySem.P.truthy_int ⟨H,I,q⟩
 |str y=>
  obtain⟨t,rfl⟩:=rx;obtain⟨hy,e'⟩:=e;subst e';exact PySem.P.truthy_str (by omega) ⟨H,I.tok _,q⟩
 |byt y=>
  obtain⟨t,rfl⟩:=rx;obtain⟨hy,e'⟩:=e;subst e';exact PySem.W.truthy_bytes (by omega) ⟨H,I.tok _,q⟩
 |ref p=>
  cases rx
  have e':=e;rcases e' with⟨xs,hx,e'⟩|⟨xs,hx,e'⟩|⟨kvs,hx,e'⟩
  ·subst e';obtain⟨its,r,pl,hz⟩:=I.list hx;have hlen:=r.length;exact wpAny_truthy_list pl.isList (by simp only[Qr];omega) ⟨H,I.tok _,by rw[Oc r];exact q⟩
  ·subst e';obtain⟨its,r,pl,hz⟩:=I.tuple hx;have hlen:=r.length;exact truthy_tuple pl (by simp only[Qr];omega) ⟨H,I.tok _,by rw[Oc r];exact q⟩
  ·subst e';obtain⟨hz,hS,vs,r,m⟩:=I.hok p _ hx;have hlen:=Paired.length r;exact wpAny_truthy_dict hS m (by omega) ⟨H,I.tok _,by rw[Zii r];exact q⟩
 |_=>exact e.elim
def Zgf(ha:PE X a ta)(he:∀whole,isTrue a X.env whole=(do let v ←whole;standAt a.pos;holding [v] (truthy v))) :
  PT X a (λσ H Q=>ta σ H λx H'=>∃k,Dp X.K x H' k/\Q k H'):=by
 intro pins s σ H Q I h;exact isTrue_plain (thn (ha pins s σ H _ I h) λv s1 ⟨x,H1,I1,r1,q1⟩=>Zdc pins s1 σ H1 x v Q I1 r1 q1) (he _)
def vals1(r:Vals [x] us):∃u,us=[u]/\RelV x u:=by
 cases r with
 |cons r1 r2=>cases r2;exact⟨_,rfl,r1⟩
def vals2(r:Vals [x,y] us):∃u w',us=[u,w']/\RelV x u/\RelV y w':=by
 cases r with
 |cons r1 r2=>
  cases r2 with
  |cons r3 r4=>cases r4;exact⟨_,_,rfl,r1,r3⟩
def CN(hc:X.calm=true):Kh X (.builtin "max") (λxs H Q=>∃i j,xs=[.int i,.int j]/\Q (.int (if j>i then j else i)) H):=by
 intro pins s σ H xs us Q I r h;obtain⟨i,j,rfl,q⟩:=h;obtain⟨u,w',rfl,⟨t,rfl⟩,⟨t',rfl⟩⟩:=vals2 r;refine max_two_ints (I.ok.hd hc) λh' tk k=>⟨_,H,I.kept k,?_,q⟩;by_cases hj:j>i
 ·rw[WO hj,WO hj];exact⟨_,rfl⟩
 ·rw[WN hj,WN hj];exact⟨_,rfl⟩
def DJ:Kh X (.type "int") (λxs H Q=>(∃i,xs=[.int i]/\Q (.int i) H)\/∃k,xs=[.bl k]/\Q (.int (if k then 1 else 0)) H):=by
 intro pins s σ H xs us Q I r h;rcases h with⟨i,rfl,q⟩|⟨k,rfl,q⟩
 ·obtain⟨u,rfl,t,rfl⟩:=vals1 r;exact call_int_int ⟨.int i,H,I,⟨_,rfl⟩,q⟩
 ·obtain⟨u,rfl,r1⟩:=vals1 r;cases r1
  exact call_int_bool ⟨.int (if k then 1 else 0),H,I.tok _,⟨_,rfl⟩,q⟩
def F6(K:Yj)(x:V)(H:Hp)(n:Nat):Prop:=
 match x with
 | .str y=>y.length<=sizeLine/\n=y.length
 | .byt y=>y.size<=sizeLine/\n=y.size
 | .ref p=>(∃xs,SqL K H p xs/\n=xs.length)\/∃xs,SqT K H p xs/\n=xs.length
 |_=>False
def Zng:Kh X (.builtin "len") (λxs H Q=>∃x n,xs=[x]/\F6 X.K x H n/\Q (.int n) H):=by
 intro pins s σ H xs us Q I r h;obtain⟨x,n,rfl,e,q⟩:=h;obtain⟨u,rfl,rx⟩:=vals1 r;have hs:=JH;cases x with
 |str y=>
  obtain⟨t,rfl⟩:=rx;obtain⟨hy,e'⟩:=e;subst e';exact len_str (by omega) ⟨.int _,H,I.tok _,⟨_,rfl⟩,q⟩
 |byt y=>
  obtain⟨t,rfl⟩:=rx;obtain⟨hy,e'⟩:=e;subst e';exact PySem.W.len_bytes (by omega) ⟨.int _,H,I.tok _,⟨_,rfl⟩,q⟩
 |ref p=>
  cases rx
  have e':=e;rcases e' with⟨xs,hx,e'⟩|⟨xs,hx,e'⟩
  ·subst e';obtain⟨its,r',pl,hz⟩:=I.list hx;have hlen:=r'.length;exact Calls.call_len_list pl.isList (by simp only[Qr];omega) ⟨.int xs.length,H,I.tok _,⟨_,by simp only[Qr];rw[hlen]⟩,q⟩
  ·subst e';obtain⟨its,r',pl,hz⟩:=I.tuple hx;have hlen:=r'.length;exact len_tuple pl (by simp only[Qr];omega) ⟨.int xs.length,H,I.tok _,⟨_,by simp only[Qr];rw[hlen]⟩,q⟩
 |_=>exact e.elim
end
structure NC (h:Heap) (x dx C:Addr) (mA:Yn):Prop where
 obj:h.get? x=some (PySem.W.instObj C dx)
 ns:h.Ns1 dx mA
 ne:dx≠x
def Hd{h:Heap}{dx}{mA}(n:h.Ns1 dx mA):∃od,h.get? dx=some od/\∀name,PySem.W.lookIn name od=some (mA name):=by
 obtain⟨o,es,ep,ho,hd,hk,_,hm⟩:=n;refine⟨o,ho,λname=>?_⟩;have e:=hm name;unfold nsFind findBy at e;unfold PySem.W.lookIn;rw[hd]
 dsimp only
 split
 ·grind
 ·rename_i q
  have a:es.toList.any (·.refKey)=false:=by
   rw[List.any_eq_false];intro y hy;obtain⟨z,t,hkey⟩:=hk y (Array.mem_toList_iff.mp hy);simp[DictEntry.refKey,hkey]
  grind
def NC.look (I:NC h x dx C mA):∃od,PySem.W.InstAt h x (PySem.W.instObj C dx) C (some od)/\∀name,PySem.W.lookIn name od=some (mA name):=
 let ⟨od,ho,hl⟩:=Hd I.ns
 ⟨od,⟨I.obj,rfl,rfl,ho⟩,hl⟩
section
variable {prog:Program}{w:World}{A:Around}{E:Yo}{s:Shared}{K:Yj}{x dx C f:Addr}{mA:Yn}{name:Str}{v:Value}
def Zmr{Q}(X:K.In s.heap)(I:NC s.heap x dx C mA)(hg:PySem.W.plainGet K C name=true)(hh:PySem.W.hasDictIn K C=true)(ha:PySem.W.findIn K (.ref C) name=some none)(hv:mA name=some v)(hv':PySem.W.handedIn v=true)(h:Q v {s with toks:=s.toks+1}) :
  wpAny (model prog w) A (getAttr (.ref x) name expr) Q E s:=by
 obtain⟨od,J,hl⟩:=I.look;exact PySem.W.get_value X J (JD hg).1 (PySem.W.findObj_own hh ha rfl<|by grind) hv' h
def Zg2{Q}(X:K.In s.heap)(I:NC s.heap x dx C mA)(hg:PySem.W.plainGet K C name=true)(hf:PySem.W.findIn K (.ref C) name=some (some<|.ref f))(ht:PySem.W.isFn K (.ref f)=true)(hv:mA name=none)(h:Q (.ref f,[.ref x]) s) :
  wpAny (model prog w) A (getMethod (.ref x) name pl) Q E s:=by
 obtain⟨od,J,hl⟩:=I.look;exact PySem.W.method_fn X J (JD hg).1 (JD hg).2 hf (beq_iff_eq.mp ht) (by show(PySem.W.lookIn name od).map (·.isSome)=some false;rw[hl,hv];rfl) h
def Zd8(X:K.In s.heap)(I:NC s.heap x dx C mA)(hs:PySem.W.findIn K (.ref C) "__setattr__"=some (some<|.builtin "object.__setattr__"))(hp:PySem.W.plainOver K C=true)(ht:PySem.W.takerIn K C name=some none)(hh:PySem.W.hasDictIn K C=true)(hw:PySem.Within mA ns)(hsz:ns.length<=sizeLine)(h:∀h',NC h' x dx C (λy=>if y=name then some v else mA y)->Heap.SameBut dx s.heap h'->Q () {s with heap:=h',toks:=s.toks+2}) :
  wpAny (model prog w) A (setAttr (.ref x) name v) Q E s:=by
 obtain⟨od,J,hl⟩:=I.look;refine PySem.W.set_plain X J hs (PySem.W.osa_open X J hp ht λb=>?_);obtain⟨cd,hc,hd'⟩:=VQ hh;refine WE (WL<|WE<|WE<|wpAny_loadPart I.obj<|WE<|JK (JE X hc) ?_);rw[hd'];refine WL (WE<|WL<|WE ?_);refine wpAny_nsSet1 I.ns λh' hn2 hs2=>?_;obtain⟨oD,esD,epD,hoD,hdD,hcD⟩:=hn2.count (PySem.Within.cons name v hw);refine WE (wpAny_lookBehind hoD (by rw[hdD];exact pastItsLine_dict (WU hcD<|by grind)) ?_);exact WL (h _ ⟨(hs2.2 _<|Ne.symm I.ne).trans I.obj,hn2,I.ne⟩ hs2)
def Zla{vs kw}(X:K.In s.heap)(hm:PySem.W.makesIn K C=true)(hi:PySem.W.findIn K (.ref C) "__init__"=some (some<|.ref f))(hf:PySem.W.typeIn K (.ref f)=some (.type "function"))
  (h:codeAny (model prog w) (A.under<|.builtin "type.__call__" ⟨.ref C::vs,kw⟩) (.call (.ref f) ⟨.ref (s.heap.objs.size+1)::vs,kw⟩) (PySem.W.InitBack (s.heap.objs.size+1) R)
   {s with heap:=(s.heap.push PySem.W.emptyDict).push (PySem.W.instObj C s.heap.objs.size)}) :
  codeAny (model prog w) A (.call (.ref C) ⟨vs,kw⟩) R s:=PySem.W.make_core (PySem.W.makes_of X hm) (QO X hi) (λself=>PySem.W.bind_fn X self hf) (.inl rfl) h
end
noncomputable def KE(f:Str)(v:V):List (Str×V)->List (Str×V)
 |[]=>[(f,v)]
 |(g,x)::r=>if g=f then(g,v)::r else(g,x)::KE f v r
theorem Ob(f g:Str)(v:V):∀fs,(KE f v fs).lookup g=if g=f then some v else fs.lookup g
 |[]=>by
  show List.lookup g [(f,v)]=_;by_cases h:g=f
  ·have hb:=beq_iff_eq.mpr h;simp only[List.lookup,hb,WO h]
  ·have hb:=Vk.mpr h;simp only[List.lookup,hb,WN h]
 |(k,x)::r=>by
  rw[show KE f v ((k,x)::r)=(if k=f then(k,v)::r else(k,x)::KE f v r)from rfl]
  by_cases hk:k=f
  ·rw[WO hk];by_cases h:g=k
   ·simp_all
   ·have hb:=Vk.mpr h;simp only[List.lookup,hb,WN (λe:g=f=>h (e.trans hk.symm))]
  ·rw[WN hk];by_cases h:g=k
   ·simp_all
   ·have hb:=Vk.mpr h;simp only[List.lookup,hb];exact(Ob f g v r)
theorem DC(f:Str)(v:V):∀fs,f∈(KE f v fs).map (·.1)/\∀g,g∈fs.map (·.1)->g∈(KE f v fs).map (·.1)
 |[]=>⟨by simp[KE],λg h=>by simp at h⟩
 |(k,x)::r=>by
  obtain⟨i1,i2⟩:=DC f v r;rw[show KE f v ((k,x)::r)=(if k=f then(k,v)::r else(k,x)::KE f v r)from rfl]
  by_cases hk:k=f
  ·grind
  ·grind
theorem Lv(f:Str)(v:V):∀fs,(KE f v fs).length<=fs.length+1
 |[]=>by simp[KE]
 |(k,x)::r=>by
  have ih:=Lv f v r;rw[show KE f v ((k,x)::r)=(if k=f then(k,v)::r else(k,x)::KE f v r)from rfl]
  by_cases hk:k=f
  ·grind
  ·grind
def RelO.some_of (r:RelO (some v) o):∃u,o=some u/\RelV v u:=by
 cases o with
 |none=>trivial
 |some u=>exact⟨u,rfl,r⟩
def RelO.none_of (r:RelO none o):o=none:=by
 cases o with
 |none=>rfl
 |some u=>trivial
def EZ(r:RelV v u):PySem.W.handedIn u=true:=by
 cases v with
 |non|bl b|ref a|ty n=>cases r;rfl
 |_=>obtain⟨t,e⟩:=r;cases e;rfl
section
variable {P:Program}{w:World}{H H':Hp}{h h':Heap}{a C dx:Addr}{fs fs':List (Str×V)}
def Fz(hok:HOk P w H h)(e:H a=some (.ins C dx fs)):∃mA,NC h a dx C mA/\(∀f,RelO (fs.lookup f) (mA f))/\PySem.Within mA (fs.map (·.1))/\fs.length<=1000/\H dx=some (.own a):=by
 obtain⟨d,z,ne,ob,mA,n,r,q⟩:=(hok a _ e);exact⟨mA,⟨ob,n,ne⟩,r,q,z,d⟩
end
structure Cls (K:Yj) (C:Addr):Prop where
 pg:PySem.W.plainGet K C Str.empty=true
 hd:PySem.W.hasDictIn K C=true
 po:PySem.W.plainOver K C=true
 sa:PySem.W.findIn K (.ref C) "__setattr__"=some (some<|.builtin "object.__setattr__")
def Cls.get {K C} (c:Cls K C) (f:Str):PySem.W.plainGet K C f=true:=c.pg
def NoAttr(K:Yj)(C:Addr)(f:Str):Prop:=PySem.W.findIn K (.ref C) f=some none
def NoAttr.taker {K C f} (n:NoAttr K C f):PySem.W.takerIn K C f=some none:=by
 unfold PySem.W.takerIn;rw[show PySem.W.findIn K (.ref C) f=some none from n]
 rfl
structure XF (K:Yj) (C:Addr) (m:Str) (f:Addr):Prop where
 at_:PySem.W.findIn K (.ref C) m=some (some<|.ref f)
 fn:PySem.W.isFn K (.ref f)=true
 kp:PySem.W.keepIn K (.ref f)=true
section
variable {X:Cx}{pins:Ym}{σ:St}{H:Hp}{s:Shared}{a C dx:Addr}{fs:List (Str×V)}{f:Str}{v:V}{A:Around}{E:Yo}
def Zn8{Q}(I:Inv X pins σ H s)(e:H a=some (.ins C dx fs))(c:Cls X.K C)(n:NoAttr X.K C f)(l:fs.lookup f=some v)(h:∀u s',Inv X pins σ H s'->RelV v u->Q u s'):wpAny (model X.prog X.w) A (getAttr (.ref a) f b) Q E s:=by
 obtain⟨mA,O,r,_,_,_⟩:=Fz I.hok e;obtain⟨u,hu,ru⟩:=RelO.some_of (by rw[←l];exact r f);exact Zmr I.kIn O (c.get f) c.hd n hu (EZ ru) (h u _ (I.tok _) ru)
def F2{Q}(I:Inv X pins σ H s)(e:H a=some (.ins C dx fs))(c:Cls X.K C)(k:XF X.K C m g)(l:fs.lookup m=none)(h:Q (.ref g,[.ref a]) s):wpAny (model X.prog X.w) A (getMethod (.ref a) m pl) Q E s:=by
 obtain⟨mA,O,r,_,_,_⟩:=Fz I.hok e;exact Zg2 I.kIn O (c.get m) k.at_ k.fn (RelO.none_of<|by rw[←l];exact r m) h
def Ze2(I:Inv X pins σ H s)(e:H a=some (.ins C dx fs))(c:Cls X.K C)(n:NoAttr X.K C f)(hl:fs.length<1000)(ry:RelV y u)(h:∀s',Inv X pins σ (upd H a<|.ins C dx<|KE f y fs) s'->Q () s'):wpAny (model X.prog X.w) A (setAttr (.ref a) f u) Q E s:=by
 obtain⟨mA,O,r,wi,_,ho⟩:=Fz I.hok e;have hz:(fs.map (·.1)).length<=sizeLine:=by rw[WG,JH];omega
 refine Zd8 I.kIn O c.sa c.po n.taker c.hd wi hz λh' O' sb=>h _ ?_;have hd:∃o,h'.get? dx=some o:=let ⟨o,_,_,e',_⟩:=O'.ns;⟨o,e'⟩;refine I.write (by rw[e];exact True.intro) (.inr ho) (λb q hb z=>(sb.2 b hb).trans z) hd ?_;refine⟨by rw[Xr O.ne];exact ho,?_,O.ne,O'.obj,_,O'.ns,λg=>?_,λg hg=>?_⟩
 ·have:=Lv f y fs;omega
 ·show RelO ((KE f y fs).lookup g) (if g=f then some u else mA g);rw[Ob];by_cases q:g=f
  ·rw[WO q,WO q];exact ry
  ·grind
 ·by_cases q:g=f
  ·rw[q];exact(DC f y fs).1
  ·refine(DC f y fs).2 g (wi g λz=>hg ?_)
   grind
def Inv.made (I:Inv X pins σ H s):Inv X pins σ (upd (upd H s.heap.objs.size<|.own (s.heap.objs.size+1)) (s.heap.objs.size+1)<|.ins C s.heap.objs.size [])
  {s with heap:=(s.heap.push PySem.W.emptyDict).push (PySem.W.instObj C s.heap.objs.size)}:=by
 have e1:(s.heap.push PySem.W.emptyDict).get? s.heap.objs.size=some PySem.W.emptyDict:=WX s.heap rfl
 have e2:((s.heap.push PySem.W.emptyDict).push (PySem.W.instObj C s.heap.objs.size)).get? (s.heap.objs.size+1)=some (PySem.W.instObj C s.heap.objs.size):=by
  have:=WX (s.heap.push PySem.W.emptyDict) (o:=PySem.W.instObj C s.heap.objs.size) rfl
  rwa[Vm]at this
 have e3:(s.heap.push PySem.W.emptyDict).Ns s.heap.objs.size (λ_=>none):=⟨PySem.W.emptyDict,#[],_,e1,rfl,(λe he=>absurd he (by simp)),λ_=>rfl⟩;refine(I.laid (o:=.own (s.heap.objs.size+1)) (t':=s.toks) (λb u q=>WM _ q) (WQ _) ⟨_,e1⟩).laid (λb u q=>WM _ q) (Vf<|Vm _ _) ?_;have ne:s.heap.objs.size≠s.heap.objs.size+1:=Qk (V4 _);refine⟨by rw[Xr ne,X4],QY _,ne,e2,λ_=>none,(Heap.Ns1.of_empty e3).at λo q=>WM _ q,λ_=>True.intro,λy hy=>absurd rfl hy⟩
def Hn{env e f pos s Q}(hb:attributeBase e f env (eval e env)=eval e env)(h:wpAny (model prog w) A (eval e env) (λo s₁=>wpAny (model prog w) A (getAttr o f true) Q E s₁) E s):wpAny (model prog w) A (eval (.Attribute e f pos) env) Q E s:=
 Attribute_any_ h (by rw[arm_eval_Attribute,hb])
end
noncomputable def FD(K:Yj)(ta:TE)(f:Str):TE:=λσ H Q=>ta σ H λx H1=>∃a C dx fs v,x=.ref a/\H1 a=some (.ins C dx fs)/\Cls K C/\NoAttr K C f/\fs.lookup f=some v/\Q v H1
noncomputable def Ms(K:Yj)(ta tv:TE)(f:Str):TS:=λD σ H=>tv σ H λy H1=>ta σ H1 λx H2=>∃a C dx fs,x=.ref a/\H2 a=some (.ins C dx fs)/\Cls K C/\NoAttr K C f/\fs.length<1000/\
 D.nx σ (upd H2 a<|.ins C dx<|KE f y fs)
section
variable {X:Cx}{o e value:Expr}{f:Str}{pos pos' tpos:Pos}{ta tv:TE}
def P8(he:PE X e ta)(hb:attributeBase e f X.env (eval e X.env)=eval e X.env):PE X (.Attribute e f pos) (FD X.K ta f):=by
 intro pins s σ H Q I h;refine Hn hb (thn (he pins s σ H _ I h) ?_);rintro u s1 ⟨x,H1,I1,rx,a,C,dx,fs,v,ex,ea,c,n,l,q⟩;subst ex;obtain rfl:=rx;exact Zn8 I1 ea c n l λu' s2 I2 ru=>⟨v,H1,I2,ru,q⟩
def Co(ha:PE X o ta)(hv:PE X value tv)(hs:swapsWith value (some<|.Attribute o f pos') pos.line X.env=pure false):PS X (.Assign [.Attribute o f pos'] value pos) (Ms X.K ta tv f):=by
 intro pins s σ H D I h;refine plainObj_wpAny_Assign_Attribute (thn (hv pins s σ H _ I h) ?_) hs;rintro u s1 ⟨y,H1,I1,ry,q⟩;refine thn (ha pins s1 σ H1 _ I1 q) ?_;rintro ov s2 ⟨x,H2,I2,rx,a,C,dx,fs,ex,ea,c,n,l,q2⟩;subst ex;obtain rfl:=rx;exact Ze2 I2 ea c n l ry λs3 I3=>⟨σ,_,I3,q2⟩
def Zp3{m}{apos}{args}{pins}{s}{σ:St}{H}{Q}{te}(he:PE X e te)(I:Inv X pins σ H s)
  (h:te σ H λx H1=>∃a C dx fs g,x=.ref a/\H1 a=some (.ins C dx fs)/\Cls X.K C/\XF X.K C m g/\fs.lookup m=none/\
   ∀s1,Inv X pins σ H1 s1->wpAny (model X.prog X.w) X.A (callWith pos (.ref g) [.ref a] (backTo pos<|starEach args X.env)<|backToKw pos<|keywordEach [] X.env) Q X.xe s1)
  (ht:eval (.Call (.Attribute e m apos) args [] pos) X.env=(do
   let ov ←eval e X.env
   standAt apos.atName
   let (f,first) ←holding [ov] (getMethod ov m pl)
   callWith pos f first (backTo pos<|starEach args X.env) (backToKw pos<|keywordEach [] X.env))) :
  wpAny (model X.prog X.w) X.A (eval (.Call (.Attribute e m apos) args [] pos) X.env) Q X.xe s:=by
 refine VJ (thn (he pins s σ H _ I h) ?_) ht;rintro u s1 ⟨x,H1,I1,rx,a,C,dx,fs,g,ex,ea,c,k,l,q⟩;subst ex;obtain rfl:=rx;exact F2 I1 ea c k l (q s1 I1)
end
section
variable {X:Cx}{pins:Ym}{σ:St}{H:Hp}{s:Shared}{A:Around}{E:Yo}{Q:Yo}{c:Value}{b:Bool}
inductive KQ (K:Yj) (H:Hp):V->Value->Prop where
 |non:KQ K H .non (.type "NoneType")
 |bl (x:Bool):KQ K H (.bl x) (.type "bool")
 |int (i:Int):KQ K H (.int i) (.type "int")
 |str (x:Str):KQ K H (.str x) (.type "str")
 |flt (x:UInt64):KQ K H (.flt x) (.type "float")
 |lst {a:Addr} {xs:List V} (e:H a=some (.lst xs)):KQ K H (.ref a) (.type "list")
 |frz {a:Addr} {o:Obj} {xs:List V} (e:H a=some (.frz o<|.lst xs)):KQ K H (.ref a) (.type "list")
 |tup {a:Addr} {xs:List V} (e:H a=some (.tup xs)):KQ K H (.ref a) (.type "tuple")
 |dK {a:Addr} {kvs:List (Key×V)} (e:H a=some (.dK kvs)):KQ K H (.ref a) (.type "dict")
 |dT {a:Addr} {kvs:List (List Key×V)} (e:H a=some (.dT kvs)):KQ K H (.ref a) (.type "dict")
 |ins {a C dx:Addr} {fs:List (Str×V)} (e:H a=some (.ins C dx fs)) (cl:Cls K C) (ha:PySem.W.findIn K (.ref C) "__class__"=some (some<|.builtin "object.__class__"))
   (hn:PySem.W.specialIn K (.builtin "object.__class__") "__get__"=some (some<|.builtin "getset_descriptor.__get__")) (htk:PySem.W.takesIn K (.builtin "object.__class__")=some true)
   (hm:PySem.W.mroIn K C (.type "object")=some true):KQ K H (.ref a) (.ref C)
def Zjg(I:Inv X pins σ H s)(rx:RelV x u)(ty:KQ X.K H x t)(e:PySem.W.kitOne X.K t c=some b)(h:∀tk,Q (.bool b) {s with toks:=tk}) :
  wpAny (model X.prog X.w) A (call (.builtin "isinstance") [u,c]) Q E s:=by
 cases ty with
 |non=>cases rx;exact QJ PySem.W.kitx_none I.kIn True.intro e (λz=>nomatch z) h
 |bl y=>cases rx;exact QJ PySem.W.kitx_bool I.kIn True.intro e (λz=>nomatch z) h
 |int i=>obtain⟨t,q⟩:=rx;cases q;exact QJ PySem.W.kitx_int I.kIn True.intro e (λz=>nomatch z) h
 |str y=>obtain⟨t,q⟩:=rx;cases q;exact QJ PySem.W.kitx_str I.kIn True.intro e (λz=>nomatch z) h
 |flt y=>obtain⟨t,q⟩:=rx;cases q;exact QJ PySem.W.kitx_float I.kIn True.intro e (λz=>nomatch z) h
 | @lst a xs ea=>
  cases rx
  obtain⟨_,_,n,_,h1⟩:=(I.hok a _ ea);exact QJ PySem.W.kitx_list I.kIn ⟨_,h1,rfl⟩ e (λz=>nomatch z) h
 | @frz a ob xs ea=>
  cases rx
  obtain⟨_,_,_,n,_,h1⟩:=(I.hok a _ ea);exact QJ PySem.W.kitx_list I.kIn ⟨_,h1,rfl⟩ e (λz=>nomatch z) h
 | @tup a xs ea=>
  cases rx
  obtain⟨_,_,_,p⟩:=(I.hok a _ ea);obtain⟨o,h1,h2,_⟩:=p;exact QJ PySem.W.kitx_tuple I.kIn ⟨o,h1,h2⟩ e (λz=>nomatch z) h
 | @dK a kvs ea=>
  cases rx
  obtain⟨_,_,vs,_,p⟩:=(I.hok a _ ea);obtain⟨o,es,ep,h1,h2,_⟩:=p;exact QJ PySem.W.kitx_dict I.kIn ⟨o,h1,h2.1⟩ e (λz=>nomatch z) h
 | @dT a kvs ea=>
  cases rx
  obtain⟨_,_,xs,_,o,es,ep,h1,h2,_⟩:=(I.hok a _ ea);exact QJ PySem.W.kitx_dict I.kIn ⟨o,h1,h2.1⟩ e (λz=>nomatch z) h
 | @ins a C dx fs ea cl ha hn htk hm=>
  cases rx
  obtain⟨mA,O,_⟩:=Fz I.hok ea;obtain⟨od,J,_⟩:=O.look;exact QJ (PySem.W.kitx_own (cl.get _) cl.hd ha hn htk hm) I.kIn J e (λz=>nomatch z) h
end
structure Xv (k:Nat) (A:Around):Prop where
 hd:A.handled=none
 dp:A.depth+3*k+5<recursionLimit
 un:A.units+16*k+200<cLine
 gd:A.guards=some []
def Xv.mono {j k A} (r:Xv k A) (h:j<=k):Xv j A:=⟨r.hd,by have:=r.dp;omega,by have:=r.un;omega,r.gd⟩
def Xv.deeper (r:Xv (k+1) A) (env:Env):Xv k (A.deeper env):=
 ⟨r.hd,by have:=r.dp;show A.depth+1+3*k+5<_;omega,by have:=r.un;show A.units+3+16*k+200<_;omega,r.gd⟩
def Zfg{A:Around}{C}{us}{kw}:(A.under<|.builtin "type.__call__" ⟨.ref C::us,kw⟩).depth=A.depth+1:=by
 rfl
def Zjm{A:Around}{C}{us}{kw}:(A.under<|.builtin "type.__call__" ⟨.ref C::us,kw⟩).units=A.units+1:=rfl
def Zc5{A:Around}{C:Addr}{us:Yr}{kw:List (Str×Value)}(h:A.guards=some []):(A.under<|.builtin "type.__call__" ⟨.ref C::us,kw⟩).guards=some []:=by
 simpa [Around.under,Code.guards,Code.isGuard,guardIds,pushGuards]using h
def Xv.make (r:Xv (k+1) A) (C:Addr) (us:Yr) (kw:List (Str×Value)):Xv k (A.under<|.builtin "type.__call__" ⟨.ref C::us,kw⟩):=
 ⟨r.hd,by have:=r.dp;rw[Zfg];omega,by have:=r.un;rw[Zjm];omega,Zc5 r.gd⟩
def Xv.depth (r:Xv k A):A.depth<recursionLimit:=by have:=r.dp;omega
def Xv.units (r:Xv k A):A.units+64<cLine:=by have:=r.un;omega
def Xv.units0 (r:Xv k A):A.units<cLine:=by have:=r.un;omega
noncomputable def KO:TA:=λ_ H Q=>Q [] H
noncomputable def Kl(ta:TE)(tr:TA):TA:=λσ H Q=>ta σ H λx H1=>tr σ H1 λxs H2=>Q (x::xs) H2
section
variable {X:Cx}{e:Expr}{es:Yt}{te:TE}{t:TA}{pos:Pos}
def Km:PA X [] KO:=λ_ _ _ _ H Q I h=>Calls.spliced_nil ⟨[],H,I,.nil,h⟩
def X7(ha:PE X e te)(hr:PA X es t)(hs:autoParam (starEach (e::es) X.env=(false,eval e X.env)::starEach es X.env) au_0):PA X (e::es) (Kl te t):=by
 intro pos pins s σ H Q I h;rw[hs];refine Calls.spliced_cons (thn (ha pins s σ H _ I h) ?_);rintro u s1 ⟨x,H1,I1,r1,q1⟩;exact thn (hr pos pins s1 σ H1 _ I1 q1) λus s2 ⟨xs,H2,I2,r2,q2⟩=>⟨x::xs,H2,I2,.cons r1 r2,q2⟩
noncomputable def Oe(t:TA):TE:=λσ H Q=>t σ H λxs H1=>xs.length<=sizeLine/\∀p,H1 p=none->Q (.ref p) (upd H1 p<|.tup xs)
noncomputable def Lb(t:TA):TE:=λσ H Q=>t σ H λxs H1=>xs.length<=sizeLine/\∀p,H1 p=none->Q (.ref p) (upd H1 p<|.lst xs)
def P4(h:PA X es t):PE X (.Tuple es x1 pos) (Oe t):=by
 intro pins s σ H Q I hq;refine wpAny_Tuple_spliced (thn (h pos pins s σ H _ I hq) ?_);rintro us s1 ⟨xs,H1,I1,r,z,q⟩;refine⟨by rw[←r.length];exact z,?_⟩;refine⟨.ref s1.heap.objs.size,upd H1 s1.heap.objs.size (.tup xs),I1.laid (λb u e=>WM _ e) (WQ _) ?_,rfl,q _ (I1.hok.fresh<|WQ _)⟩;exact⟨z,us,r,⟨_,WX _ rfl,rfl,_,rfl⟩⟩
def K9(h:PA X es t):PE X (.List es pos) (Lb t):=by
 intro pins s σ H Q I hq;refine wpAny_List_spliced (thn (h pos pins s σ H _ I hq) ?_);rintro us s1 ⟨xs,H1,I1,r,z,q⟩;refine⟨by rw[←r.length];exact z,?_⟩;refine⟨.ref s1.heap.objs.size,upd H1 s1.heap.objs.size (.lst xs),I1.laid (λb u e=>WM _ e) (WQ _) ?_,rfl,q _ (I1.hok.fresh<|WQ _)⟩;exact⟨z,us,0,r,WX _ rfl⟩
end
abbrev Sp:=List V->Hp->VK->XK->Prop
abbrev CXT:=List Env->Hp->Shared->XK->Yo
structure NG (P:Program) (w:World) (K:Yj) (mg:Yn) (base:Heap) (A:Around) (outer:List Env) (s:Shared) (H:Hp):Prop where
 frames:A.frames=some outer
 mod:Mod K mg base
 bs:∀b o,base.get? b=some o->s.heap.get? b=some o/\H b=none
 bsz:base.objs.size<=s.heap.objs.size
 funs:s.heap.FunFrames base outer
 frf:∀b∈frs outer,H b=none
 hok:HOk P w H s.heap
 bare:AllBare s.gens
def CE(outer:List Env)(P:Program)(w:World)(H:Hp)(s:Shared)(Q:VK)(u:Value)(s':Shared):Prop:=
 ∃v H',s'.os=s.os/\AllBare s'.gens/\Un (frs outer) [] H H' s.heap s'.heap/\HOk P w H' s'.heap/\RelV v u/\Q v H'
def CR(CX:CXT)(outer:List Env)(P:Program)(w:World)(H:Hp)(s:Shared)(Q:VK)(E:XK)(r:Result)(s':Shared):Prop:=
 match r with
 | .ok (.ret u)=>CE outer P w H s Q u s'
 | .ok _=>False
 | .error e=>CX outer H s E e s'
structure K8 (P:Program) (w:World) (K:Yj) (mg:Yn) (base:Heap) (CX:CXT) (k:Nat) (f:Addr) (fd:FuncData) (ps:Ys) (sp:Sp):Prop where
 len:∀vs H Q E,sp vs H Q E->vs.length=ps.length
 run:∀(A:Around) (outer:List Env) (s:Shared) (H:Hp) (args:Args) (us:Yr) (vs:List V) (Q:VK) (E:XK),Xv k A->NG P w K mg base A outer s H->BindsTo s fd args (ps.zip us)->Vals vs us->sp vs H Q E->
  codeAny (model P w) A (.call (.ref f) args) (CR CX outer P w H s Q E) s
def K8.imp {K mg base CX k f fd ps sp sp'} (F:K8 P w K mg base CX k f fd ps sp)
  (h:∀vs H Q E,sp' vs H Q E->sp vs H Q E):K8 P w K mg base CX k f fd ps sp':=
 ⟨λvs H Q E q=>F.len vs H Q E (h _ _ _ _ q),λA outer s H args us vs Q E hr he hb hv hs=>F.run A outer s H args us vs Q E hr he hb hv (h _ _ _ _ hs)⟩
def NG.make {K mg base A outer s H} (e:NG P w K mg base A outer s H) (C:Addr) (us:Yr) (kw:List (Str×Value)) :
  NG P w K mg base (A.under<|.builtin "type.__call__" ⟨.ref C::us,kw⟩) outer s H:=⟨by first|exact e.frames|(simpa [Around.under,Code.envs,Code.isFrame,pushEnvs]using e.frames),e.mod,e.bs,e.bsz,e.funs,e.frf,e.hok,e.bare⟩
section
variable {X:Cx}{pins:Ym}{σ:St}{H:Hp}{s s':Shared}
def Inv.env0 (I:Inv X pins σ H s):NG X.prog X.w X.K X.mg X.base X.A X.stack s H:=
 ⟨I.ok.frames,I.ok.mod,I.bs,WU I.ok.bsz I.sz,I.stack,I.stkFree,I.hok,I.bare⟩
def Inv.after (I:Inv X pins σ H s) (h:CE X.stack X.prog X.w H s Q u s'):EP X pins σ Q u s':=by
 obtain⟨v,H',os,bare,un,hok,r,q⟩:=h;obtain⟨hh,g,d,t,os'⟩:=s';obtain rfl:=os;exact⟨v,H',I.call un hok bare (λb z=>absurd z (by simp)),r,q⟩
end
noncomputable def TK(sp:Sp)(dvs:List V)(E:XK)(t:TA):TE:=λσ H Q=>t σ H λvs H1=>sp (vs++dvs) H1 Q E
noncomputable def TR(C:Addr)(m:Str)(sp:Sp)(dvs:List V)(E:XK)(ta:TE)(t:TA):TE:=λσ H Q=>ta σ H λx H1=>∃a dx fs,x=.ref a/\H1 a=some (.ins C dx fs)/\fs.lookup m=none/\
 t σ H1 λvs H2=>sp (x::(vs++dvs)) H2 Q E
noncomputable def A5(C:Addr)(sp:Sp)(dvs:List V)(E:XK)(t:TA):TE:=λσ H Q=>t σ H λvs H1=>∀x dx,H1 x=none->H1 dx=none->dx≠x->
 sp (.ref x::(vs++dvs)) (upd (upd H1 dx<|.own x) x<|.ins C dx []) (λv H2=>v=.non/\Q (.ref x) H2) E
def Binds(K:Yj)(fd:FuncData)(ps:Ys)(ds:Yr):Prop:=
 ∀(s:Shared) (us:Yr),K.In s.heap->(us++ds).length=ps.length->BindsTo s fd ⟨us,[]⟩ (ps.zip (us++ds))
def Binds.all {K fd ps} (h:∀us,us.length=ps.length->bindArgs fd ⟨us,[]⟩=pure (ps.zip us)):Binds K fd ps []:=λs us _ hl=>by
 rw[QB]at hl ⊢;exact .of_eq (h us hl)
def Pj(CX:CXT)(X:Cx)(E:XK):Prop:=∀(pins:Ym) (σ:St) (H:Hp) (s:Shared) (e:Value) (s':Shared),Inv X pins σ H s->CX X.stack H s E e s'->X.xe e s'
section
variable {X:Cx}{CX:CXT}{k:Nat}{f C:Addr}{fd:FuncData}{ps:Ys}{sp:Sp}{dvs:List V}{ds:Yr}{E:XK}{x m:Str}{p pos apos:Pos}{e o:Expr}{es:Yt}{ta:TE}{t:TA}
def DP{σ:St}{H}{s}{Q}{us}{vs}(F:K8 X.prog X.w X.K X.mg X.base CX k f fd ps sp)(hr:Xv k X.A)(hb:Binds X.K fd ps ds)(hd:Vals dvs ds)(hx:Pj CX X E)(I:Inv X pins σ H s)(r:Vals vs us)(h:sp (vs++dvs) H Q E):wpAny (model X.prog X.w) X.A (call (.ref f) us) (EP X pins σ Q) X.xe s:=by
 have r2:=r.append hd;have hl:(us++ds).length=ps.length:=by rw[←r2.length];exact F.len _ _ _ _ h
 refine J4 (Vp (F.run X.A X.stack s H ⟨us,[]⟩ (us++ds) (vs++dvs) Q E hr I.env0 (hb s us I.kIn hl) r2 h) λr s' hq=>?_);cases r with
 |error e=>exact hx pins σ H s e s' I hq
 |ok fl=>
  cases fl with
  |ret u=>exact I.after hq
  |cont=>exact False.elim hq
  |_=>trivial
def Zjd(F:K8 X.prog X.w X.K X.mg X.base CX k f fd ps sp)(hr:Xv k X.A)(hg:Gl X x)(hm:X.mg x=some (.ref f))(hk:PySem.W.keepIn X.K (.ref f)=true)(hb:Binds X.K fd ps ds)(hd:Vals dvs ds)(hx:Pj CX X E)(ha:PA X (e::es) t)(hdb:autoParam ((x==("__debug__" : Str))=false) au_1)(he:autoParam (starEach (e::es) X.env=(false,eval e X.env)::starEach es X.env) au_0)(hpl:autoParam ((backTo pos<|starEach es X.env).any (·.1)=false) au_0) :
  PE X (.Call (.Name x p) (e::es) [] pos) (TK sp dvs E t):=by
 intro pins s σ H Q I h;refine Ja (NX I hg hm ?_ hdb);refine Jb I.ok.mod.kin hk (thn (ha pos pins s σ H _ I h) ?_) he hpl;rintro us s1 ⟨vs,H1,I1,r,q⟩;refine⟨I1.kIn,?_⟩;exact DP F hr hb hd hx I1 r q
def Zah{pl}(he:PE X o ta)(c:Cls X.K C)(hm:XF X.K C m f)(F:K8 X.prog X.w X.K X.mg X.base CX k f fd ps sp)(hr:Xv k X.A)(hb:Binds X.K fd ps ds)(hd:Vals dvs ds)(hx:Pj CX X E)(ha:PA X (e::es) t)(hst:autoParam (starEach (e::es) X.env=(false,eval e X.env)::starEach es X.env) au_0)(hpl:autoParam ((backTo pos<|starEach es X.env).any (·.1)=false) au_0)
  (ht:autoParam (eval (.Call (.Attribute o m apos) (e::es) [] pos) X.env=(do
   let ov ←eval o X.env
   standAt apos.atName
   let (f,first) ←holding [ov] (getMethod ov m pl)
   callWith pos f first (backTo pos<|starEach (e::es) X.env) (backToKw pos<|keywordEach [] X.env))) au_0) :
  PE X (.Call (.Attribute o m apos) (e::es) [] pos) (TR C m sp dvs E ta t):=by
 intro pins s σ H Q I h;refine VJ (thn (he pins s σ H _ I h) ?_) ht;rintro u s1 ⟨x,H1,I1,rx,a,dx,fs,ex,ea,l,q⟩;subst ex;obtain rfl:=rx;refine F2 I1 ea c hm l ?_;refine Jb I.ok.mod.kin hm.kp (thn (ha pos pins s1 σ H1 _ I1 q) ?_) hst hpl;rintro us s2 ⟨vs,H2,I2,r,q2⟩;refine⟨I2.kIn,?_⟩;exact DP (vs:=.ref a::vs) F hr hb hd hx I2 (.cons rfl r) q2
def Zhr(he:PE X o ta)(c:Cls X.K C)(hm:XF X.K C m f)(F:K8 X.prog X.w X.K X.mg X.base CX k f fd ps sp)(hr:Xv k X.A)(hb:Binds X.K fd ps ds)(hd:Vals dvs ds)(hx:Pj CX X E)
  (ht:autoParam (eval (.Call (.Attribute o m apos) [] [] pos) X.env=(do
   let ov ←eval o X.env
   standAt apos.atName
   let (f,first) ←holding [ov] (getMethod ov m pl)
   callWith pos f first (backTo pos<|starEach [] X.env) (backToKw pos<|keywordEach [] X.env))) au_0) :
  PE X (.Call (.Attribute o m apos) [] [] pos) (TR C m sp dvs E ta KO):=by
 intro pins s σ H Q I h;refine VJ (thn (he pins s σ H _ I h) ?_) ht;rintro u s1 ⟨x,H1,I1,rx,a,dx,fs,ex,ea,l,q⟩;subst ex;obtain rfl:=rx;refine F2 I1 ea c hm l ?_;exact PySem.W.callWith_K0 I1.kIn hm.kp (DP (vs:=[.ref a]) F hr hb hd hx I1 (.cons rfl .nil) q)
structure Mk (K:Yj) (C f:Addr):Prop where
 makes:PySem.W.makesIn K C=true
 init:PySem.W.findIn K (.ref C) "__init__"=some (some<|.ref f)
 fn:PySem.W.isFn K (.ref f)=true
 kp:PySem.W.keepIn K (.ref C)=true
def Zmp{σ:St}{H}{s}{Q}{us}{vs}(M:Mk X.K C f)(F:K8 X.prog X.w X.K X.mg X.base CX k f fd ps sp)(hr:Xv (k+1) X.A)(hb:Binds X.K fd ps ds)(hd:Vals dvs ds)(hx:Pj CX X E)(I:Inv X pins σ H s)(r:Vals vs us)(h:∀x dx,H x=none->H dx=none->dx≠x->sp (.ref x::(vs++dvs)) (upd (upd H dx<|.own x) x<|.ins C dx []) (λv H2=>v=.non/\Q (.ref x) H2) E) :
  wpAny (model X.prog X.w) X.A (call (.ref C) us) (EP X pins σ Q) X.xe s:=by
 have hq:=h (s.heap.objs.size+1) s.heap.objs.size (I.hok.fresh<|VF _) (I.hok.fresh<|WQ _) (Qk<|V4 _);have I2:=Inv.made (C:=C) I;have r2:Vals (V.ref (s.heap.objs.size+1)::(vs++dvs)) (Value.ref (s.heap.objs.size+1)::(us++ds)):=.cons rfl (r.append hd)
 have hl:(Value.ref (s.heap.objs.size+1)::us++ds).length=ps.length:=by
  have e:=r2.length;rw[F.len _ _ _ _ hq]at e
  grind
 refine J4 (Zla I.kIn M.makes M.init (beq_iff_eq.mp M.fn) (Vp (F.run _ X.stack _ _ ⟨Value.ref (s.heap.objs.size+1)::us,[]⟩ (Value.ref (s.heap.objs.size+1)::(us++ds)) _ _ E (hr.make C us [])
  (I2.env0.make C us []) (hb _ (Value.ref (s.heap.objs.size+1)::us) I2.kIn hl) r2 hq) λr s' hq'=>?_))
 cases r with
 |error e=>exact hx pins σ _ _ e s' I2 hq'
 |ok fl=>
  cases fl with
  |ret u=>
   obtain⟨v,H',I3,rv,ev,q3⟩:=I2.after hq';subst ev;exact⟨rv,⟨V.ref (s.heap.objs.size+1),H',I3,rfl,q3⟩⟩
  |_=>exact False.elim hq'
def Zop(M:Mk X.K C f)(F:K8 X.prog X.w X.K X.mg X.base CX k f fd ps sp)(hr:Xv (k+1) X.A)(hg:Gl X x)(hm:X.mg x=some (.ref C))(hb:Binds X.K fd ps ds)(hd:Vals dvs ds)(hx:Pj CX X E)(ha:PA X (e::es) t)(hdb:autoParam ((x==("__debug__" : Str))=false) au_1)(he:autoParam (starEach (e::es) X.env=(false,eval e X.env)::starEach es X.env) au_0)(hpl:autoParam ((backTo pos<|starEach es X.env).any (·.1)=false) au_0) :
  PE X (.Call (.Name x p) (e::es) [] pos) (A5 C sp dvs E t):=by
 intro pins s σ H Q I h;refine Ja (NX I hg hm ?_ hdb);refine Jb I.ok.mod.kin M.kp (thn (ha pos pins s σ H _ I h) ?_) he hpl;rintro us s1 ⟨vs,H1,I1,r,q⟩;refine⟨I1.kIn,?_⟩;exact Zmp M F hr hb hd hx I1 r q
end
structure Xn (N P:Ys) (sc:Scope):Prop where
 kind:sc.kind=.function
 co:sc.isCoroutine=false
 gen:sc.isGenerator=false
 nd:N.Nodup
 pre:N.take P.length=P
 par:∀x∈P,sc.names.lookup x=some .local\/sc.names.lookup x=some .cell
 nofree:∀y∈sc.names,y.2≠.free
theorem IP{kindOf x}:∀{binds}{m:Yn},(∀v,(x,v)∉binds)->bindL kindOf binds m x=m x
 |[],_,_=>rfl
 |(n,v)::r,m,h=>by
  unfold bindL;rw[IP λw hw=>h w (Qe _ hw)];split
  ·grind
  ·rfl
theorem ON{kindOf x}:∀{binds}{m:Yn},(∀v,(x,v)∉binds)->bindC kindOf binds m x=m x
 |[],_,_=>rfl
 |(n,v)::r,m,h=>by
  unfold bindC;rw[ON λw hw=>h w (Qe _ hw)];split
  ·rfl
  ·grind
theorem Gz{kindOf}{x}{v}:∀{P:Ys}{vs}{i:Nat}{m:Yn},P.Nodup->P[i]?=some x->vs[i]?=some v->kindOf x=some .local->
  bindL kindOf (P.zip vs) m x=some v
 |[],_,_,_,_,h,_,_|_::_,[],_,_,_,_,h,_=>by simp at h
 |p::P,w::vs,0,m,nd,h1,h2,hk=>by
  simp at h1 h2;subst h1;subst h2;show bindL kindOf ((p,w)::P.zip vs) m p=_;unfold bindL;rw[IP λv hv=>(Q3.mp nd).1 (List.of_mem_zip hv).1,WO hk];simp
 |p::P,w::vs,i+1,m,nd,h1,h2,hk=>by
  unfold bindL;exact Gz (Q3.mp nd).2 (by trivial) (by grind) hk
theorem LR{kindOf}{x}{v}:∀{P:Ys}{vs}{i:Nat}{m:Yn},P.Nodup->P[i]?=some x->vs[i]?=some v->kindOf x≠some .local->
  bindC kindOf (P.zip vs) m x=some v
 |[],_,_,_,_,h,_,_|_::_,[],_,_,_,_,h,_=>by simp at h
 |p::P,w::vs,0,m,nd,h1,h2,hk=>by
  simp at h1 h2;subst h1;subst h2;show bindC kindOf ((p,w)::P.zip vs) m p=_;unfold bindC;rw[ON λv hv=>(Q3.mp nd).1 (List.of_mem_zip hv).1,WN hk];simp
 |p::P,w::vs,i+1,m,nd,h1,h2,hk=>by
  unfold bindC;exact LR (Q3.mp nd).2 (by trivial) (by grind) hk
noncomputable def start(N:Ys)(vs:List V):St:=vs.map some++List.replicate (N.length-vs.length) none
noncomputable def XY(CX:CXT)(P:Program)(w:World)(K:Yj)(mg:Yn)(base:Heap)(N:Ys)(qual:Str)(scope:Scope)(f:Addr)(cd:Value)(A:Around)(outer:List Env)(s:Shared)(H:Hp)(E:XK):Cx where
 prog:=P
 w:=w
 K:=K
 mg:=mg
 base:=base
 A:=A.deeper (envOfC qual scope s.heap.objs.size f cd)
 N:=N
 s₀:=s
 H₀:=H
 env:=envOfC qual scope s.heap.objs.size f cd
 outer:=outer
 stack:=envOfC qual scope s.heap.objs.size f cd::outer
 ex:=[]
 calm:=true
 fn:=λ_=>true
 pn:=[]
 xe:=λe s'=>wpAny (model P w) (A.deeper<|envOfC qual scope s.heap.objs.size f cd) (leaving (envOfC qual scope s.heap.objs.size f cd) e) (λ_ s''=>CX outer H s E e s'') (λe' s''=>CX outer H s E e' s'') s'
def GU{sc:Scope}{n}{x}(h:sc.names.lookup x=some .cell):∃c,(cellsFrom n sc.names []).lookup x=some c:=by
 exact Option.isSome_iff_exists.mp (PySem.W.cellsFrom_some sc.names n []<|.inl h)
def Zc3{P}{w}{K}{mg}{base}{N ps}{qual}{scope}{f}{cd}{A}{outer}{s s1}{H}{E}{us}{vs}(S:Xn N ps scope)(hd:A.handled=none)(e0:NG P w K mg base A outer s H)(hl:vs.length=ps.length)(r:Vals vs us)(x:InCallC s s.heap.objs.size (bindL (envOfC qual scope s.heap.objs.size f cd).kindOf (ps.zip us) λ_=>none) (cellsFrom (s.heap.objs.size+1) scope.names []) (bindC (envOfC qual scope s.heap.objs.size f cd).kindOf (ps.zip us) λ_=>none) s1) :
  Inv (XY CX P w K mg base N qual scope f cd A outer s H E) [] (start N vs) H s1:=by
 have hpl:ps.length<=N.length:=by have:=Q2 List.length S.pre;rw[Qm]at this;omega
 obtain⟨h1,tk,rfl,hk⟩:=x.done;have noA:∀b,b∉(XY CX P w K mg base N qual scope f cd A outer s H E).ex:=λb z=>absurd (show b∈([]:List Addr)from z) (by simp)
 refine⟨⟨e0.mod,S.kind,rfl,rfl,WQ _,λy z c h1 h2=>?_,λy hy=>?_,λy c _ h=>?_,λ_=>hd,Around.frames_deeper e0.frames,.inr ⟨rfl,rfl⟩,λb z=>absurd z (noA b),e0.bs,e0.bsz,λb _ _=>noA b,λb z=>absurd z (noA b),e0.funs,e0.frf⟩,
  rfl,e0.bare,Un.kept hk,⟨_,x.toInCall.ns,λi y v h1 h2 h3=>?_⟩,λy c h=>⟨_,x.cell y c h⟩,e0.hok.fresh (WQ _),λy c h=>?_,λp hp=>absurd (show p∈([]:Ym)from hp) (by simp),e0.hok.kept hk,?_⟩
 ·exact name_of_addr x.apart (Vl h1) (Vl h2)
 ·have hy:=hy;rcases hy with hy|hy
  ·exact GU hy
  ·exact absurd rfl (S.nofree _<|Vl hy)
 ·exact VZ (x.above y c<|Vl h)
 ·have hi:i<vs.length:=by
   unfold start at h2;by_cases hi:i<vs.length
   ·exact hi
   ·rw[Q1 (by simpa using hi)]at h2;rw[VA]at h2;split at h2<;>cases h2
  have ha:vs[i]?=some v:=by
   unfold start at h2;rw[Qs (by simpa using hi),WS]at h2;cases e:vs[i]? with
   |none=>rw[e]at h2;cases h2
   |some a=>rw[e]at h2;cases h2;rfl
  obtain⟨u,hu,rv⟩:=r.get ha
  have hp:ps[i]?=some y:=by
   rw[←S.pre,Vg (by omega)];exact h1
  have ndP:ps.Nodup:=by rw[←S.pre];exact S.nd.sublist (Vx _ _)
  refine⟨u,rv,?_⟩;rcases S.par y (Qg hp)with k|k
  ·exact .inl ⟨k,Gz ndP hp hu k⟩
  ·obtain⟨c,e⟩:=GU k;refine .inr ⟨.inl k,c,e,?_⟩;have q:=x.cell y c e;rw[LR ndP hp hu (by show scope.names.lookup y≠_;rw[k];decide)]at q;exact q
 ·exact e0.hok.fresh (VZ<|x.above y c<|Vl h)
 ·unfold start;show _=N.length;rw[WR,WG,List.length_replicate];omega
def AW{K mg base k f name qual params body scope dV kV doc pm cdv ct oc an od osl N ps sp}(lk:K.lookup f=some ⟨oc,od,.func (PySem.W.fnOf name qual params body scope dV kV doc pm an cdv ct),osl⟩)(hcd:PySem.W.codeIn K cdv qual=true)(S:Xn N ps scope)(len:∀vs H Q E,sp vs H Q E->vs.length=ps.length)
  (hbody:∀A outer s H vs Q E,Xv k (A.deeper<|envOfC qual scope s.heap.objs.size f cdv)->sp vs H Q E->
   ∃t,PSs (XY CX P w K mg base N qual scope f cdv A outer s H E) body t/\t {nx:=λ_ H'=>Q .non H',rt:=Q} (start N vs) H) :
  K8 P w K mg base CX (k+1) f (PySem.W.fnOf name qual params body scope dV kV doc pm an cdv ct) ps sp:=by
 refine⟨len,λA outer s H args us vs Q E hr e0 hb r hsp=>?_⟩;have KX:=e0.mod.kin.keeps λb o e=>(e0.bs b o e).1
 have hkind:∀y∈ps.zip us,scope.names.lookup y.1=some .local\/(scope.names.lookup y.1=some .cell/\((cellsFrom (s.heap.objs.size+1) scope.names []).lookup y.1).isSome=true):=λ⟨n,v⟩ hy=>by
  rcases S.par n (List.of_mem_zip hy).1 with q|q
  ·exact .inl q
  ·exact .inr ⟨q,PySem.W.cellsFrom_some _ _ _ (.inl q)⟩
 refine codeAny_call_function hr.depth (KX _ _ lk) rfl S.co S.gen rfl (PySem.W.codeRec_of KX hcd) (hb _ _ _ _ ?_);refine wpAny_newFunctionEnv_cells S.kind hkind λenv he s1 x=>?_;subst he;refine⟨(e0.mod.nolimit.keeps λb o e=>(e0.bs b o e).1).keeps x.toInCall.keep,codeAny_func ?_⟩;obtain⟨t,ht,hq⟩:=hbody A outer s H vs Q E (hr.deeper _) hsp;have I:Inv (XY CX P w K mg base N qual scope f cdv A outer s H E) [] (start N vs) H s1:=Zc3 S hr.hd e0 (len _ _ _ _ hsp) r x;refine Qz (ht [] s1 (start N vs) H _ I hq) (λfl s' hs=>?_) λe s' hs=>hs
 have fin:∀{σ':St} {H':Hp} {v:V} {u:Value},Inv (XY CX P w K mg base N qual scope f cdv A outer s H E) [] σ' H' s'->RelV v u->Q v H'->CE outer P w H s Q u s':=
  λ{σ' H' v u} J rv q=>⟨v,H',J.os,J.bare,J.base,J.hok,rv,q⟩
 cases fl with
 |ret u=>
  obtain⟨v,σ',H',J,rv,q⟩:=hs;exact fin J rv q
 |next=>
  obtain⟨σ',H',J,q⟩:=hs;exact fin (v:=V.non) J rfl q
 |_=>
  obtain⟨_,_,_,q⟩:=hs;exact False.elim q
section
variable {X:Cx}{x:Str}{p pos:Pos}{e:Expr}{es:Yt}{t:TA}{id T:String}{r:List V->Hp->VK->Prop}
noncomputable def tCB(r:List V->Hp->VK->Prop)(t:TA):TE:=λσ H Q=>t σ H λvs H1=>r vs H1 Q
def Ka(hc:Kh X (.builtin id) r)(hg:Gl X x)(hm:X.mg x=none)(hv:bootBuiltins x=some (.builtin id))(ha:PA X (e::es) t)(hn:autoParam (x≠"__name__") au_1)(hdb:autoParam ((x==("__debug__" : Str))=false) au_1)(he:autoParam (starEach (e::es) X.env=(false,eval e X.env)::starEach es X.env) au_0)(hpl:autoParam ((backTo pos<|starEach es X.env).any (·.1)=false) au_0):PE X (.Call (.Name x p) (e::es) [] pos) (tCB r t):=by
 intro pins s σ H Q I h;refine Ja (B4 I hg hm hv ?_ hn hdb);exact PyProof.Rows.callWith_builtin1 (thn (ha pos pins s σ H _ I h) λus s1 ⟨vs,H1,I1,r1,q1⟩=>hc pins s1 σ H1 vs us Q I1 r1 q1) he hpl
def P5(hc:Kh X (.type T) r)(hg:Gl X x)(hm:X.mg x=none)(hv:bootBuiltins x=some (.type T))(ha:PA X (e::es) t)(hn:autoParam (x≠"__name__") au_1)(hdb:autoParam ((x==("__debug__" : Str))=false) au_1)(he:autoParam (starEach (e::es) X.env=(false,eval e X.env)::starEach es X.env) au_0)(hpl:autoParam ((backTo pos<|starEach es X.env).any (·.1)=false) au_0):PE X (.Call (.Name x p) (e::es) [] pos) (tCB r t):=by
 intro pins s σ H Q I h;refine Ja (B4 I hg hm hv ?_ hn hdb);exact VP (thn (ha pos pins s σ H _ I h) λus s1 ⟨vs,H1,I1,r1,q1⟩=>hc pins s1 σ H1 vs us Q I1 r1 q1) he hpl
end
end L2
namespace HT
open PySem PyProof.Rows
section
variable {prog:Program}{w:World}{A:Around}{E:Yo}{s:Shared}
def Zml(ht:IsTup s.heap t vs.toArray)(hb:IsTup s.heap b ws.toArray)(hv:vs≠[])(h1:ws=[]->Q (.ref t) s)(h2:ws≠[]->Q (.ref s.heap.objs.size) {s with heap:=s.heap.push {cls:=.type "tuple",data:=.seq (vs++ws).toArray}})(hsz:vs.length+ws.length<=sizeLine):wpAny (model prog w) A (binaryOp .Add (.ref t)<|.ref b) Q E s:=by
 obtain⟨⟨cls,dd,data,sl⟩,ho,hc,n,hd⟩:=id ht;obtain⟨⟨cls2,dd2,data2,sl2⟩,ho2,hc2,n2,hd2⟩:=id hb;simp only at hc hd hc2 hd2;subst hc hd hc2 hd2;by_cases hw:ws=[]
 ·exact concat_meets ⟨_,ho,rfl⟩ ⟨_,ho2,rfl⟩ noFill_tuple_add seq_tuple_add Js Jk (Jc _ _)
   (tuple_addW1 t b vs.toArray ws.toArray n n2 dd dd2 sl sl2 (by simpa using hv)<|by simp[hw]) ⟨ho,ho2,h1 hw⟩
 ·refine concat_meets ⟨_,ho,rfl⟩ ⟨_,ho2,rfl⟩ noFill_tuple_add seq_tuple_add Js Jk (Jc _ _)
   (tuple_addW2 t b vs.toArray ws.toArray n n2 dd dd2 sl sl2 (by simpa using hv) (by simpa using hw)<|by omega) ⟨ho,ho2,?_⟩
  grind
noncomputable def sIx(n d:Nat):Option Int->Nat
 |none=>d
 |some v=>if v<0 then(v+(n:Int)).toNat else min v.toNat n
def GD(n d:Nat):sIx n d none=d:=rfl
def BQ(n d k:Nat):sIx n d (some (k:Int))=min k n:=rfl
end
end HT
namespace L2
open PySem PySem.Spec PyProof.Rows
abbrev TO:=St->Hp->(Option Int->Hp->Prop)->Prop
def PO(X:Cx)(e:Option Expr)(t:TO):Prop:=
 ∀(pins:Ym) (s:Shared) (σ:St) (H:Hp) (Q:Option Int->Hp->Prop),Inv X pins σ H s->t σ H Q->
  wpAny (model X.prog X.w) X.A (evalPart e X.env) (λu s'=>∃o H',Inv X pins σ H' s'/\IsPart u o/\Q o H') X.xe s
noncomputable def My:TO:=λ_ H Q=>Q none H
noncomputable def Iw(t:TE):TO:=λσ H Q=>t σ H λx H1=>∃i,x=.int i/\Q (some i) H1
def F5:∀{us:Yr},Vals (ns.map V.int) us->IntsAre us ns:=by
 induction ns with
 |nil=>intro us r;rw[List.map_nil]at r;cases r;exact .nil
 |cons n ns ih=>
  intro us r;cases r with
  |cons r1 r2=>
   obtain⟨t,e⟩:=r1;subst e;exact .cons n t (ih r2)
section
variable {X:Cx}{e:Expr}{te:TE}{lo hi:Option Expr}{tl th:TO}{pos p2:Pos}
def Md:PO X none My:=by
 intro pins s σ H Q I h;exact WL ⟨none,H,I,.none,h⟩
def Fm(h:PE X e te):PO X (some e) (Iw te):=by
 intro pins s σ H Q I hw;refine thn (h pins s σ H _ I hw) ?_;rintro u s1 ⟨x,H1,I1,r1,q1⟩;obtain⟨i,rfl,q⟩:=q1;obtain⟨t,rfl⟩:=r1;exact⟨some i,H1,I1,.int i t,q⟩
def SlR(X:Cx)(r:V->Option Int->Option Int->Hp->VK->Prop):Prop:=
 ∀(pins:Ym) (s:Shared) (σ:St) (H:Hp) (x:V) (v vl vu:Value) (lo hi:Option Int) (sl:Addr) (Q:VK),Inv X pins σ H s->RelV x v->s.heap.IsSliceOf sl vl vu .none->IsPart vl lo->IsPart vu hi->r x lo hi H Q->
  ∃T id,typeLookup (.type T) "__getitem__"=pure (some<|.builtin id)/\s.TypeIs v T/\wpAny (model X.prog X.w) X.A (getItem v<|.ref sl) (EP X pins σ Q) X.xe s
noncomputable def tSl(r:V->Option Int->Option Int->Hp->VK->Prop)(te:TE)(tl th:TO):TE:=λσ H Q=>te σ H λx H1=>tl σ H1 λl H2=>th σ H2 λu H3=>r x l u H3 Q
def AB(hr:SlR X r)(he:PE X e te)(hl:PO X lo tl)(hu:PO X hi th):PE X (.Subscript e (.Slice lo hi none p2) pos) (tSl r te tl th):=by
 intro pins s σ H Q I h;refine Subscript_ (thn (he pins s σ H _ I h) ?_);rintro v s1 ⟨x,H1,I1,r1,q1⟩;refine wpAny_Slice (thn (hl pins s1 σ H1 _ I1 q1) ?_);rintro vl s2 ⟨l,H2,I2,pl,q2⟩;refine thn (hu pins s2 σ H2 _ I2 q2) ?_;rintro vu s3 ⟨u,H3,I3,pu,q3⟩;refine WL ?_;have I4:Inv X pins σ H3 {s3 with heap:=s3.heap.push {cls:=.type "slice",data:=.fields #[vl,vu,.none]}}:=I3.kept λb ob q=>WM _ q
 obtain⟨T,id,hT,ht,hg⟩:=hr pins {s3 with heap:=s3.heap.push {cls:=.type "slice",data:=.fields #[vl,vu,.none]}} σ H3 x v vl vu l u s3.heap.objs.size Q I4 r1 (Heap.IsSliceOf.new ..) pl pu q3
 exact tail_any ht hT hg rfl
noncomputable def Ts(xs:List V)(lo hi:Option Int):List V:=(xs.drop<|HT.sIx xs.length 0 lo).take (HT.sIx xs.length xs.length hi-HT.sIx xs.length 0 lo)
def Zh8(xs:List V)(lo hi:Option Int):(Ts xs lo hi).length<=xs.length:=by
 unfold Ts
 grind
noncomputable def RY(K:Yj):R2:=λx y H Q=>∃a b xs ys,x=.ref a/\y=.ref b/\SqT K H a xs/\SqT K H b ys/\xs≠[]/\xs.length+ys.length<=sizeLine/\
 (ys=[]->Q (.ref a) H)/\(ys≠[]->∀p,H p=none->Q (.ref p) (upd H p<|.tup (xs++ys)))
def Vals.nil_iff (r:Vals xs us):us=[]↔xs=[]:=by
 cases r with
 |_=>simp
def Zdo:OpR X (binaryOp .Add) (RY X.K):=by
 intro pins s σ H x y v u Q I rx ry h;obtain⟨a,b,xs,ys,rfl,rfl,ha,hb,hx,hz,q1,q2⟩:=h;cases rx
 cases ry
 obtain⟨its,r1,p1,_⟩:=I.tuple ha;obtain⟨its2,r2,p2,_⟩:=I.tuple hb;refine HT.Zml p1 p2 (λz=>hx (r1.nil_iff.mp z)) (λz=>⟨.ref a,H,I,rfl,q1 (r2.nil_iff.mp z)⟩) (λz=>?_) (by rw[←r1.length,←r2.length];exact hz);refine⟨.ref s.heap.objs.size,_,I.laid (λb ob q=>WM _ q) (WQ _) ?_,rfl,q2 (λw=>z (r2.nil_iff.mpr w)) _ (I.hok.fresh<|WQ _)⟩;exact⟨by rw[WR];exact hz,_,r1.append r2,IsTup.new _ _⟩
end
noncomputable def ixN(n:Nat)(i:Int):Option Nat:=if 0<=i then(if i<n then some i.toNat else none)else if -(n:Int)<=i then some (i+n).toNat else none
noncomputable def atI{α:Type}(xs:List α)(i:Int):Option α:=(ixN xs.length i).bind λj=>xs[j]?
def OC(h:ixN n i=some j):seqIndex? i n=some j/\j<n/\-(n:Int)<=i/\i<n:=by
 unfold ixN at h;by_cases h0:0<=i
 ·rw[WO h0]at h;by_cases h1:i<n
  ·rw[WO h1]at h;have e:=WW h;exact⟨by rw[seqIndex_of h0 h1,e],by omega,by omega,h1⟩
  ·grind
 ·rw[WN h0]at h;by_cases h1:-(n:Int)<=i
  ·rw[WO h1]at h;have e:=WW h;exact⟨by rw[seqIndex_neg (by omega) h1,e],by omega,h1,by omega⟩
  ·grind
def Lp(h:atI xs i=some v):∃j,seqIndex? i xs.length=some j/\xs[j]?=some v/\j<xs.length/\-(xs.length:Int)<=i/\i<xs.length:=by
 unfold atI at h;cases e:ixN xs.length i with
 |none=>grind
 |some j=>
  obtain⟨h1,h2,h3,h4⟩:=OC e
  grind
def NM{j:Nat}{v}(h:xs[j]?=some v):atI xs (j:Int)=some v:=by
 have e:ixN xs.length (j:Int)=some j:=by
  unfold ixN
  grind
 unfold atI;rw[e];exact h
def DR(b:Expr):Prop:=∀o i,subscripted b false o i=operate [o,i] (getItem o i)
def IxR(X:Cx)(r:R2):Prop:=
 ∀(value slice:Expr) (pins:Ym) (s:Shared) (σ:St) (H:Hp) (x y:V) (v u:Value) (Q:VK),Inv X pins σ H s->RelV x v->RelV y u->r x y H Q->
  subscripted slice false v u=operate [v,u] (getItem v u)->wpAny (model X.prog X.w) X.A (subscriptTail value slice v u) (EP X pins σ Q) X.xe s
def MtR(X:Cx)(id:String)(r:V->List V->Hp->VK->Prop):Prop:=
 ∀(pins:Ym) (s:Shared) (σ:St) (H:Hp) (x:V) (xs:List V) (v:Value) (us:Yr) (Q:VK),Inv X pins σ H s->RelV x v->Vals xs us->r x xs H Q->
  wpAny (model X.prog X.w) X.A (call (.builtin id) (v::us)) (EP X pins σ Q) X.xe s
section
variable {X:Cx}{a b:Expr}{ta tb:TE}{pos:Pos}
def IxR.or (h:IxR X r) (h':IxR X r'):IxR X (λx y H Q=>r x y H Q\/r' x y H Q):=by
 intro value slice pins s σ H x y v u Q I rx ry q hs;rcases q with q|q
 ·exact h value slice pins s σ H x y v u Q I rx ry q hs
 ·exact h' value slice pins s σ H x y v u Q I rx ry q hs
def OV(hr:IxR X r)(ha:PE X a ta)(hb:PE X b tb)(hs:DR b):PE X (.Subscript a b pos) (tOp r ta tb):=by
 intro pins s σ H Q I h;exact Subscript_ (A2 ha hb I h λv u s2 x y H2 I2 rx ry q=>hr a b pins s2 σ H2 x y v u Q I2 rx ry q (hs _ _))
noncomputable def SX(K:Yj):R2:=λx y H Q=>∃p xs i v,x=.ref p/\y=.int i/\SqL K H p xs/\atI xs i=some v/\Q v H
noncomputable def SW(K:Yj):R2:=λx y H Q=>∃p xs i v,x=.ref p/\y=.int i/\SqT K H p xs/\atI xs i=some v/\Q v H
def ix_list:IxR X (SX X.K):=by
 intro value slice pins s σ H x y v u Q I rx ry h hs;obtain⟨p,xs,i,z,rfl,rfl,hq,he,q⟩:=h;cases rx
 obtain⟨t,rfl⟩:=ry;obtain⟨its,r,pl,hz⟩:=I.list hq;obtain⟨j,h1,h2,h3,h4,h5⟩:=Lp he;obtain⟨w,ew,rw'⟩:=r.get h2;have hl:=r.length;have hn:=BK;have fin:EP X pins σ Q w s:=⟨z,H,I,rw',q⟩;by_cases h0:0<=i
 ·have hj:i.toNat=j:=by
   rw[seqIndex_of h0 h5]at h1;exact WW h1
  exact item_listR pl.isList h0 (by omega) (by rw[hj];simpa using ew) fin hs
 ·have hj:(i+(its.toArray.size:Int)).toNat=j:=by
   rw[seqIndex_neg (by omega) h4]at h1;rw[Qr,←hl];exact WW h1
  exact subscriptTail_builtinR pl.isList.typeIs slot_list_getitem.lookup
   (wpAny_getItem_list_neg pl.isList (by omega) (by rw[Qr]<;>omega) (by omega) (by rw[hj];simpa using ew) ⟨rfl,fin⟩) hs
def Zn2:IxR X (SW X.K):=by
 intro value slice pins s σ H x y v u Q I rx ry h hs;obtain⟨p,xs,i,z,rfl,rfl,hq,he,q⟩:=h;cases rx
 obtain⟨t,rfl⟩:=ry;obtain⟨its,r,pl,hz⟩:=I.tuple hq;obtain⟨j,h1,h2,h3,h4,h5⟩:=Lp he;obtain⟨w,ew,rw'⟩:=r.get h2;have hn:=BK;have fin:EP X pins σ Q w s:=⟨z,H,I,rw',q⟩
 exact subscriptTail_builtinR pl.typeIs slot_tuple_getitem.lookup
  (getItem_tuple pl (by omega) (by omega) (by rw[Qr,←r.length];exact h1) (by grind) ⟨rfl,fin⟩) hs
def Zhz(its:Yr)(n j:Nat)(u:Value):Obj.mapSeq (·.setIfInBounds j u) {cls:=.type "list",data:=.seq its.toArray n}={cls:=.type "list",data:=.seq (its.set j u).toArray n}:=by
 simp[Obj.mapSeq]
def Inv.lst {σ:St}{H}{s}{p}{xs} (I:Inv X pins σ H s) (h:H p=some (.lst xs)) :
  ∃its n,Vals xs its/\s.heap.get? p=some {cls:=.type "list",data:=.seq its.toArray n}/\xs.length<=sizeLine:=by
 obtain⟨z,its,n,r,e⟩:=I.hok p _ h
 grind
def Inv.lstUpd {σ:St}{H}{s}{p}{xs ys}{its its':Yr}{n n'}{f} (I:Inv X pins σ H s) (h:H p=some (.lst xs))
  (ho:s.heap.get? p=some {cls:=.type "list",data:=.seq its.toArray n}) (hf:f {cls:=.type "list",data:=.seq its.toArray n}={cls:=.type "list",data:=.seq its'.toArray n'}) (r:Vals ys its') (hz:ys.length<=sizeLine) (t:Nat) :
  Inv X pins σ (upd H p<|.lst ys) {s with heap:=s.heap.update p f,toks:=t}:=by
 have e:(s.heap.update p f).get? p=some {cls:=.type "list",data:=.seq its'.toArray n'}:=by
  rw[Q5 f ho (by rw[hf]<;>rfl),hf]
 refine I.write (by rw[h];trivial) (.inl rfl) (λb u hb q=>(QE _ _<|Ne.symm hb).trans q) ⟨_,e⟩ ?_;exact⟨hz,its',n',r,e⟩
def MM:V->V->V->Hp->(Hp->Prop)->Prop:=λo i v H Q=>∃p xs k j,o=.ref p/\i=.int k/\H p=some (.lst xs)/\ixN xs.length k=some j/\Q (upd H p<|.lst<|xs.set j v)
def Zao:L6 X MM:=by
 intro pins s σ H o i v ov iv u Q I ro ri rv h;obtain⟨p,xs,k,j,rfl,rfl,hp,hj,q⟩:=h;cases ro
 obtain⟨t,rfl⟩:=ri;obtain⟨its,n,r,ho,hz⟩:=I.lst hp;obtain⟨h1,h2,h3,h4⟩:=OC hj;have hl:=r.length;have hn:=BK
 have I':=
  I.lstUpd hp ho (Zhz its n j u) (r.set rv j) (by rw[QK];exact hz) s.toks
 by_cases h0:0<=k
 ·have hk:k.toNat=j:=by
   rw[seqIndex_of h0 h4]at h1;exact WW h1
  exact PySem.W.ki_setAt ho h0 (by omega) (by rw[Qr,←hl];exact h4) (by rw[hk];exact⟨_,I',q⟩)
 ·have hk:(k+(its.toArray.size:Int)).toNat=j:=by
   rw[seqIndex_neg (by omega) h3]at h1;rw[Qr,←hl];exact WW h1
  exact PySem.W.ki_setBack ho (by omega) (by rw[Qr,←hl];exact h3) (by omega) (by rw[hk];exact⟨_,I',q⟩)
def Zlq(lo hi:Option Int)(n:Nat):(sliceBounds lo hi none n).1=((HT.sIx n 0 lo:Nat):Int)/\(sliceBounds lo hi none n).2.1=((HT.sIx n n hi:Nat):Int)/\(sliceBounds lo hi none n).2.2=1:=by
 refine⟨?_,?_,rfl⟩
 ·cases lo with
  |none=>simp[sliceBounds,HT.sIx]
  |some i=>
   simp only[sliceBounds,HT.sIx,Option.getD_none,show(1:Int)>0 by decide,if_true];by_cases h:i<0
   ·grind
   ·simp only[h,Jv]<;>omega
 ·cases hi with
  |none=>simp[sliceBounds,HT.sIx]
  |some i=>
   simp only[sliceBounds,HT.sIx,Option.getD_none,show(1:Int)>0 by decide,if_true];by_cases h:i<0
   ·simp only[h,if_true]<;>omega
   ·simp only[h,Jv]<;>omega
def Zic(its:Yr)(lo hi:Option Int):slicePick its.toArray lo hi none=((its.drop<|HT.sIx its.length 0 lo).take (HT.sIx its.length its.length hi-HT.sIx its.length 0 lo)).toArray:=by
 obtain⟨h1,h2,h3⟩:=Zlq lo hi its.toArray.size;unfold slicePick;rw[h1,h2,h3];simp only[sliceRange_one,pick_run,Qr]<;>rfl
def SY(K:Yj):V->Option Int->Option Int->Hp->VK->Prop:=λx lo hi H Q=>∃a xs,x=.ref a/\SqL K H a xs/\∀p,H p=none->Q (.ref p) (upd H p<|.lst<|Ts xs lo hi)
def Zcc:SlR X (SY X.K):=by
 intro pins s σ H x v vl vu lo hi sl Q I rx hs pl pu h;obtain⟨a,xs,rfl,hx,q⟩:=h;cases rx
 obtain⟨its,r,ht,hz⟩:=I.list hx;have hlen:=r.length;refine⟨"list",_,slot_list_getitem.lookup,ht.isList.typeIs,?_⟩;refine wpAny_getItem_list_slice ht.isList hs pl pu .none (by simp) ?_ (by grind);rw[Zic,←hlen];refine⟨.ref s.heap.objs.size,_,I.laid (λb ob q=>WM _ q) (WQ _) ?_,rfl,q _ (I.hok.fresh<|WQ _)⟩;exact⟨WU (Zh8 xs lo hi) hz,_,0,(r.drop<|HT.sIx xs.length 0 lo).take (HT.sIx xs.length xs.length hi-HT.sIx xs.length 0 lo),WX _ rfl⟩
noncomputable def KI:V->Bool
 | .non=>true
 | .bl _=>true
 | .int _=>true
 | .str _=>true
 |_=>false
noncomputable def eqV:V->V->Bool
 | .non,.non=>true
 | .bl a,.bl b=>a==b
 | .bl a,.int b=>(if a then 1 else 0)==b
 | .int a,.bl b=>a==(if b then 1 else 0)
 | .int a,.int b=>a==b
 | .str a,.str b=>a==b
 |_,_=>false
def GN{y x u v}(ry:RelV y u)(rx:RelV x v)(fy:KI y=true)(fx:KI x=true):SeqAt.EqAt A s u v (eqV y x):=by
 cases y with
 |non=>
  cases ry
  cases x with
  |non=>cases rx;exact SeqAt.EqAt.same _
  |bl b=>cases rx;exact SeqAt.EqAt.none_bool b
  |int b=>obtain⟨t,rfl⟩:=rx;exact SeqAt.EqAt.none_int b t
  |str b=>obtain⟨t,rfl⟩:=rx;exact SeqAt.EqAt.none_str b t
  |_=>exact absurd fx Qh
 |bl a=>
  cases ry
  cases x with
  |non=>cases rx;exact SeqAt.EqAt.bool_none a
  |bl b=>cases rx;exact SeqAt.EqAt.bool_bool a b
  |int b=>obtain⟨t,rfl⟩:=rx;exact SeqAt.EqAt.bool_int a b t
  |str b=>obtain⟨t,rfl⟩:=rx;exact SeqAt.EqAt.bool_str a b t
  |_=>exact absurd fx Qh
 |int a=>
  obtain⟨t',rfl⟩:=ry;cases x with
  |non=>cases rx;exact SeqAt.EqAt.int_none a t'
  |bl b=>cases rx;exact SeqAt.EqAt.int_bool a t' b
  |int b=>obtain⟨t,rfl⟩:=rx;exact SeqAt.EqAt.int_int a t' b t
  |str b=>obtain⟨t,rfl⟩:=rx;exact SeqAt.EqAt.int_str a t' b t
  |_=>exact absurd fx Qh
 |str a=>
  obtain⟨t',rfl⟩:=ry;cases x with
  |non=>cases rx;exact SeqAt.EqAt.str_none a t'
  |bl b=>cases rx;exact SeqAt.EqAt.str_bool a t' b
  |int b=>obtain⟨t,rfl⟩:=rx;exact SeqAt.EqAt.str_int a t' b t
  |str b=>obtain⟨t,rfl⟩:=rx;exact SeqAt.EqAt.str_str a t' b t
  |_=>exact absurd fx Qh
 |_=>exact absurd fy Qh
noncomputable def eqU(x:V)(u:Value):Bool:=match u with
 | .none=>eqV .non x
 | .bool b=>eqV (.bl b) x
 | .int i _=>eqV (.int i) x
 | .str z _=>eqV (.str z) x
 |_=>false
def EN{x y u}(r:RelV y u)(f:KI y=true):eqU x u=eqV y x:=by
 cases y with
 |non|bl b=>cases r;rfl
 |int i|str z=>obtain⟨t,rfl⟩:=r;rfl
 |_=>trivial
theorem Bf:∀{xs}{us:Yr},Vals xs us->xs.all KI=true->us.any (eqU x)=xs.any λy=>eqV y x
 |_,_,.nil,_=>rfl
 |y::xs,u::us,.cons r t,f=>by
  rw[Ju,Q4]at f;rw[VT,VT,EN r f.1,Bf t f.2]
theorem SG{x v}(rx:RelV x v)(fx:KI x=true):∀{xs}{us:Yr},Vals xs us->xs.all KI=true->∀u∈us,SeqAt.EqAt A s u v (eqU x u)
 |_,_,.nil,_=>λu hu=>by cases hu
 |y::xs,u::us,.cons r t,f=>λu' hu=>by
  rw[Ju,Q4]at f;rcases Qa.mp hu with rfl|hu
  ·rw[EN r f.1];exact GN r rx f.1 fx
  ·exact SG rx fx t f.2 u' hu
noncomputable def inV(x:V)(xs:List V):Bool:=xs.any λy=>eqV y x
noncomputable def rIn(K:Yj)(neg:Bool):R2:=λx y H Q=>∃p xs,y=.ref p/\(SqL K H p xs\/SqT K H p xs)/\KI x=true/\xs.all KI=true/\Q (.bl (if neg then !inV x xs else inV x xs)) H
def R1:OpR X (compareOp .In) (rIn X.K false):=by
 intro pins s σ H x y v u Q I rx ry h;obtain⟨p,xs,rfl,hq,fx,fs,q⟩:=h;cases ry
 rcases hq with hq|hq
 ·obtain⟨its,r,pl,hz⟩:=I.list hq;refine SeqAt.in_listAt (eqU x) pl.isList (λw hw=>SG rx fx r fs w (by grind)) ⟨.bl _,H,I,rfl,?_⟩;rwa[show its.toArray.any (eqU x)=its.any (eqU x) by simp,Bf r fs]
 ·obtain⟨its,r,pl,hz⟩:=I.tuple hq;refine SeqAt.in_tupleAt (eqU x) pl (λw hw=>SG rx fx r fs w (by simpa using hw)) ⟨.bl _,H,I,rfl,?_⟩;rwa[show its.toArray.any (eqU x)=its.any (eqU x) by simp,Bf r fs]
def Zag:OpR X (compareOp .NotIn) (rIn X.K true):=by
 intro pins s σ H x y v u Q I rx ry h;obtain⟨p,xs,rfl,hq,fx,fs,q⟩:=h;cases ry
 rcases hq with hq|hq
 ·obtain⟨its,r,pl,hz⟩:=I.list hq;refine SeqAt.notIn_listAt (eqU x) pl.isList (λw hw=>SG rx fx r fs w (by grind)) ⟨.bl _,H,I,rfl,?_⟩;rwa[show its.toArray.any (eqU x)=its.any (eqU x) by simp,Bf r fs]
 ·obtain⟨its,r,pl,hz⟩:=I.tuple hq;refine SeqAt.notIn_tupleAt (eqU x) pl (λw hw=>SG rx fx r fs w (by grind)) ⟨.bl _,H,I,rfl,?_⟩;rwa[show its.toArray.any (eqU x)=its.any (eqU x) by simp,Bf r fs]
def OU:Kh X (.type "list") (λxs H Q=>∃p ys,xs=[.ref p]/\(SqL X.K H p ys\/SqT X.K H p ys)/\∀l,H l=none->Q (.ref l) (upd H l<|.lst ys)):=by
 intro pins s σ H xs us Q I r h;obtain⟨p,ys,rfl,hq,q⟩:=h;obtain⟨u,rfl,rx⟩:=vals1 r;cases rx
 have fin:∀its,Vals ys its->ys.length<=sizeLine->∀h' c',(∀b o',s.heap.get? b=some o'->h'.get? b=some o')->
   h'.get? s.heap.objs.size=some {cls:=.type "list",dict:=none,data:=.seq its.toArray c',slots:=#[]}->EP X pins σ Q (.ref s.heap.objs.size) {s with heap:=h'}:=λits r' hz h' c' kp e=>
  ⟨.ref s.heap.objs.size,_,I.laid kp (WQ _) (show ObjOk X.prog X.w _ h' _ (.lst ys)from⟨hz,its,c',r',e⟩),rfl,q _ (I.hok.fresh<|WQ _)⟩
 rcases hq with hq|hq
 ·obtain⟨its,r',pl,hz⟩:=I.list hq;have hlen:=r'.length;obtain⟨o,ho,hc,n,hd⟩:=pl.isList;exact call_list_seq p (.inl rfl) ho hc hd (λh' c' kp e=>fin its r' hz h' c' kp e) (by grind)
 ·obtain⟨its,r',pl,hz⟩:=I.tuple hq;have hlen:=r'.length;obtain⟨o,ho,hc,n,hd⟩:=pl;exact call_list_seq p (.inr rfl) ho hc hd (λh' c' kp e=>fin its r' hz h' c' kp e) (by simp only[Qr]<;>omega)
def Zmx:Kh X (.type "tuple") (λxs H Q=>∃p ys,xs=[.ref p]/\((SqL X.K H p ys/\∀l,H l=none->Q (.ref l) (upd H l<|.tup ys))\/(SqT X.K H p ys/\Q (.ref p) H))):=by
 intro pins s σ H xs us Q I r h;obtain⟨p,ys,rfl,h⟩:=h;obtain⟨u,rfl,rx⟩:=vals1 r;cases rx
 rcases h with⟨hq,q⟩|⟨hq,q⟩
 ·obtain⟨its,r',pl,hz⟩:=I.list hq;have hlen:=r'.length;refine call_tuple_list pl.isList (λh' kp=>?_) (by grind);have I1:Inv X pins σ H {s with heap:=h'}:=I.kept kp
  have I2:Inv X pins σ (upd H h'.objs.size<|.tup ys) {s with heap:=h'.push {cls:=.type "tuple",data:=.seq its.toArray}}:=
   I1.laid (λb o e=>WM _ e) (WQ _) (⟨hz,its,r',IsTup.new _ _⟩)
  exact⟨.ref h'.objs.size,_,I2,rfl,q _ (I1.hok.fresh<|WQ _)⟩
 ·obtain⟨its,r',pl,hz⟩:=I.tuple hq;exact call_tuple_same pl ⟨.ref p,H,I,rfl,q⟩
def tyV(K:Yj)(T:String)(x:V)(H:Hp):Prop:=match x with
 | .str _=>T = "str"
 | .int _=>T = "int"
 | .ref p=>(T = "list"/\∃xs,SqL K H p xs)\/(T = "tuple"/\∃o,K.lookup p=some o/\o.cls=.type "tuple"/\o.dict=none)\/
   (T = "dict"/\((∃kvs,H p=some (.dK kvs))\/∃kvs,H p=some (.dT kvs)))\/(T = "set"/\∃S n,H p=some (.set S n))
 |_=>False
def ED{σ:St}{H}{s}{T}{x}{v}(I:Inv X pins σ H s)(r:RelV x v)(ty:tyV X.K T x H) :
  s.TypeIs v T/\∀a,v=.ref a->∃ob,s.heap.get? a=some ob/\ob.dict=none:=by
 cases x with
 |str z=>
  obtain⟨t,rfl⟩:=r;cases ty
  exact⟨typeIs_str s z t,λ_ e=>nomatch e⟩
 |int i=>
  obtain⟨t,rfl⟩:=r;cases ty
  exact⟨typeIs_int s i t,λ_ e=>nomatch e⟩
 |ref p=>
  cases r
  rcases ty with⟨rfl,xs,hq⟩|⟨rfl,o,hk,hc,hd⟩|⟨rfl,hk⟩|⟨rfl,S,n,hk⟩
  ·obtain⟨its,_,pl,_⟩:=I.list hq;refine⟨pl.isList.typeIs,λa e=>?_⟩;cases e
   obtain⟨o,n,e,c,hd,_⟩:=pl;exact⟨o,e,hd⟩
  ·refine⟨⟨o,I.kIn p o hk,hc⟩,λa e=>?_⟩;cases e
   exact⟨o,I.kIn _ o hk,hd⟩
  ·have z:∃o,s.heap.get? p=some o/\o.ExactDict:=by
    rcases hk with⟨kvs,hk⟩|⟨kvs,hk⟩
    ·obtain⟨_,_,_,_,o,_,_,e,ex,_⟩:=I.hok p _ hk;exact⟨o,e,ex⟩
    ·obtain⟨_,_,_,_,o,_,_,e,ex,_⟩:=I.hok p _ hk;exact⟨o,e,ex⟩
   obtain⟨o,e,ex⟩:=z;refine⟨⟨o,e,ex.1⟩,λa e2=>?_⟩;cases e2
   exact⟨o,e,ex.2.1⟩
  ·obtain⟨o,_,_,_,e,ex,_⟩:=I.hok p _ hk;refine⟨⟨o,e,ex.1⟩,λa e2=>?_⟩;cases e2
   exact⟨o,e,ex.2.1⟩
 |_=>exact False.elim ty
noncomputable def Bh(K:Yj)(T:String)(r:V->List V->Hp->VK->Prop)(to:TE):TE:=λσ H Q=>to σ H λx H1=>tyV K T x H1/\r x [] H1 Q
noncomputable def tBM(K:Yj)(T:String)(r:V->List V->Hp->VK->Prop)(to:TE)(t:TA):TE:=λσ H Q=>to σ H λx H1=>tyV K T x H1/\t σ H1 λxs H2=>r x xs H2 Q
variable {o e:Expr}{es:Yt}{to:TE}{t:TA}{name:Str}{apos cpos:Pos}{T id:String}{r:V->List V->Hp->VK->Prop}
def SD(pa:PlainAttrs T)(slot:Slot T name id)(hty:typeOf (.builtin id)=pure (.type "method_descriptor"))(hm:MtR X id r)(ho:PE X o to)(hbase:autoParam (attributeBase o name X.env (eval o X.env)=eval o X.env) au_0)(hline:autoParam ((apos.endLine==cpos.line)=true) au_0):PE X (.Call (.Attribute o name apos) [] [] cpos) (Bh X.K T r to):=by
 intro pins s σ H Q I h;refine wpAny_Call_method0_late hbase hline (thn (ho pins s σ H _ I h) ?_);rintro v s1 ⟨x,H1,I1,r1,ty,q1⟩;obtain⟨h1,h2⟩:=ED I1 r1 ty;exact⟨T,id,pa,slot,hty,h1,h2,Calls.callWith_builtin rfl (PySem.evalArgs_none<|hm pins s1 σ H1 x [] v [] Q I1 r1 .nil q1)⟩
def Bv(pa:PlainAttrs T)(slot:Slot T name id)(hty:typeOf (.builtin id)=pure (.type "method_descriptor"))(hm:MtR X id r)(ho:PE X o to)(ha:PA X (e::es) t)(hbase:autoParam (attributeBase o name X.env (eval o X.env)=eval o X.env) au_0)
  (hfew:autoParam (((backTo cpos<|starEach (e::es) X.env).all (λx=>!x.1)&&(backToKw cpos<|keywordEach [] X.env).all (λx=>x.1.isSome)
   && decide ((e::es).length+([]:List Keyword).length+(if ([]:List Keyword).isEmpty then 0 else 1)<30))=true) au_0)
  (hline:autoParam ((apos.endLine==cpos.line)=true) au_0) (hs:autoParam (starEach (e::es) X.env=(false,eval e X.env)::starEach es X.env) au_0) (hplain:autoParam ((backTo cpos<|starEach es X.env).any (·.1)=false) au_0) :
  PE X (.Call (.Attribute o name apos) (e::es) [] cpos) (tBM X.K T r to t):=by
 intro pins s σ H Q I h;refine wpAny_Call_method_late hbase hfew hline rfl (thn (ho pins s σ H _ I h) λv s1 ⟨x,H1,I1,r1,ty,q1⟩=>?_);obtain⟨h1,h2⟩:=ED I1 r1 ty;refine⟨T,id,pa,slot,hty,h1,h2,?_⟩;have hA:=ha cpos pins s1 σ H1 _ I1 q1;rw[hs]at hA ⊢;refine Calls.callWith_builtin (by grind) (J6 ?_);exact thn hA λus s2 ⟨vs,H2,I2,r2,q2⟩=>hm pins s2 σ H2 x vs v us Q I2 r1 r2 q2
end
def MtM(X:Cx)(id:String)(r:V->List V->Hp->VK->Prop):Prop:=
 ∀(pins:Ym) (s:Shared) (σ:St) (H:Hp) (x:V) (xs:List V) (v:Value) (us:Yr) (Q:VK),Inv X pins σ H s->RelV x v->Vals xs us->r x xs H Q->
  wpAny (model X.prog X.w) X.A (call (.builtin id) (v::us)) (EP X pins σ Q) X.xe s
def Vals.one:∀{x}{us:Yr},Vals [x] us->∃u,us=[u]/\RelV x u:=by
 intro _ _ h;cases h with
 |cons r t=>
  cases t
  exact⟨_,rfl,r⟩
def Vals.zero:∀{us:Yr},Vals [] us->us=[]
 |_,.nil=>rfl
def Vals.dropLast (h:Vals xs us):Vals xs.dropLast us.dropLast:=by
 induction h with
 |nil=>exact .nil
 |cons r t ih=>
  cases t with
  |nil=>grind
  |cons q t'=>exact .cons r ih
def Zp4{α:Type}(l:List α):l.eraseIdx (l.length-1)=l.dropLast:=by simp
section
variable {X:Cx}{pins:Ym}{σ:St}{H:Hp}{s:Shared}{l b:Addr}{xs ys zs:List V}
def Inv.lset {its its':Yr}{n}{f}{t'} (I:Inv X pins σ H s) (hH:H l=some (.lst xs))
  (e:s.heap.get? l=some {cls:=.type "list",data:=.seq its.toArray n}) (hf:f its.toArray=its'.toArray) (hv:Vals ys its') (hz:ys.length<=sizeLine) :
  Inv X pins σ (upd H l<|.lst ys) {s with heap:=s.heap.update l (Obj.mapSeq f),toks:=t'}:=by
 have q:=PySem.IsL.update e f;rw[hf]at q;refine I.write (by rw[hH];exact trivial) (.inl rfl) (λb' u hb hu=>(QE s.heap (Obj.mapSeq f)<|Ne.symm hb).trans hu) ⟨_,q⟩ ?_;exact⟨hz,its',_,hv,q⟩
def Inv.lnew (I:Inv X pins σ H s) (hv:Vals ys its) (hz:ys.length<=sizeLine) :
  Inv X pins σ (upd H s.heap.objs.size<|.lst ys) {s with heap:=s.heap.push {cls:=.type "list",data:=.seq its.toArray},toks:=t'}:=
 I.laid (λ_ _ q=>WM _ q) (WQ _) ⟨hz,its,0,hv,WX _ rfl⟩
def Inv.fresh (I:Inv X pins σ H s):H s.heap.objs.size=none:=I.hok.fresh (WQ _)
def Inv.lstM (I:Inv X pins σ H s) (hH:H l=some (.lst xs)):xs.length<=sizeLine/\∃its n,Vals xs its/\xs.length=its.length/\s.heap.get? l=some {cls:=.type "list",data:=.seq its.toArray n}:=by
 obtain⟨z,its,n,r,e⟩:=I.hok l _ hH;exact⟨z,its,n,r,r.length,e⟩
def Zc9(h:n<=sizeLine):Builtin.List.listTooLong n=false:=by
 unfold Builtin.List.listTooLong
 grind
end
section
variable {X:Cx}
def E8:V->List V->Hp->VK->Prop:=λx vs H Q=>∃l xs y,x=.ref l/\vs=[y]/\H l=some (.lst xs)/\xs.length<sizeLine/\Q .non (upd H l<|.lst (xs++[y]))
def Sz:MtM X "list.append" E8:=by
 intro pins s σ H x vs v us Q I rx rv h;obtain⟨l,xs,y,rfl,rfl,hH,hz,q⟩:=h;cases rx
 obtain⟨u,rfl,ru⟩:=rv.one;obtain⟨z,its,n,r,hl,e⟩:=I.lstM hH;refine call_meets F.slot_list_append ⟨_,e,rfl⟩ F.entry_list_append (F.args_list_append_2 _ _) (PySem.list_append l its.toArray n u<|by grind) ⟨e,?_⟩;refine⟨.non,_,I.lset hH e (by simp) (r.append<|.cons ru .nil) ?_,rfl,q⟩
 grind
def Li:V->List V->Hp->VK->Prop:=λx vs H Q=>∃l b xs zs,x=.ref l/\vs=[.ref b]/\H l=some (.lst xs)/\H b=some (.lst zs)/\xs.length+zs.length<=sizeLine/\Q .non (upd H l<|.lst (xs++zs))
def Zcp:MtM X "list.extend" Li:=by
 intro pins s σ H x vs v us Q I rx rv h;obtain⟨l,b,xs,zs,rfl,rfl,hH,hB,hz,q⟩:=h;cases rx
 obtain⟨u,rfl,ru⟩:=rv.one;cases ru
 obtain⟨z,its,n,r,hl,e⟩:=I.lstM hH;obtain⟨z2,its2,n2,r2,hl2,e2⟩:=I.lstM hB;have hsz:its.toArray.size+its2.toArray.size<=sizeLine:=by grind
 have hlong:¬(!its.toArray.isEmpty&&Builtin.List.listTooLong (its.toArray.size+its2.toArray.size))=true:=by
  rw[Zc9 hsz,Bool.and_false];exact Qh
 refine call_meets F.slot_list_extend ⟨_,e,rfl⟩ F.entry_list_extend (F.args_list_extend_2 _ _)
  (AutoSeq1.list_extend_list_list_0 l its.toArray n b its2.toArray n2 hlong (by omega)<|by omega) ⟨e,e2,?_⟩
 refine⟨.non,_,I.lset hH e (by simp) (r.append r2) ?_,rfl,q⟩
 grind
def DB:V->List V->Hp->VK->Prop:=λx vs H Q=>∃l xs y,x=.ref l/\vs=[]/\H l=some (.lst xs)/\xs[xs.length-1]?=some y/\Q y (upd H l<|.lst xs.dropLast)
def Fc:MtM X "list.pop" DB:=by
 intro pins s σ H x vs v us Q I rx rv h;obtain⟨l,xs,y,rfl,rfl,hH,hy,q⟩:=h;cases rx
 have hus:=rv.zero;subst hus;obtain⟨z,its,n,r,hl,e⟩:=I.lstM hH;obtain⟨u,hu,ru⟩:=r.get hy;have hy':its.toArray[its.toArray.size-1]?=some u:=by grind
 refine call_meets F.slot_list_pop ⟨_,e,rfl⟩ F.entry_list_pop (F.args_list_pop_1 _) (MeetsSeq.list_pop_last l its.toArray n u hy'<|by rw[Qr];omega) ⟨e,?_⟩;refine⟨y,_,I.lset hH e ?_ r.dropLast ?_,ru,q⟩
 ·simp
 ·grind
noncomputable def Ml:R2:=λx y H Q=>∃l b xs zs,x=.ref l/\y=.ref b/\H l=some (.lst xs)/\H b=some (.lst zs)/\xs.length+zs.length<=sizeLine/\∀p,H p=none->Q (.ref p) (upd H p<|.lst (xs++zs))
def Kx:OpR X (binaryOp .Add) Ml:=by
 intro pins s σ H x y v u Q I rx ry h;obtain⟨l,b,xs,zs,rfl,rfl,hH,hB,hz,q⟩:=h;cases rx
 cases ry
 obtain⟨z,its,n,r,hl,e⟩:=I.lstM hH;obtain⟨z2,its2,n2,r2,hl2,e2⟩:=I.lstM hB;refine PySem.P.add_list e e2 ?_ (by grind);have ea:its.toArray++its2.toArray=(its++its2).toArray:=by simp
 rw[ea];exact⟨.ref _,_,I.lnew (r.append r2) (by grind),rfl,q _ I.fresh⟩
end
end L2
namespace Att
open PySem PySem.W PySem.Calls PyProof.Rows
def Zbw:∀ns vs,WellAll P h vs (ns.map WData.int)->IntsAre vs ns:=by
 intro ns
 induction ns with
 |nil=>
  intro vs w;cases w
  exact .nil
 |cons n ns ih=>
  intro vs w;cases w with
  |cons a b=>
   cases a
   exact .cons _ _ (ih _ b)
def Zeh{l:OpenLaw}{n}(hn:l.most=some n){P}{h}{args}{vals}(hpre:l.row.toRowW.claim.pre args=true)(hwl:WellAll P h vals args) :
  ∃a vs ns,vals=[Value.ref a]/\args=[WData.list (ns.map WData.int)]/\h.get? a=some {cls:=.type "list",data:=.seq vs.toArray}/\IntsAre vs ns/\ns.length<=n:=by
 have hsh:WShape.hasAll [] args [.list .int]=true:=(pre_splitW hpre).1;have hc:l.pre.holds [] {args:=args}=true:=(pre_splitW hpre).2;obtain⟨d,r,rfl,h1,h2⟩:=hasAllW_cons hsh;obtain rfl:=hasAllW_nil h2;obtain⟨xs,rfl,h3⟩:=hasW_list h1;obtain⟨ns,rfl⟩:=items_int h3
 have hlen:ns.length<=n:=by
  have h4:(WTm.not<|.lt (.lit<|.int (n:Int))<|.len<|.arg 0).holds [] {args:=[.list (ns.map .int)]}=true:=by
   have h4:=(holds_andW hc).1;rw[hn]at h4;omega
  have h5:=condW_of h4 (w_not<|w_lt w_lit<|w_len_list<|w_arg rfl);simp_all
 cases hwl with
 |cons w1 w2=>
  cases w2
  cases w1 with
  |list ho hall=>exact⟨_,_,ns,rfl,rfl,ho,Zbw ns _ hall,hlen⟩
def Zm7(l:OpenLaw)(args:List WData):l.row.toRowW.claim.post args (.bool true) args=true:=
 postW_of
  rfl
  (w_eq_bool (w_res rfl) w_lit) rfl
def Zfh{l:OpenLaw}{n}{q}{loose}{XP}{YP}{d}(hn:l.most=some n)(hdf:d.params.defaults=[])
  (call:∀w s₀ s₁ mg mb fa o pm cd doc a vs ns,
   Ground q loose [] XP w s₀ mg mb s₁.heap->YP w s₁.heap->
   s₁.heap.get? fa=some o->o.data=.func (docDef d.name d.params d.body d.scope pm cd doc)->s₁.heap.CodeRec cd d.name->mg d.name=some (.ref fa)->
   s₁.heap.get? a=some {cls:=.type "list",data:=.seq vs.toArray}->IntsAre vs ns->ns.length<=n->s₁.gens=#[]->
   codeAny (model l.prog w) callerA (.call (.ref fa) ⟨[.ref a],[]⟩) (λr s'=>r=.ok (.ret<|.bool true)/\OldK s₁.heap s'.heap/\s'.os=s₁.os/\AllBare s'.gens) s₁) :
  WalkO q loose XP YP l.row.toRowW d [] (λf vs=>PySem.call f vs):=by
 intro w s₀ s₁ mg mb G Y fa o pm cd doc dV kV ho hd hcd hD hmg hg args vals as hpre hlay hrd hwl hlo;obtain rfl:=Dflts.none hD hdf;obtain rfl:=Dflts.noKw hD;obtain⟨a,vs,ns,rfl,rfl,hobj,hints,hlen⟩:=Zeh hn hpre hwl;refine enter_call (Vp (call w s₀ s₁ mg mb fa o pm cd doc a vs ns G Y ho (fd_plain hd) hcd hmg hobj hints hlen hg) λr s' hq=>?_);obtain⟨rfl,h2,h3,h4⟩:=hq;exact⟨.inl ⟨.bool true,.bool true,[],rfl,λ_=>rfl,.bool true,Zm7 l _,λ_=>⟨List.Pairwise.nil,λ_ hm=>(nomatch hm)⟩⟩,h2,h3,h4⟩
end Att
namespace L2
open PySem PySem.Spec PyProof.Rows
theorem F1:∀{vs}{ns:Yl},IntsAre vs ns->Vals (ns.map V.int) vs
 |_,_,.nil=>.nil
 |_,_,.cons n t h=>.cons ⟨t,rfl⟩ (F1 h)
def Ff(H:Hp):Prop:=∀b,H b=none\/∃o xs,H b=some (.frz o<|.lst xs)
def Zno{K mg mb CX k fa a fd x sp s₁ vs ns}(KX:K.In s₁.heap)(hns:s₁.heap.Ns mainGlobals mg)(hb:s₁.heap.Ns builtinsNs mb)(hbb:∀x:Str,x≠"__name__"->mb x=bootBuiltins x)(hlim:s₁.heap.NoLimit)(hg:s₁.gens=#[])(ha:s₁.heap.get? a=some {cls:=.type "list",data:=.seq vs.toArray})(hi:IntsAre vs ns)(hl:ns.length<=sizeLine)(hr:Xv k callerA)(F:∀base,K.In base->base.Ns mainGlobals mg->K8 P w K mg base CX k fa fd [x] sp)(hbind:∀s u,BindsTo s fd ⟨[u],[]⟩ [(x,u)])(hsp:∀H,Ff H->SqL K H a (ns.map V.int)->sp [.ref a] H (λv _=>v=.bl true) λ_ _ _=>False)(hCX:∀H e s',CX [] H s₁ (λ_ _ _=>False) e s'->False) :
  codeAny (model P w) callerA (.call (.ref fa) ⟨[.ref a],[]⟩) (λr s'=>r=.ok (.ret<|.bool true)/\OldK s₁.heap s'.heap/\s'.os=s₁.os/\AllBare s'.gens) s₁:=by
 have rv:=F1 hi
 have core:∀H,Ff H->SqL K H a (ns.map V.int)->HOk P w H s₁.heap->(∀b,H b≠none->b=a)->(H a≠none->K.lookup a=none)->
   codeAny (model P w) callerA (.call (.ref fa) ⟨[.ref a],[]⟩) (λr s'=>r=.ok (.ret<|.bool true)/\OldK s₁.heap s'.heap/\s'.os=s₁.os/\AllBare s'.gens) s₁:=by
  intro H hO hS hok hA hK;have base_of:∀{b:Addr} {o:Obj},s₁.heap.get? b=some o->H b=none->(Nj s₁.heap H).get? b=some o:=λe n=>Zft e n
  have noA:∀{b:Addr} {o:Obj} {es:Array DictEntry} {ep:Nat},s₁.heap.get? b=some o->o.data=.dict es ep->H b=none:=λ{b o es ep} e d=>by
   cases q:H b with
   |none=>rfl
   |some u=>
    have e':=hA b (by rw[q];simp);subst e';rw[ha]at e;cases e;cases d
  have nsK:∀{b:Addr} {m:Yn},s₁.heap.Ns b m->(Nj s₁.heap H).Ns b m:=λ{b m} ⟨o,es,ep,e,d,r⟩=>⟨o,es,ep,base_of e (noA e d),d,r⟩
  have hKb:=λb o e=>base_of (KX b o e) (by
   cases q:H b with
   |none=>rfl
   |some u=>
    have e':=hA b (by rw[q];simp);subst e';rw[hK (by rw[q];simp)]at e;cases e)
  have hM:Mod K mg (Nj s₁.heap H):=⟨hKb,nsK hns,⟨mb,nsK hb,hbb⟩,let ⟨mc,h1,h2⟩:=hlim;⟨mc,nsK h1,h2⟩⟩;have e0:NG P w K mg (Nj s₁.heap H) callerA [] s₁ H:=⟨rfl,hM,λb o e=>Zec e,Vf (Zje _ _),trivial,λb hb=>absurd (show b∈([]:List Addr)from hb) (by simp),hok,.of_eq hg⟩
  refine Vp ((F _ hKb<|nsK hns).run callerA [] s₁ H ⟨[.ref a],[]⟩ [.ref a] [.ref a] _ _ hr e0 (hbind s₁<|.ref a) (.cons rfl .nil) (hsp H hO hS)) λr s' h=>?_;cases r with
  |error e=>exact(hCX H e s' h).elim
  |ok fl=>
   cases fl with
   |ret u=>
    obtain⟨v,H',os,bare,un,hok',r',q⟩:=h;subst q;obtain rfl:=r';refine⟨rfl,OldK.of_keep λb o e=>?_,os,bare⟩;cases q:H b with
    |none=>exact un.keep b o e q (by intro z;exact absurd (show b∈([]:List Addr)from z) (by simp)) (by simp)
    |some u=>
     rcases hO b with z|⟨ob,xs,z⟩
     ·rw[q]at z;cases z
     ·have z2:=un.frzs b ob _ z;obtain⟨e1,_⟩:=hok b _ z;obtain⟨e2,_⟩:=hok' b _ z2;rw[e]at e1;cases e1;exact e2
   |_=>exact False.elim h
 cases hk:K.lookup a with
 |some o=>
  have e:=KX a o hk;rw[ha]at e;cases e
  refine core (λ_=>none) (λ_=>.inl rfl) (.inr ⟨_,vs.toArray,_,hk,rfl,rfl,rfl,by rw[Qr,hi.length];exact hl,by simpa using rv⟩) (λb u z=>by have z':=z;cases z') (λb z=>absurd rfl z) λz=>absurd rfl z
 |none=>
  refine core (λb=>if b=a then some (.frz {cls:=.type "list",data:=.seq vs.toArray} (.lst<|ns.map V.int))else none) (λb=>?_) (.inl<|.inr ⟨{cls:=.type "list",data:=.seq vs.toArray},WO rfl⟩) (λb u z=>?_) (λb z=>?_) λ_=>hk
  ·by_cases hb:b=a
   ·exact .inr ⟨_,_,WO hb⟩
   ·exact .inl (WN hb)
  ·by_cases hb:b=a
   ·have z':=(WO hb).symm.trans z;cases z'
    subst hb;exact⟨ha,by rw[WG];exact hl,vs,_,rv,ha⟩
   ·have z':=(WN hb).symm.trans z;cases z'
  ·by_cases hb:b=a
   ·exact hb
   ·exact absurd (WN hb) z
def Zej{l:PySem.W.OpenLaw}{n k}{q}{loose}{XP}{YP}{d}{K:Params->Yj}{CX:World->CXT}{sp:World->Sp}{x}(hn:l.most=some n)(hn2:n<=sizeLine)(hdf:d.params.defaults=[])(hr:Xv k callerA)(hY:∀w h,YP w h->(K w.params).In h)
  (F:∀w mg fa h,(K w.params).In h->h.Ns mainGlobals mg->mg d.name=some (.ref fa)->
   ∃fd,(∀s u,BindsTo s fd ⟨[u],[]⟩ [(x,u)])/\
    ∀base,(K w.params).In base->base.Ns mainGlobals mg->K8 l.prog w (K w.params) mg base (CX w) k fa fd [x] (sp w))
  (hsp:∀w H a (ns:Yl),ns.length<=n->Ff H->SqL (K w.params) H a (ns.map V.int)->sp w [.ref a] H (λv _=>v=.bl true) λ_ _ _=>False)
  (hCX:∀w H s e s',CX w [] H s (λ_ _ _=>False) e s'->False) :
  PySem.W.WalkO q loose XP YP l.row.toRowW d [] (λf vs=>PySem.call f vs):=by
 refine Att.Zfh hn hdf λw s₀ s₁ mg mb fa o pm cd doc a vs ns G Y ho hd hcd hmg hobj hints hlen hg=>?_;have KX:=hY w _ Y;obtain⟨fd,hb,hF⟩:=F w mg fa _ KX G.T.g hmg;exact Zno KX G.T.g G.T.b G.T.builtins G.T.nolimit hg hobj hints (WU hlen hn2) hr hF hb (λH hO hS=>hsp w H a ns hlen hO hS) λH e s'=>hCX w H s₁ e s'
def Znr{l:PySem.W.OpenLaw}{n k}{q}{loose}{XP}{YP}{d}{K:Params->Yj}{CX}{sp:Yj->Sp}{x}(hn:l.most=some n)(hn2:n<=sizeLine)(hdf:d.params.defaults=[])(hr:Xv k callerA)(hY:∀w h,YP w h->(K w.params).In h)
  (F:∀w mg fa h,(K w.params).In h->h.Ns mainGlobals mg->mg d.name=some (.ref fa)->
   ∃fd,(∀s u,BindsTo s fd ⟨[u],[]⟩ [(x,u)])/\
    ∀base,(K w.params).In base->base.Ns mainGlobals mg->K8 l.prog w (K w.params) mg base CX k fa fd [x] (sp<|K w.params))
  (hsp:∀K H a (ns:Yl),ns.length<=n->Ff H->SqL K H a (ns.map V.int)->sp K [.ref a] H (λv _=>v=.bl true) λ_ _ _=>False)
  (hCX:∀H s e s',CX [] H s (λ_ _ _=>False) e s'->False) :
  PySem.W.WalkO q loose XP YP l.row.toRowW d [] (λf vs=>PySem.call f vs):=
 Zej hn hn2 hdf hr hY F (λw H a ns h1 h2 h3=>hsp (K w.params) H a ns h1 h2 h3) λ_ H s e s'=>hCX H s e s'
noncomputable def inClass(s:Stmt)(j:Nat):Stmt:=match s with
 | .ClassDef _ _ _ body _ _ _ _ _ _ _=>body.getD j (.Pass ⟨0,0,0,0⟩)
 |_=>.Pass ⟨0,0,0,0⟩
noncomputable def Pm(s:Stmt):Arguments:=match s with
 | .FunctionDef _ a _ _ _ _ _ _ _ _=>a
 |_=>{posonlyargs:=[],args:=[],vararg:=none,kwonlyargs:=[],kw_defaults:=[],kwarg:=none,defaults:=[]}
noncomputable def XQ(s:Stmt):Yu:=match s with
 | .FunctionDef _ _ b _ _ _ _ _ _ _=>b
 |_=>[]
noncomputable def Xk(s:Stmt):Scope:=match s with
 | .FunctionDef _ _ _ _ _ _ sc _ _ _=>sc
 |_=>{kind:=.function,names:=[],isGenerator:=false,isCoroutine:=false}
noncomputable abbrev CX0:CXT:=λ_ _ _ _ _ _=>False
noncomputable abbrev E0:XK:=λ_ _ _=>False
def Ki:Pj CX0 X E0:=λ_ _ _ _ _ _ _ h=>h.elim
structure Fun (K:Yj) (x qual:Str) (st:Stmt) (f:Addr) (fd:FuncData):Prop where
 ex:∃(oc:Value) (od:Yw) (kV doc pm:Value) (an:Yw) (cdv ct:Value) (osl:Array (Yv)),
  fd=PySem.W.fnOf x qual (Pm st) (XQ st) (Xk st) .none kV doc pm an cdv ct/\K.lookup f=some ⟨oc,od,.func fd,osl⟩/\PySem.W.codeIn K cdv qual=true
 kp:PySem.W.keepIn K (.ref f)=true
section
variable {P:Program}{w:World}{K:Yj}{mg:Yn}{base:Heap}
def Fun.ok {st f fd N ps k sp} (F:Fun K x qual st f fd) (S:Xn N ps (Xk st)) (len:∀vs H Q E,sp vs H Q E->vs.length=ps.length)
  (hbody:∀cdv A outer s H vs Q E,Xv k (A.deeper<|envOfC qual (Xk st) s.heap.objs.size f cdv)->sp vs H Q E->
   ∃t,PSs (XY CX0 P w K mg base N qual (Xk st) f cdv A outer s H E).nox (XQ st) t/\t {nx:=λ_ H'=>Q .non H',rt:=Q} (start N vs) H):K8 P w K mg base CX0 (k+1) f fd ps sp:=by
 obtain⟨oc,od,kV,doc,pm,an,cdv,ct,osl,rfl,lk,hcd⟩:=F.ex;refine AW lk hcd S len λA outer s H vs Q E hr hsp=>?_;obtain⟨t,h,q⟩:=hbody cdv A outer s H vs Q E hr hsp;exact⟨t,h.nox,q⟩
def Fun.binds {st f fd ps} (F:Fun K x qual st f fd)
  (h:∀kV doc pm an cdv ct us,us.length=ps.length->bindArgs (PySem.W.fnOf x qual (Pm st) (XQ st) (Xk st) .none kV doc pm an cdv ct) ⟨us,[]⟩=pure (ps.zip us)):Binds K fd ps []:=by
 obtain⟨oc,od,kV,doc,pm,an,cdv,ct,osl,rfl,lk,hcd⟩:=F.ex;exact .all (h kV doc pm an cdv ct)
def BU{st f oc od an osl kV doc pm cdv ct}(l:K.lookup f=some ⟨oc,od,.func (PySem.W.fnOf x qual (Pm st) (XQ st) (Xk st) .none kV doc pm an cdv ct),osl⟩)(c:PySem.W.codeIn K cdv qual=true)(k:PySem.W.keepIn K (.ref f)=true):Fun K x qual st f (PySem.W.fnOf x qual (Pm st) (XQ st) (Xk st) .none kV doc pm an cdv ct):=⟨⟨oc,od,kV,doc,pm,an,cdv,ct,osl,rfl,l,c⟩,k⟩
end
def PV{k}(hr:Xv k A):A.units+1<cLine:=JL (Nat.add_le_add_left (by simp) _) hr.units
def Zj0(h:n<=1000):n<sizeLine:=JL h (by decide)
section
variable {X:Cx}
def pv(i:Nat){x pos}(hN:autoParam (X.N[i]?=some x) au_0)(hv:autoParam (Vis X.env.scope x) au_4)(hd:autoParam ((x==("__debug__" : Str))=false) au_1)(hcd:autoParam ((x==("__classdict__" : Str))=false) au_1):PE X (.Name x pos) (Kz i):=Zlu hN hv hd hcd
end
def X1{A B:Prop}(h:B):if false=true then A else B:=by grind
def Kg{A B:Prop}(h:A):if true=true then A else B:=by grind
def Xm{c A B:Prop}[Decidable c](h1:c->A)(h2:¬c->B):if c then A else B:=by grind
def Tj{c A B:Prop}[Decidable c](hc:c)(h:B):if (!decide c)=true then A else B:=by grind
def Same(H H':Hp):Prop:=∀b o,H b=some o->H' b=some o
def Same.refl (H:Hp):Same H H:=λ_ _ h=>h
def Same.trans (a:Same H H1) (b:Same H1 H2):Same H H2:=λc o h=>b c o (a c o h)
def Same.free (e:Same H H') {l} (h:H' l=Option.none):H l=Option.none:=by
 cases q:H l with
 |none=>rfl
 |some o=>
  rw[e l o q]at h;omega
def Same.seq {K H H'}{a xs} (e:Same H H') (h:SqL K H a xs):SqL K H' a xs:=by
 rcases h with(h|⟨o,h⟩)|h
 ·exact .inl (.inl<|e _ _ h)
 ·exact .inl (.inr ⟨o,e _ _ h⟩)
 ·exact .inr h
end L2
set_option maxHeartbeats 4000000
namespace L2
open PySem PySem.Spec PyProof.Rows
section
variable {κ:Type} [DecidableEq κ]
noncomputable def X0(kvs:List (κ×V))(k:κ):Option V:=(kvs.find? λkv=>decide (kv.1=k)).map (·.2)
noncomputable def putK(kvs:List (κ×V))(k:κ)(v:V):List (κ×V):=
 if (kvs.any λkv=>decide (kv.1=k))=true then kvs.map (λkv=>if kv.1=k then(kv.1,v)else kv)else kvs++[(k,v)]
def PJ{p:κ×V}{r:List (κ×V)}{k:κ}(e:p.1=k):X0 (p::r) k=some p.2:=by simp[X0,VC,e]
def P7{p:κ×V}{r:List (κ×V)}{k:κ}(e:¬p.1=k):X0 (p::r) k=X0 r k:=by simp[X0,VC,e]
theorem SK(k:κ):∀kvs:List (κ×V),(kvs.any λkv=>decide (kv.1=k))=(X0 kvs k).isSome
 |[]=>rfl
 |p::r=>by
  rw[VT];by_cases e:p.1=k
  ·simp only[PJ e,WI e,Bool.true_or,Option.isSome_some]
  ·rw[P7 e,Qv e,Bool.false_or];exact SK k r
theorem IW(k j:κ)(y:V):∀kvs:List (κ×V),X0 (kvs.map λkv=>if kv.1=k then(kv.1,y)else kv) j=(X0 kvs j).map λx=>if j=k then y else x
 |[]=>rfl
 |p::r=>by
  have ih:=IW k j y r;rw[Qn];by_cases h:p.1=k
  ·rw[WO h];by_cases e:p.1=j
   ·rw[PJ (p:=(p.1,y)) e,PJ e,J7,WO (e.symm.trans h)]
   ·rw[P7 (p:=(p.1,y)) e,P7 e,ih]
  ·rw[WN h];by_cases e:p.1=j
   ·rw[PJ (p:=p) e,PJ e,J7,WN (λz=>h (e.trans z))]
   ·rw[P7 (p:=p) e,P7 e,ih]
theorem Oj(k j:κ)(y:V):∀kvs:List (κ×V),X0 kvs k=none->X0 (kvs++[(k,y)]) j=if j=k then some y else X0 kvs j
 |[],_=>by
  by_cases e:k=j
  ·rw[WO e.symm];exact PJ (p:=(k,y)) e
  ·rw[WN (λz=>e z.symm)];exact P7 (p:=(k,y)) e
 |p::r,hn=>by
  rw[Vn];have hk:¬p.1=k:=λz=>by rw[PJ z]at hn;cases hn
  rw[P7 hk]at hn;have ih:=Oj k j y r hn;by_cases e:p.1=j
  ·rw[PJ e,PJ e,WN (λz=>hk (e.trans z))]
  ·rw[P7 e,P7 e,ih]
def Fu(kvs:List (κ×V))(k j:κ)(y:V):X0 (putK kvs k y) j=if j=k then some y else X0 kvs j:=by
 unfold putK;by_cases a:(kvs.any λkv=>decide (kv.1=k))=true
 ·rw[WO a,IW];rw[SK]at a;by_cases e:j=k
  ·obtain⟨x,hx⟩:=Option.isSome_iff_exists.mp a;rw[WO e,e,hx,J7,WO rfl]
  ·rw[WN e];cases X0 kvs j with
   |none=>rfl
   |some x=>rw[J7,WN e]
 ·rw[WN a];refine Oj k j y kvs ?_;rw[SK]at a;cases q:X0 kvs k with
  |none=>rfl
  |some x=>rw[q]at a;exact(a rfl).elim
def Fw(kvs:List (κ×V))(k:κ)(v:V):(putK kvs k v).length<=kvs.length+1:=by
 unfold putK;split
 ·rw[WG];omega
 ·rw[WR,Qi,List.length_nil];omega
def Zd4{kvs:List (κ×V)}{k:κ}(v:V)(h:X0 kvs k=none):putK kvs k v=kvs++[(k,v)]:=by
 unfold putK;rw[SK,h];exact WN (by decide)
def RelO.isSome_eq {o:Option V}{u:Yv} (r:RelO o u):o.isSome=u.isSome:=by
 cases o with
 |none=>cases u with
  |none=>rfl
  |some _=>exact(show False from r).elim
 |some _=>cases u with
  |none=>exact(show False from r).elim
  |some _=>rfl
def KV.val {kvs:List (κ×V)}{vs:List (κ×Value)} (r:KV kvs vs) (k:κ):RelO (X0 kvs k) (valueAt vs k):=by
 unfold KV at r
 induction r with
 |nil=>exact True.intro
 | @cons p q ps qs h t ih=>
  obtain⟨h1,h2⟩:=h;by_cases e:p.1=k
  ·have e':q.1=k:=h1.symm.trans e;have b:valueAt (q::qs) k=some q.2:=by simp[valueAt,VC,e']
   rw[PJ e,b];exact h2
  ·have e':¬q.1=k:=λz=>e (h1.trans z);have b:valueAt (q::qs) k=valueAt qs k:=by simp[valueAt,VC,e']
   rw[P7 e,b];exact ih
def KV.any {kvs:List (κ×V)}{vs:List (κ×Value)} (r:KV kvs vs) (k:κ):(kvs.any λkv=>decide (kv.1=k))=vs.any λkv=>decide (kv.1=k):=by
 unfold KV at r
 induction r with
 |nil=>rfl
 |cons h t ih=>rw[VT,VT,ih,h.1]
def KV.repl {kvs:List (κ×V)}{vs:List (κ×Value)} (r:KV kvs vs) (k:κ) {y:V}{u:Value} (ry:RelV y u) :
  KV (kvs.map λkv=>if kv.1=k then(kv.1,y)else kv) (vs.map λkv=>if kv.1=k then(kv.1,u)else kv):=by
 unfold KV at r ⊢
 induction r with
 |nil=>exact .nil
 | @cons p q ps qs h t ih=>
  rw[Qn,Qn];refine .cons ?_ ih;obtain⟨h1,h2⟩:=h;by_cases e:p.1=k
  ·rw[WO e,WO (h1.symm.trans e)];exact⟨h1,ry⟩
  ·rw[WN e,WN (λz=>e (h1.trans z))];exact⟨h1,h2⟩
def KV.put {kvs:List (κ×V)}{vs:List (κ×Value)} (r:KV kvs vs) (k:κ) {y:V}{u:Value} (ry:RelV y u):KV (putK kvs k y) (stored vs k u):=by
 unfold putK stored;rw[r.any k];by_cases e:(vs.any λkv=>decide (kv.1=k))=true
 ·rw[WO e,WO e];exact r.repl k ry
 ·rw[WN e,WN e];exact Paired.snoc r ⟨rfl,ry⟩
def KV.length {kvs:List (κ×V)}{vs:List (κ×Value)} (r:KV kvs vs):kvs.length=vs.length:=Paired.length r
end
def FB{P:Program}{w:World}{k:Key}{u:Value}(r:RelV (kV k) u):(Px P w).is k u=true:=by
 cases k with
 |inl i=>obtain⟨t,e⟩:=(show ∃t,u=Value.int i t from r);subst e;exact Zlf P w i t
 |inr x=>obtain⟨t,e⟩:=(show ∃t,u=Value.str x t from r);subst e;exact Zj8 P w x t
theorem Oa{P:Program}{w:World}:∀{ks:List Key}{us:Yr},Vals (ks.map kV) us->ItemsAre (Px P w) ks us
 |[],_,r=>by rw[List.map_nil]at r;cases r;exact .nil
 |k::ks,_,r=>by
  rw[Qn]at r;cases r with
  |cons h t=>exact .cons (FB h) (Oa t)
abbrev KT(H:Hp):List (List Key×V)->List (List Key×Addr×Value)->Prop:=Paired λp q=>p.1=q.1/\H q.2.1=some (.tup<|p.1.map kV)/\RelV p.2 q.2.2
def KT.val {H:Hp}{kvs:List (List Key×V)}{xs:List (List Key×Addr×Value)} (r:KT H kvs xs) (k:List Key):RelO (X0 kvs k) ((atKey xs k).map (·.2)):=by
 induction r with
 |nil=>exact True.intro
 | @cons p q ps qs h t ih=>
  obtain⟨h1,_,h2⟩:=h;by_cases e:p.1=k
  ·have e':q.1=k:=h1.symm.trans e;have b:atKey (q::qs) k=some q.2:=by simp[atKey,VC,e']
   rw[PJ e,b];exact h2
  ·have e':¬q.1=k:=λz=>e (h1.trans z);have b:atKey (q::qs) k=atKey qs k:=by simp[atKey,VC,e']
   rw[P7 e,b];exact ih
def KT.repl {H:Hp}{kvs:List (List Key×V)}{xs:List (List Key×Addr×Value)} (r:KT H kvs xs) (k:List Key) {y:V}{u:Value} (ry:RelV y u) :
  KT H (kvs.map λkv=>if kv.1=k then(kv.1,y)else kv) (xs.map<|putAt k u):=by
 induction r with
 |nil=>exact .nil
 | @cons p q ps qs h t ih=>
  rw[Qn,Qn];refine .cons ?_ ih;obtain⟨h1,h2,h3⟩:=h;unfold putAt;by_cases e:p.1=k
  ·rw[WO e,WO (h1.symm.trans e)];exact⟨h1,h2,ry⟩
  ·rw[WN e,WN (λz=>e (h1.trans z))];exact⟨h1,h2,h3⟩
def KT.put {H:Hp}{kvs:List (List Key×V)}{xs:List (List Key×Addr×Value)} (r:KT H kvs xs) (k:List Key) {b:Addr}{y:V}{u:Value} (hb:H b=some (.tup<|k.map kV)) (ry:RelV y u) :
  KT H (putK kvs k y) (storedH xs k b u):=by
 have e:(kvs.any λkv=>decide (kv.1=k))=(atKey xs k).isSome:=by
  rw[SK,(r.val k).isSome_eq,Option.isSome_map]
 unfold putK storedH;rw[e];by_cases q:(atKey xs k).isSome=true
 ·rw[WO q,WO q];exact r.repl k ry
 ·rw[WN q,WN q];exact Paired.snoc r ⟨rfl,hb,ry⟩
def KT.keeps {H H':Hp}{kvs:List (List Key×V)}{xs:List (List Key×Addr×Value)} (r:KT H kvs xs) (ht:∀b ys,H b=some (.tup ys)->H' b=some (.tup ys)):KT H' kvs xs:=
 Paired.mapP r λ_ _ z=>⟨z.1,ht _ _ z.2.1,z.2.2⟩
section
variable {P:Program}{w:World}{H:Hp}{h:Heap}{a:Addr}
def HP{u:HO}(ok:HOk P w H h)(e:Rd H a u):ObjOk P w H h a u:=e.ok ok
def BO{kvs:List (Key×V)}(ok:HOk P w H h)(e:Rd H a (.dK kvs)):kvs.length<=sizeLine/\(a==sysModules)=false/\∃vs,KV kvs vs/\h.DictOf (Px P w) a vs:=
 show ObjOk P w H h a (.dK kvs)from HP ok e
def Zjh{kvs:List (Key×V)}(ok:HOk P w H h)(e:H a=some (.dK kvs)):kvs.length<=sizeLine/\(a==sysModules)=false/\∃vs,KV kvs vs/\h.DictOf (Px P w) a vs:=BO ok (.inl e)
def Bp{ks:List Key}(ok:HOk P w H h)(e:H a=some (.tup<|ks.map kV)):(tupleKind<|Px P w).is h ks a:=by
 obtain⟨_,its,r,o,h1,h2,n,h3⟩:=(show ObjOk P w H h a (.tup<|ks.map kV)from ok a _ e)
 exact⟨o,its.toArray,n,h1,h2,h3,by simpa using Oa r⟩
def BN{kvs:List (List Key×V)}(ok:HOk P w H h)(e:Rd H a (.dT kvs)):kvs.length<=sizeLine/\(a==sysModules)=false/\
  ∃xs,KT H kvs xs/\h.DictOfH (tupleKind<|Px P w) a xs:=by
 obtain⟨z,y,xs,r,o,es,ep,h1,h2,h3,h4,h5⟩:=(show ObjOk P w H h a (.dT kvs)from HP ok e)
 refine⟨z,y,xs,r,o,es,ep,h1,h2,h3,h4,λx hx=>?_,h5⟩
 have all:∀{l:List (List Key×V)} {m:List (List Key×Addr×Value)},KT H l m->∀x∈m,(tupleKind<|Px P w).is h x.1 x.2.1:=by
  intro l m q
  induction q with
  |nil=>intro x hx;exact nomatch hx
  | @cons p q ps qs hq t ih=>
   intro x hx;rcases Qa.mp hx with e|hx
   ·subst e;exact Bp ok (by rw[←hq.1];exact hq.2.1)
   ·exact ih x hx
 exact all r x hx
def BF{kvs:List (List Key×V)}(ok:HOk P w H h)(e:H a=some (.dT kvs)):kvs.length<=sizeLine/\(a==sysModules)=false/\
  ∃xs,KT H kvs xs/\h.DictOfH (tupleKind<|Px P w) a xs:=BN ok (.inl e)
end
def DGet(H:Hp)(a:Addr)(y:V)(r:Option V):Prop:=
 (∃kvs k,Rd H a (.dK kvs)/\y=kV k/\r=X0 kvs k)\/∃kvs k b,Rd H a (.dT kvs)/\y=.ref b/\H b=some (.tup<|k.map kV)/\r=X0 kvs k
def DPut(H:Hp)(a:Addr)(y v:V)(H':Hp):Prop:=
 (∃kvs k,H a=some (.dK kvs)/\y=kV k/\kvs.length<sizeLine/\H'=upd H a (.dK<|putK kvs k v))\/
 ∃kvs k b,H a=some (.dT kvs)/\y=.ref b/\H b=some (.tup<|k.map kV)/\kvs.length<sizeLine/\H'=upd H a (.dT<|putK kvs k v)
def DGet.k {H:Hp}{a:Addr}{kvs:List (Key×V)}{k:Key} (e:H a=some (.dK kvs)):DGet H a (kV k) (X0 kvs k):=.inl ⟨kvs,k,.inl e,rfl,rfl⟩
def DGet.t {H:Hp}{a b:Addr}{kvs:List (List Key×V)}{k:List Key} (e:H a=some (.dT kvs)) (eb:H b=some (.tup<|k.map kV)):DGet H a (.ref b) (X0 kvs k):=.inr ⟨kvs,k,b,.inl e,rfl,eb,rfl⟩
def DPut.k {H:Hp}{a:Addr}{kvs:List (Key×V)}{k:Key}{v:V} (e:H a=some (.dK kvs)) (hl:kvs.length<sizeLine):DPut H a (kV k) v (upd H a<|.dK<|putK kvs k v):=.inl ⟨kvs,k,e,rfl,hl,rfl⟩
def DPut.t {H:Hp}{a b:Addr}{kvs:List (List Key×V)}{k:List Key}{v:V} (e:H a=some (.dT kvs)) (eb:H b=some (.tup<|k.map kV)) (hl:kvs.length<sizeLine) :
  DPut H a (.ref b) v (upd H a<|.dT<|putK kvs k v):=.inr ⟨kvs,k,b,e,rfl,eb,hl,rfl⟩
section
variable {X:Cx}{pins:Ym}{σ:St}{H:Hp}{s:Shared}{a:Addr}{y v:V}{u r:Value}{o:Option V}{A:Around}{E:Yo}
def Inv.big (I:Inv X pins σ H s):sysModules<s.heap.objs.size:=by
 have h:mainGlobals<s.heap.objs.size:=(I.mod.glob.keeps I.bk).lt;exact VL (by decide) h
def RQ{Q:Yo}(hu:A.units+1<cLine)(I:Inv X pins σ H s)(g:DGet H a y (some v))(ry:RelV y u)(h:∀w' s',Inv X pins σ H s'->RelV v w'->Q w' s') :
  wpAny (model X.prog X.w) A (getItem (.ref a) u) Q E s:=by
 rcases g with⟨kvs,k,e,ey,l⟩|⟨kvs,k,b,e,ey,eb,l⟩
 ·subst ey;obtain⟨z,hd,vs,rel,dd⟩:=BO I.hok e;obtain⟨w',hw,rw'⟩:=RelO.some_of (v:=v) (o:=valueAt vs k) (by rw[l];exact rel.val k);exact wpAny_getItem_of (FB ry) dd.mapOf hw (h w' _ (I.tok _) rw')
 ·subst ey;cases (show u=Value.ref b from ry)
  obtain⟨z,hd,xs,rel,dd⟩:=BN I.hok e;obtain⟨w',hw,rw'⟩:=RelO.some_of (v:=v) (o:=(atKey xs k).map (·.2)) (by rw[l];exact rel.val k);obtain⟨p,hp,hp2⟩:=Option.map_eq_some_iff.mp hw;refine wpAny_getItem_heap (tupleKind_room_in1 hu) (Bp I.hok eb) dd hp ?_;rw[hp2];exact h w' _ (I.tok _) rw'
def Zlb{Q:Yo}(hu:A.units+1<cLine)(I:Inv X pins σ H s)(g:DGet H a y o)(ry:RelV y u)(h:∀s',Inv X pins σ H s'->Q (.bool (!o.isSome)) s') :
  wpAny (model X.prog X.w) A (compareOp .NotIn u<|.ref a) Q E s:=by
 rcases g with⟨kvs,k,e,ey,l⟩|⟨kvs,k,b,e,ey,eb,l⟩
 ·subst ey;obtain⟨z,hd,vs,rel,dd⟩:=BO I.hok e;refine wpAny_notIn_of (FB ry) hd dd.mapOf ?_;rw[←(rel.val k).isSome_eq,←l];exact h _ (I.tok _)
 ·subst ey;cases (show u=Value.ref b from ry)
  obtain⟨z,hd,xs,rel,dd⟩:=BN I.hok e;refine wpAny_notIn_heap (tupleKind_room_in1 hu) (Bp I.hok eb) hd dd ?_;have q:=(rel.val k).isSome_eq;rw[Option.isSome_map]at q;rw[←q,←l];exact h _ (I.tok _)
def Ft{h':Heap}{t':Nat}{ob:HO}(I:Inv X pins σ H s)(mu:Mut (H a))(hs:Heap.SameBut a s.heap h')(he:∃q,h'.get? a=some q)(new:ObjOk X.prog X.w (upd H a ob) h' a ob) :
  Inv X pins σ (upd H a ob) {s with heap:=h',toks:=t'}:=
 I.write (x:=a) (e:=a) mu (.inl rfl) (λb q hb z=>(hs.2 b hb).trans z) he new
def Zoa{P:Program}{w:World}{H':Hp}{h':Heap}{kvs:List (Key×V)}{vs:List (Key×Value)}(z:kvs.length<=sizeLine)(hd:(a==sysModules)=false)(rel:KV kvs vs)(dd:h'.DictOf (Px P w) a vs) :
  ObjOk P w H' h' a (.dK kvs):=⟨z,hd,vs,rel,dd⟩
def RM{H':Hp}{Q:Unit->Shared->Prop}(hu:A.units+1<cLine)(I:Inv X pins σ H s)(g:DPut H a y v H')(ry:RelV y u)(rv:RelV v r)(h:∀s',Inv X pins σ H' s'->Q () s') :
  wpAny (model X.prog X.w) A (setItem (.ref a) u r) Q E s:=by
 rcases g with⟨kvs,k,e,ey,l,eH⟩|⟨kvs,k,b,e,ey,eb,l,eH⟩
 ·subst ey eH;obtain⟨z,hd,vs,rel,dd⟩:=Zjh I.hok e;have hz:vs.length<=sizeLine:=by rw[←rel.length];exact z
  have hl:(putK kvs k v).length<=sizeLine:=by have:=Fw kvs k v;omega
  refine wpAny_setItem_pairs (hsz:=hz) (FB ry) dd λh' dd' hs=>h _ ?_;have he:∃q,h'.get? a=some q:=let ⟨q,_,_,hq,_⟩:=dd';⟨q,hq⟩;exact Ft I (by rw[e];exact True.intro) hs he (Zoa hl hd (rel.put k rv) dd')
 ·subst ey eH;cases (show u=Value.ref b from ry)
  obtain⟨z,hd,xs,rel,dd⟩:=BF I.hok e;have hz:xs.length<=sizeLine:=by rw[←Paired.length rel];exact z
  have hl:(putK kvs k v).length<=sizeLine:=by have:=Fw kvs k v;omega
  refine wpAny_setItem_heap (hsz:=hz) (tupleKind_room_in1 hu) (Bp I.hok eb) dd λh' dd' hs=>h _ ?_;obtain⟨q,es,ep,hq,h2,h3,h4,_,h5⟩:=dd';refine Ft I (by rw[e];exact True.intro) hs ⟨q,hq⟩ ⟨hl,hd,_,(rel.put k eb rv).keeps λc ys ec=>?_,q,es,ep,hq,h2,h3,h4,h5⟩;rw[Xr (Ep ec e (λz=>nomatch z))];exact ec
end
def Oq(i:Expr):Prop:=∀ov iv,subscripted i false ov iv=operate [ov,iv] (getItem ov iv)
def Zdu{prog:Program}{w:World}{A:Around}{E:Yo}{s:Shared}{env:Env}{value slice:Expr}{pos:Pos}{T id:String}{Q:Yo}(hl:typeLookup (.type T) "__getitem__"=pure (some<|.builtin id))(hs:Oq slice)(h:wpAny (model prog w) A (eval value env) (λo s₁=>wpAny (model prog w) A (eval slice env) (λi s₂=>s₂.TypeIs o T/\wpAny (model prog w) A (getItem o i) Q E s₂) E s₁) E s) :
  wpAny (model prog w) A (eval (.Subscript value slice pos) env) Q E s:=by
 refine Subscript_ (Qz h (λo s₁ h₁=>Qz h₁ (λi s₂ h₂=>?_) λ_ _ x=>x) λ_ _ x=>x);obtain⟨hT,h₂⟩:=h₂;unfold subscriptTail;refine WE ?_;rw[getitemInPython_of_ne hT.not_modules];refine WE (wpAny_specialOf hT hl ?_)
 have fin:wpAny (model prog w) A (subscripted slice false o i) (λr s₃=>wpAny (model prog w) A (letTemporaryGo value o r >>= λ_=>pure r) Q E s₃) E s₂:=by
  rw[hs o i];exact wpAny_operating (Qz h₂ (λr s₃ h₃=>WE (wpAny_letTemporaryGo<|WL h₃)) λ_ _ x=>x)
 first
  |exact WL (WE fin)
  |exact WE (WL<|WE fin)
  |exact WE fin
def Zpc{X:Cx}{pins:Ym}{σ:St}{H:Hp}{s:Shared}{a:Addr}{y:V}{o:Option V}(I:Inv X pins σ H s)(g:DGet H a y o):s.TypeIs (.ref a) "dict":=by
 rcases g with⟨kvs,k,e,_,_⟩|⟨kvs,k,b,e,_,_,_⟩
 ·obtain⟨_,_,vs,_,dd⟩:=BO I.hok e;exact dd.typeIs
 ·obtain⟨_,_,xs,_,dd⟩:=BN I.hok e;exact dd.typeIs
noncomputable def IR(td ty:TE):TE:=λσ H Q=>td σ H λx H1=>ty σ H1 λy H2=>∃a v,x=.ref a/\DGet H2 a y (some v)/\Q v H2
noncomputable def GB(ty td:TE):TE:=λσ H Q=>ty σ H λy H1=>td σ H1 λx H2=>∃a o,x=.ref a/\DGet H2 a y o/\Q (.bl (!o.isSome)) H2
noncomputable def HK(td ty tv:TE):TS:=λD σ H=>tv σ H λv H1=>td σ H1 λx H2=>ty σ H2 λy H3=>∃a H4,x=.ref a/\DPut H3 a y v H4/\D.nx σ H4
section
variable {X:Cx}{o i e value:Expr}{pos pos' tpos:Pos}{td ty tv:TE}
def LO(hu:X.A.units+1<cLine)(ho:PE X o td)(hi:PE X i ty)(hs:Oq i):PE X (.Subscript o i pos) (IR td ty):=by
 intro pins s σ H Q I h;refine Zdu PySem.F.slot_dict_getitem.lookup hs (thn (ho pins s σ H _ I h) ?_);rintro u s1 ⟨x,H1,I1,rx,q1⟩;refine thn (hi pins s1 σ H1 _ I1 q1) ?_;rintro iv s2 ⟨y,H2,I2,ry,a,v,ex,g,q2⟩;subst ex;obtain rfl:u=Value.ref a:=rx;exact⟨Zpc I2 g,RQ hu I2 g ry λw' s3 I3 rw'=>⟨v,H2,I3,rw',q2⟩⟩
def Zes(hu:X.A.units+1<cLine)(hi:PE X i ty)(ho:PE X o td):PC X .NotIn i o (GB ty td):=by
 intro pins s σ H Q I h;refine thn (hi pins s σ H _ I h) ?_;rintro iv s1 ⟨y,H1,I1,ry,q1⟩;refine thn (ho pins s1 σ H1 _ I1 q1) ?_;rintro u s2 ⟨x,H2,I2,rx,a,ov,ex,g,q2⟩;subst ex;obtain rfl:u=Value.ref a:=rx;exact Zlb hu I2 g ry λs3 I3=>⟨.bl (!ov.isSome),H2,I3,rfl,q2⟩
def Af(hu:X.A.units+1<cLine)(ho:PE X o td)(hi:PE X i ty)(hv:PE X value tv)(hs:swapsWith value (some<|.Subscript o i pos') pos.line X.env=pure false) :
  PS X (.Assign [.Subscript o i pos'] value pos) (HK td ty tv):=by
 intro pins s σ H D I h;refine wpAny_Assign_Subscript (thn (hv pins s σ H _ I h) ?_) hs;rintro r s1 ⟨v,H1,I1,rv,q1⟩;refine thn (ho pins s1 σ H1 _ I1 q1) ?_;rintro u s2 ⟨x,H2,I2,rx,q2⟩;refine thn (hi pins s2 σ H2 _ I2 q2) ?_;rintro iv s3 ⟨y,H3,I3,ry,a,H4,ex,g,q3⟩;subst ex;obtain rfl:u=Value.ref a:=rx;exact RM hu I3 g ry rv λs4 I4=>⟨σ,H4,I4,q3⟩
end
def Zak{P:Program}{w:World}{H:Hp}(h:Heap)(hb:sysModules<h.objs.size):ObjOk P w H (h.push {cls:=.type "dict",data:=.dict #[]}) h.objs.size (.dK []):=
 ⟨QY _,Vk.mpr (Ne.symm<|Qk hb),[],.nil,Heap.DictOf.new h⟩
def LW{P:Program}{w:World}{H:Hp}(h:Heap)(hb:sysModules<h.objs.size):ObjOk P w H (h.push {cls:=.type "dict",data:=.dict #[]}) h.objs.size (.dT []):=
 ⟨QY _,Vk.mpr (Ne.symm<|Qk hb),[],.nil,_,#[],0,WX _ rfl,⟨rfl,rfl,rfl⟩,rfl,rfl,V3⟩
noncomputable def Ip:TE:=λ_ H Q=>∀p,H p=none->Q (.ref p) (upd H p<|.dK [])
noncomputable def IV:TE:=λ_ H Q=>∀p,H p=none->Q (.ref p) (upd H p<|.dT [])
section
variable {X:Cx}{pos:Pos}
def Zim:PE X (.Dict [] [] pos) Ip:=λpins s σ H Q I h=>
 wpAny_Dict_empty ⟨.ref s.heap.objs.size,_,I.laid (a:=s.heap.objs.size) (o:=.dK []) (t':=s.toks) (λ_ _ q=>WM _ q) (WQ _) (Zak s.heap I.big),rfl,h _ (I.hok.fresh<|WQ _)⟩
def Zco:PE X (.Dict [] [] pos) IV:=λpins s σ H Q I h=>
 wpAny_Dict_empty ⟨.ref s.heap.objs.size,_,I.laid (a:=s.heap.objs.size) (o:=.dT []) (t':=s.toks) (λ_ _ q=>WM _ q) (WQ _) (LW s.heap I.big),rfl,h _ (I.hok.fresh<|WQ _)⟩
end
def HU:List (TE×TE)->St->Hp->(List (V×V)->Hp->Prop)->Prop
 |[],_,H,Q=>Q [] H
 |(tk,tv)::r,σ,H,Q=>tk σ H λx H1=>tv σ H1 λy H2=>HU r σ H2 λps H3=>Q ((x,y)::ps) H3
abbrev VV:List (V×V)->List (Value×Value)->Prop:=Paired λp q=>RelV p.1 q.1/\RelV p.2 q.2
def PPs(X:Cx)(pos:Pos)(keys:List (Option Expr))(values:Yt)(trs:List (TE×TE)):Prop:=
 ∀(pins:Ym) (s:Shared) (σ:St) (H:Hp) (Q:List (V×V)->Hp->Prop),Inv X pins σ H s->HU trs σ H Q->
  wpAny (model X.prog X.w) X.A (evalPairs<|pairTrees keys values X.env pos) (λvs s'=>∃ps H',Inv X pins σ H' s'/\VV ps vs/\Q ps H') X.xe s
def Zg3{X:Cx}{pos:Pos}:PPs X pos [] [] []:=λpins s σ H Q I h=>pairTrees_nil_walk ⟨[],H,I,.nil,h⟩
def Zd7{X:Cx}{pos:Pos}{k v:Expr}{ks:List (Option Expr)}{vs:Yt}{tk tv:TE}{trs:List (TE×TE)}(hk:PE X k tk)(hv:PE X v tv)(hr:PPs X pos ks vs trs) :
  PPs X pos (some k::ks) (v::vs) ((tk,tv)::trs):=λpins s σ H Q I h=>
 pairTrees_cons_walk (thn (hk pins s σ H _ I h) λu s1 ⟨x,H1,I1,rx,q1⟩=>thn (hv pins s1 σ H1 _ I1 q1) λw2 s2 ⟨y,H2,I2,ry,q2⟩=>
  thn (hr pins s2 σ H2 _ I2 q2) λws s3 ⟨ps,H3,I3,rel,q3⟩=>⟨(x,y)::ps,H3,I3,.cons ⟨rx,ry⟩ rel,q3⟩)
end L2
set_option genInjectivity false
set_option genSizeOfSpec false
namespace Own
open PySem PySem.Spec PyProof.Rows L2
structure Def (K:Yj) (mg:Yn) (x:Str) (st:Stmt) (ps:Ys):Prop where
 ex:∃f fd,Fun K x x st f fd/\mg x=some (.ref f)/\Binds K fd ps []
structure Callee (P:Program) (w:World) (K:Yj) (mg:Yn) (base:Heap) (CX:CXT) (k:Nat) (x:Str) (ps:Ys) (sp:Sp):Prop where
 ex:∃f fd,K8 P w K mg base CX k f fd ps sp/\mg x=some (.ref f)/\PySem.W.keepIn K (.ref f)=true/\(∃o:Obj,K.lookup f=some o/\o.data=.func fd)/\Binds K fd ps []
section
variable {P:Program}{w:World}{K:Yj}{mg:Yn}{base:Heap}
def Callee.at {st f fd k ps sp} (C:Callee P w K mg base CX k x ps sp) (hm:mg x=some (.ref f)) (F:Fun K x x st f fd) (_:Def K mg x st ps):K8 P w K mg base CX k f fd ps sp:=by
 obtain⟨f',fd',Fo,hm',_,hl,_⟩:=C.ex;obtain⟨oc,od,kV,doc,pm,an,cdv,ct,osl,_,lk,_⟩:=F.ex
 grind
def Def.ok {st N ps k sp} (D:Def K mg x st ps) (S:Xn N ps (Xk st)) (len:∀vs H Q E,sp vs H Q E->vs.length=ps.length)
  (hbody:∀f cdv A outer s H vs Q E,Xv k (A.deeper<|envOfC x (Xk st) s.heap.objs.size f cdv)->sp vs H Q E->
   ∃t,PSs (XY CX0 P w K mg base N x (Xk st) f cdv A outer s H E).nox (XQ st) t/\t {nx:=λ_ H'=>Q .non H',rt:=Q} (start N vs) H):Callee P w K mg base CX0 (k+1) x ps sp:=by
 obtain⟨f,fd,F,hm,hb⟩:=D.ex;refine⟨f,fd,F.ok S len λcdv A outer s H vs Q E hr h=>hbody f cdv A outer s H vs Q E hr h,hm,F.kp,?_,hb⟩;obtain⟨oc,od,kV,doc,pm,an,cdv,ct,osl,_,lk,_⟩:=F.ex
 grind
end
section
variable {X:Cx}{CX:CXT}{k:Nat}{ps:Ys}{sp:Sp}{E:XK}{x:Str}{p pos:Pos}{e:Expr}{es:Yt}{t:TA}
def Cy(C:Callee X.prog X.w X.K X.mg X.base CX k x ps sp)(hr:Xv k X.A)(hx:Pj CX X E)(ha:PA X (e::es) t)(hg:autoParam (Gl X x) au_0)(hdb:autoParam ((x==("__debug__" : Str))=false) au_1)(he:autoParam (starEach (e::es) X.env=(false,eval e X.env)::starEach es X.env) au_0)(hpl:autoParam ((backTo pos<|starEach es X.env).any (·.1)=false) au_0) :
  PE X (.Call (.Name x p) (e::es) [] pos) (TK sp [] E t):=by
 obtain⟨f,fd,F,hm,hk,_,hb⟩:=C.ex;exact Zjd F hr hg hm hk hb .nil hx ha hdb he hpl
def RJ:Kh X (.builtin "isinstance") (λxs H Q=>∃x n t b,xs=[x,.ty n]/\KQ X.K H x t/\PySem.W.kitOne X.K t (.type n)=some b/\Q (.bl b) H):=by
 intro pins s σ H xs us Q I rv h;obtain⟨x,n,t,b,rfl,ty,e,q⟩:=h;cases rv with
 |cons r rr=>
  cases rr with
  |cons r' rr'=>
   cases rr'
   obtain rfl:=r';exact Zjg I r ty e λtk=>⟨.bl b,H,I.tok tk,rfl,q⟩
def Zoz:IxR X (λx y H Q=>SX X.K x y H Q\/SW X.K x y H Q):=ix_list.or Zn2
end
noncomputable def Ge(t u:TS):TS:=λD σ H=>∃J:L2.St->Hp->Prop,t {D with nx:=J} σ H/\∀σ' H',J σ' H'->u D σ' H'
def Zms{st rest t u}(h1:PS X st t)(h2:PSs X rest u):PSs X (st::rest) (Ge t u):=by
 intro pins s σ H D I h;obtain⟨J,h,k⟩:=h;refine wpAny_execs_cons (thn (h1 pins s σ H {D with nx:=J} I h) λf s1 q=>?_)
 cases f with
 |next=>
  obtain⟨σ',H',I',q⟩:=q;exact h2 pins s1 σ' H' D I' (k σ' H' q)
 |_=>exact q
def Zct(K:Yj)(n:String):PySem.W.kitOne K (.type n) (.type n)=some true:=by
 unfold PySem.W.kitOne;simp
def T5{xs i v}(h:atI xs i=some v):atI (xs.map f) i=some (f v):=by
 unfold atI at h ⊢;cases e:ixN xs.length i with
 |_=>grind
def Sg{i v}(h0:0<=i)(h:xs[i.toNat]?=some v):atI xs i=some v:=by
 have:=NM h
 grind
def Kb(h:H a=none):Same H (upd H a o):=λb u e=>by rw[Xr (Kw e h)];exact e
def Same.upd (S:Same H H') (h:H a=none):Same H (upd H' a o):=λb u e=>by rw[Xr (Kw e h)];exact S b u e
def Same.new (S:Same H H') (h:H' a=none):Same H (L2.upd H' a o):=Own.Same.upd S (S.free h)
def Zpi(names:List (Str×NameKind))(hall:∀x∈names,x.2=.free->∃c,env.cells.lookup x.1=some c):∀cs0,(∀x c,cs0.lookup x=some c->env.cells.lookup x=some c)->
  ∃cl,(forIn names cs0 (λx cs=>if (x.2 == .free)=true then(do let c ←cellOf env x.1;pure (ForInStep.yield ((x.1,c)::cs)))else pure (ForInStep.yield cs)):Sem (Yx))=pure cl/\
   (∀x c,cl.lookup x=some c->env.cells.lookup x=some c)/\(∀x,(∃c,cs0.lookup x=some c)->∃c,cl.lookup x=some c)/\∀x∈names,x.2=.free->∃c,cl.lookup x.1=some c:=by
 induction names with
 |nil=>
  intro cs0 h0;exact⟨cs0,rfl,h0,λ_ h=>h,λx hx=>by cases hx⟩
 |cons y r ih=>
  intro cs0 h0;have ih':=ih λx hx=>hall x (Qe _ hx);obtain⟨n,k⟩:=y;by_cases hk:k=.free
  ·subst hk;obtain⟨c,hc⟩:=hall (n,.free) Qu rfl
   have h1:∀x d,List.lookup x ((n,c)::cs0)=some d->env.cells.lookup x=some d:=λx d e=>by
    rw[Va]at e;by_cases hx:x=n
    ·subst hx;simp at e;subst e;exact hc
    ·have:(x==n)=false:=by simpa using hx
     rw[this]at e;exact h0 x d e
   obtain⟨cl,e,p1,p2,p3⟩:=ih' ((n,c)::cs0) h1;refine⟨cl,?_,p1,λx hx=>p2 x ?_,λx hx hf=>?_⟩
   ·rw[List.forIn_cons];have ec:cellOf env n=pure c:=by unfold cellOf;rw[hc]
    rwa[ec]
   ·rw[Va];cases (x==n)
    ·exact hx
    ·exact⟨c,rfl⟩
   ·rcases Qa.mp hx with rfl|hx
    ·exact p2 n ⟨c,by simp[Va]⟩
    ·exact p3 x hx hf
  ·obtain⟨cl,e,p1,p2,p3⟩:=ih' cs0 h0;refine⟨cl,?_,p1,p2,λx hx hf=>?_⟩
   ·grind
   ·rcases Qa.mp hx with rfl|hx
    ·exact absurd hf hk
    ·exact p3 x hx hf
def RK{sc}(hall:∀x∈sc.names,x.2=.free->∃c,env.cells.lookup x.1=some c) :
  ∃cl,closureFor sc env=pure cl/\(∀x c,cl.lookup x=some c->env.cells.lookup x=some c)/\∀x∈sc.names,x.2=.free->∃c,cl.lookup x.1=some c:=by
 obtain⟨cl,e,p1,_,p3⟩:=Zpi sc.names hall [] (λx c h=>by cases h);unfold closureFor
 grind
noncomputable def Kj(X:Cx)(N':Ys)(sc:Scope)(cl:Yx)(C:Addr)(s₃:Shared)(H₃:Hp)(ex:List Addr):Cx:=
 {X with N:=N',s₀:=s₃,H₀:=H₃,env:=compEnvC sc cl C X.env,outer:=X.stack,ex:=ex,fn:=λ_=>false,pn:=[],xe:=λ_ _=>False}
structure NR (X:Cx) (N':Ys) (φ:Yp) (sc:Scope):Prop where
 kind:sc.kind=.function
 okind:X.env.scope.kind=.function
 nocell:∀y∈sc.names,y.2≠.cell
 names:∀y∈sc.names,y.2=.local->sc.names.lookup y.1=some .local
 frees:∀y∈sc.names,y.2=.free->X.env.scope.names.lookup y.1=some .cell
 len:φ.length=N'.length
 pick:∀(i:Nat) (x:Str) (j:Nat),N'[i]?=some x->φ[i]?=some (some j)->X.N[j]?=some x/\sc.names.lookup x=some .free
noncomputable def atStart(φ:Yp)(σ:L2.St):L2.St:=φ.map λo=>o.bind λj=>(σ[j]?).join
def Sub(σ σ':L2.St):Prop:=σ'.length=σ.length/\∀(i:Nat) (v:V),σ[i]?=some (some v)->σ'[i]?=some (some v)
def Sub.refl:Sub σ σ:=⟨rfl,λ_ _ h=>h⟩
def Sub.skip (h:Sub σ σ'):Sub (none::σ) (x::σ'):=by
 refine⟨by simp[h.1],λi v e=>?_⟩;cases i with
 |zero=>grind
 |succ i=>simp at e ⊢;exact h.2 i v e
theorem Le{env:Env}(hk:env.scope.kind=.function):∀{names:List (Str×NameKind)}{x:Str},names.lookup x=some .free->env.scope.names.lookup x=some .cell->
  (names.map λ(n,k)=>if (k==NameKind.free&&env.scope.kind == .function&&env.kindOf n==some .cell)then(n,NameKind.cell)else(n,k)).lookup x=some .cell
 |[],_,h,_=>by simp at h
 |(n,k)::r,x,h,hc=>by
  have ih:=@Le env hk r x;show List.lookup x ((if (k==NameKind.free&&env.scope.kind == .function&&env.kindOf n==some .cell)=true then(n,NameKind.cell)else(n,k))::_)=_;cases hx:x==n with
  |true=>
   have hkk:env.kindOf x=some .cell:=hc;simp_all
  |false=>
   simp only[Va,hx]at h;by_cases hcc:(k==NameKind.free&&env.scope.kind == .function&&env.kindOf n==some .cell)=true
   ·rw[WO hcc];simp only[Va,hx];exact ih h hc
   ·rw[WN hcc];simp only[Va,hx];exact ih h hc
theorem E9{env:Env}:∀{names:List (Str×NameKind)}{x}{q:NameKind},
  (names.map λ(n,k)=>if (k==NameKind.free&&env.scope.kind == .function&&env.kindOf n==some .cell)then(n,NameKind.cell)else(n,k)).lookup x=some q->∃k,(x,k)∈names/\(q=k\/k=.free)
 |[],_,_,h=>by simp at h
 |(n,k)::r,x,q,h=>by
  have h':List.lookup x ((if (k==NameKind.free&&env.scope.kind == .function&&env.kindOf n==some .cell)=true then(n,NameKind.cell)else(n,k))::(r.map λ(n,k)=>if (k==NameKind.free&&env.scope.kind == .function&&env.kindOf n==some .cell)then(n,NameKind.cell)else(n,k)))=some q:=h;cases hx:x==n with
  |true=>
   have e:x=n:=by simpa using hx
   subst e;by_cases hcc:(k==NameKind.free&&env.scope.kind == .function&&env.kindOf x==some .cell)=true
   ·simp_all
   ·simp_all
  |false=>
   have h2:List.lookup x (r.map λ(n,k)=>if (k==NameKind.free&&env.scope.kind == .function&&env.kindOf n==some .cell)then(n,NameKind.cell)else(n,k))=some q:=by
    by_cases hcc:(k==NameKind.free&&env.scope.kind == .function&&env.kindOf n==some .cell)=true
    ·rw[WO hcc]at h';simp only[Va,hx]at h';exact h'
    ·rw[WN hcc]at h';simp only[Va,hx]at h';exact h'
   obtain⟨k',hm,hq⟩:=(@E9 env r x q) h2;exact⟨k',Qe _ hm,hq⟩
def Ry{elt target iter ifs scope pos it acc env}(I:Nat->Shared->Prop)
  (turn:∀n s,I n s->wpAny (model prog w) A (pyNext it) (λr s₁=>match r with
   |none=>R (.ok .next) s₁
   |some v=>wpAny (model prog w) A (letOwnedTupleGo target it v) (λ_ s₁'=>wpAny (model prog w) A (assign target env v) (λ_ s₂=>
     wpAny (model prog w) A (forIn ifs true λc r=>if r=true then do let ok ←isTrue c env (eval c env);pure (ForInStep.yield ok)else pure (ForInStep.yield r)) (λok s₃=>
      if ok=true then wpAny (model prog w) A (eval elt env) (λx s₄=>
       wpAny (model prog w) A (call (.builtin "list.append") [acc,x]) (λ_ s₅=>∃m,m<n/\I m s₅) (λ_ _=>False) s₄) (λ_ _=>False) s₃
      else ∃m,m<n/\I m s₃) (λ_ _=>False) s₂) (λ_ _=>False) s₁') (λ_ _=>False) s₁) (λ_ _=>False) s)
  (n:Nat) (h:I n s) :
  codeAny (model prog w) A (.compLoop (.ListComp elt [⟨target,iter,ifs,0⟩] scope pos) 0 it acc env) R s:=by
 refine codeAny_loop rfl I (λn s hI=>?_) n h;refine wpAny_noted ?_;rw[compTurn_list];refine WE (VS<|WE (Qz (turn n s hI) (λr s₁ h₁=>?_) λ_ _ h'=>h'.elim));cases r with
 |none=>exact WL h₁
 |some v=>
  refine WE (Qz h₁ (λ_ s₁' h₁'=>?_) λ_ _ h'=>h'.elim);refine WE (Qz h₁' (λ_ s₂ h₂=>WE (Qz h₂ (λok s₃ h₃=>?_) λ_ _ h'=>h'.elim)) λ_ _ h'=>h'.elim);cases ok with
  |false=>exact WL ⟨rfl,h₃⟩
  |true=>
   exact WE (WE (Qz h₃ (λx s₄ h₄=>WE (Qz h₄ (λ_ s₅ h₅=>WL (WL ⟨rfl,h₅⟩)) λ_ _ h'=>h'.elim)) λ_ _ h'=>h'.elim))
def N0(X:Cx)(ifs:Yt)(t:TT):Prop:=
 ∀(pins:Ym) (s:Shared) (σ:L2.St) (H:Hp) (Q:Bool->Hp->Prop),Inv X pins σ H s->t σ H Q->
  wpAny (model X.prog X.w) X.A (forIn ifs true λc r=>if r=true then do let ok ←isTrue c X.env (eval c X.env);pure (ForInStep.yield ok)else pure (ForInStep.yield r)) (TP X pins σ Q) X.xe s
noncomputable def EO:TT:=λ_ H Q=>Q true H
def Nm:N0 X [] EO:=λ_ _ _ H _ I h=>WL ⟨H,I,h⟩
def FA(hc:PT X c t):N0 X [c] t:=by
 intro pins s σ H Q I h;rw[List.forIn_cons];refine WE ?_;exact WE (thn (hc pins s σ H Q I h) λb s1 q=>WL (WL q))
noncomputable def Ba(φ:Yp)(wi:TI)(g:TG)(tc:TT)(te:TE):TE:=λσ H Q=>wi σ H λJ H1=>∀D,H1 D=none->∃W:Nat->Nat->List V->Hp->Prop,(∃m,W 0 m [] (upd H1 D<|.lst []))/\
 ∀i m ys H2,W i m ys H2->(J.stop i H2/\Q (.ref D) H2)\/(J.go i H2/\∀x H3,J.yld i H2 x H3->g x (atStart φ σ) H3 λσ2 H4=>Sub (atStart φ σ) σ2/\tc σ2 H4 λb H5=>
  if b=true then te σ2 H5 λy H6=>H6 D=some (.lst ys)/\ys.length<sizeLine/\∃m',m'<m/\W (i+1) m' (ys++[y]) (upd H6 D<|.lst (ys++[y]))else ∃m',m'<m/\W (i+1) m' ys H5)
def Inv.weak {σ σ':L2.St}{H}{s} (I:Inv X pins σ' H s) (S:Sub σ σ'):Inv X pins σ H s:=
 ⟨I.ok,I.os,I.bare,I.base,let ⟨m,hn,hl⟩:=I.loc;⟨m,hn,λi x v h1 h2 h3=>hl i x v h1 (S.2 i v h2) h3⟩,I.cell,I.free,I.freeC,I.pin,I.hok,by rw[←S.1];exact I.len⟩
def GG{i:Nat}{v}(h:(atStart φ σ)[i]?=some (some v)):∃j,φ[i]?=some (some j)/\σ[j]?=some (some v):=by
 unfold atStart at h;cases e:φ[i]? with
 |none=>grind
 |some o=>
  cases o with
  |_=>grind
def CompEnd(X:Cx)(pins:Ym)(σ:L2.St)(Q:VK)(use:Option (Value->Sem Unit))(QQ:Yo):Prop:=
 ∀(D C:Addr) (H5:Hp) (s6:Shared),Q (.ref D) H5->Inv X pins σ H5 s6->(∃m,s6.heap.Ns C m)->H5 C=none->C≠X.env.locals->X.s₀.heap.objs.size<=C->(∀x c,X.env.cells.lookup x=some c->c≠C)->(∀p∈X.pn++pins,p.1≠C)->C∉X.fs->
  compPost (model X.prog X.w) X.A X.xe use QQ (.ref D) C (.ok .next) s6
def LL{elt iter tg}{ifs}{pos pos'}{wi}{g}{tc}{te}{use}{QQ}(hcalm:X.calm=true)(S:NR X N' φ sc)(hi:PI X tg iter wi)(hin:∀cl C s₃ H₃ ex,PG (Kj X N' sc cl C s₃ H₃ ex) tg g/\N0 (Kj X N' sc cl C s₃ H₃ ex) ifs tc/\PE (Kj X N' sc cl C s₃ H₃ ex) elt te)(hs:∀x,foldedSetIterable iter X.env x=pure x){pins}{s}{σ:L2.St}{H}{Q}(I:Inv X pins σ H s)(h:Ba φ wi g tc te σ H Q)(fin:CompEnd X pins σ Q use QQ) :
  wpAny (model X.prog X.w) X.A (comprehension (.ListComp elt [⟨tg,iter,ifs,0⟩] sc pos) sc X.env pos' (newList []) false (eval iter X.env) use) QQ X.xe s:=by
 obtain⟨cl,hcl,p1,p3⟩:=RK λx hx hf=>I.ok.has x.1 (.inl<|S.frees x hx hf);refine wpAny_comprehension_free rfl hs hcl S.kind S.names ?_;refine thn (hi pins s σ H _ I h) λv s1 h1=>thn h1 λitv s2 h2=>?_;obtain⟨it,fp,tn,J,H2,e,I2,T,st2,f2,hR⟩:=h2;subst e;refine QC ?_;have hf:=I2.hok.fresh (WQ _);obtain⟨W,⟨m0,w0⟩,turn⟩:=hR s2.heap.objs.size hf;generalize eD:s2.heap.objs.size=D at *
 have I3:Inv X pins σ (upd H2 D<|.lst []) {s2 with heap:=s2.heap.push {cls:=.type "list",dict:=none,data:=.seq ([]:Yr).toArray}}:=
  I2.laid (λb u e=>WM _ e) (Vf eD) ⟨QY _,[],0,.nil,by rw[←eD];exact WX _ rfl⟩
 have st3:tn 0 (s2.heap.push {cls:=.type "list",dict:=none,data:=.seq ([]:Yr).toArray}):=T.keep _ _ _ st2 λb _ o e=>WM _ e
 have hfpD:∀b∈fp,b≠D:=λb hb z=>by
  obtain⟨o,ho,_⟩:=T.obj _ _ st2 b hb
  have:=WT ho
  rw[z,←eD]at this;exact QP _ this
 have f3:∀b∈fp,TZ X pins (upd H2 D<|.lst []) b:=λb hb=>⟨by rw[Xr (hfpD b hb)];exact(f2 b hb).1,(f2 b hb).2⟩;generalize es3:({s2 with heap:=s2.heap.push {cls:=.type "list",dict:=none,data:=.seq ([]:Yr).toArray}}:Shared)=s3 at *
 have st3':tn 0 s3.heap:=by rw[←es3];exact st3
 generalize eH3:upd H2 D (.lst [])=H3 at *;refine wpAny_newFunctionEnv S.nocell (by intro y hy;simp at hy) (λh₁ hns₁ hsb₁=>?_) S.kind;have hh3:s3.heap=s2.heap.push {cls:=.type "list",dict:=none,data:=.seq ([]:Yr).toArray}:=by rw[←es3]
 rw[hh3]at hns₁ hsb₁;rw[←hh3]at hns₁ hsb₁;have old:=λb o e=>hsb₁.extBut b o (Qk<|WT e) (WM _ e)
 have hC0:s3.heap.get? s3.heap.objs.size=none:=by
  cases e:s3.heap.get? s3.heap.objs.size with
  |none=>rfl
  |some o=>exact absurd (WT e) (QP _)
 generalize eC:s3.heap.objs.size=C at *;have hH3C:=I3.hok.fresh (Vf eC)
 have OK:(Kj X N' sc cl C s3 H3 fp).Ok:=by
  refine⟨I.ok.mod,?_,I.ok.glob,I.ok.blt,Vf eC,λx y c h1 h2=>I.ok.inj x y c (p1 x c h1) (p1 y c h2),?_,(λx c hx=>by cases hx),I.ok.hd,I.ok.frames,.inl rfl,?_,I3.bs,WU I.ok.bsz I3.sz,?_,?_,I3.stack,I3.stkFree⟩
  ·exact S.kind
  ·intro x hx;have hx':=hx.imp E9 E9
   have hfr:(x,NameKind.free)∈sc.names:=by
    rcases hx' with⟨k,hm,rfl|rfl⟩|⟨k,hm,rfl|rfl⟩
    ·exact absurd rfl (S.nocell _ hm)
    ·exact hm
    ·exact hm
    ·exact hm
   exact p3 _ hfr rfl
  ·intro b hb;refine⟨λz=>?_,λx c hx=>(f3 b hb).2.2.2.2.1 x c (p1 x c hx)⟩;obtain⟨o,ho,_⟩:=T.obj _ _ st3' b hb;have z':b=C:=z;rw[z',hC0]at ho;cases ho
  ·intro b o hb hx;obtain⟨_,_,_,q,_,_⟩:=f3 b hx;rcases q with q|q
   ·exact I.ok.noex b o hb q
   ·have:=Qq (WT hb) (WU I.ok.bsz q)
    exact QP _ this
  ·intro b hb hz;rcases Qa.mp (I.stkSub b hz)with q|q
   ·exact(f3 b hb).2.1 q
   ·exact(f3 b hb).2.2.1 q
 have hlen0:(atStart φ σ).length=N'.length:=by unfold atStart;rw[WG];exact S.len
 have I4:Inv (Kj X N' sc cl C s3 H3 fp) [] (atStart φ σ) H3 {s3 with heap:=h₁,toks:=s3.toks+([]:List (Str×Value)).length}:=by
  refine⟨OK,rfl,I3.bare,Un.kept old,⟨_,hns₁,λi x v h1 h2 h3=>?_⟩,λx c hx=>?_,hH3C,λx c hx=>I3.freeC x c (p1 x c hx),λp hp=>?_,I3.hok.kept old,hlen0⟩
  ·obtain⟨j,hj,hv⟩:=GG h2;obtain⟨hN,hfr⟩:=S.pick i x j h1 hj;obtain⟨m,_,hl⟩:=I3.loc;have hm:=Vl hfr;have hcell:=S.frees _ hm rfl;obtain⟨u,ru,lk⟩:=hl j x v hN hv (.inr<|.inl hcell);refine⟨u,ru,.inr ⟨.inl (Le S.okind hfr hcell),?_⟩⟩;obtain⟨c,hc⟩:=p3 _ hm rfl;rcases lk with⟨hk,_⟩|⟨_,c',hc',hcl'⟩
   ·have hk':X.env.scope.names.lookup x=some .local:=hk;rw[hcell]at hk';cases hk'
   ·have e:=p1 _ _ hc;rw[hc']at e;cases e
    obtain⟨o,ho,hd⟩:=hcl';exact⟨_,hc,o,old _ o ho,hd⟩
  ·obtain⟨v,hv⟩:=I3.cell x c (p1 x c hx);obtain⟨o,ho,hd⟩:=hv;exact⟨v,o,old _ o ho,hd⟩
  ·exact absurd hp (by simp[Kj])
 have st4:=T.keep _ _ _ st3' λb _ o e=>old b o e
 have stat:∀{H':Hp},(∀b∈fp,H' b=none)->∀b∈fp,TZ (Kj X N' sc cl C s3 H3 fp) [] H' b:=λhn b hb=>
  ⟨hn b hb,(OK.exf b hb).1,OK.exfs b hb,.inl hb,(OK.exf b hb).2,λp hp=>absurd hp (by simp[Kj])⟩
 obtain⟨hPG,hPI,hPE⟩:=hin cl C s3 H3 fp
 have loop:codeAny (model X.prog X.w) X.A (.compLoop (.ListComp elt [⟨tg,iter,ifs,0⟩] sc pos) 0 (.ref it) (.ref D)<|compEnvC sc cl C X.env) (compPost (model X.prog X.w) X.A X.xe use QQ (.ref D) C) {s3 with heap:=h₁,toks:=s3.toks+([]:List (Str×Value)).length}:=by
  refine Ry (λn s'=>∃i ys σ' H',Inv (Kj X N' sc cl C s3 H3 fp) [] σ' H' s'/\Sub (atStart φ σ) σ'/\tn i s'.heap/\(∀b∈fp,H' b=none)/\W i n ys H') ?_ m0 ⟨0,[],_,_,I4,Sub.refl,st4,λb hb=>(f3 b hb).1,w0⟩;rintro n s5 ⟨i,ys,σ5,H5,I5,sub5,st5,fr5,w5⟩;have I5':=Own.Inv.weak I5 sub5;rcases turn i n ys H5 w5 with⟨stop,qn⟩|⟨go,step⟩
  ·refine thn (T.done (Kj X N' sc cl C s3 H3 fp) rfl rfl rfl hcalm i [] s5 _ H5 _ I5' (stat fr5) st5 stop) ?_;rintro r s6 ⟨hr,I6⟩;subst hr;obtain⟨m,hn,_⟩:=I6.loc;obtain⟨hh,gg,dd,tt,oo⟩:=s6;obtain rfl:=I6.os;have R:Inv X pins σ H5 {s3 with heap:=hh,gens:=gg,drawn:=dd,toks:=tt}:=I3.call I6.base I6.hok I6.bare λb hb=>⟨(f3 b hb).2.2.2.1,(f3 b hb).2.1,(f3 b hb).2.2.2.2.1,(f3 b hb).2.2.2.2.2⟩
   have hC3:=Vf eC;obtain⟨q0,q1,q2,q3,q4,q5⟩:=I3.fpOk hC3 hH3C;refine fin D C H5 _ qn R ⟨m,hn⟩ I6.free q1 (WU I3.sz hC3) q4 q5 q2
  ·refine thn (T.item (Kj X N' sc cl C s3 H3 fp) rfl rfl rfl hcalm i [] s5 _ H5 _ I5' (stat fr5) st5 go) ?_;rintro r s6 ⟨u,hr,h6⟩;subst hr;refine thn h6 ?_;rintro _ s7 ⟨x,H7,I7,r7,y7,st7,fr7⟩;have I7':=I7.pinned (stat fr7) (T.obj _ _ st7);refine thn (hPG _ s7 _ H7 x u _ I7' r7<|step x H7 y7) ?_;rintro _ s8 ⟨σ8,H8,I8,sub8,q8⟩;refine thn (hPI _ s8 σ8 H8 _ I8 q8) ?_;rintro ok s9 ⟨H9,I9,q9⟩
   have again:∀{s10:Shared} {H10:Hp} {ys':List V} {m':Nat},Inv (Kj X N' sc cl C s3 H3 fp) ([]++SB fp s7.heap) σ8 H10 s10->W (i+1) m' ys' H10->∃i ys σ' H',Inv (Kj X N' sc cl C s3 H3 fp) [] σ' H' s10/\Sub (atStart φ σ) σ'/\tn i s10.heap/\(∀b∈fp,H' b=none)/\W i m' ys H':=λ{s10 H10 ys' m'} J10 w10=>by
    refine⟨i+1,ys',σ8,H10,J10.unpinned,sub8,T.keep _ _ _ st7 λb hb o e=>(J10.pin (b,o)<|Ql _<|Ql _<|BE hb e).1,λb hb=>?_,w10⟩;obtain⟨o,e,d⟩:=T.obj _ _ st7 b hb;exact(J10.pin (b,o)<|Ql _<|Ql _<|BE hb e).2.1
   cases ok with
   |false=>
    obtain⟨m',hm,w'⟩:=q9;exact⟨m',hm,again I9 w'⟩
   |true=>
    refine thn (hPE _ s9 σ8 H9 _ I9 q9) ?_;rintro xv s10 ⟨y,H10,I10,r10,hD,hl,m',hm,w'⟩;refine thn (Sz _ s10 σ8 H10 (.ref D) [y] (.ref D) [xv] (λ_ H11=>H11=upd H10 D (.lst (ys++[y]))) I10 rfl (.cons r10 .nil) ⟨D,ys,y,rfl,rfl,hD,hl,rfl⟩) ?_;rintro _ s11 ⟨_,H11,I11,_,e11⟩;subst e11;exact⟨m',hm,again I11 w'⟩
 refine codeAny_compStart_list loop (T.self _ 0 _ _ _ st4 loop)
def Am{elt iter tg ifs pos wi g tc te}(hcalm:X.calm=true)(S:NR X N' φ sc)(hi:PI X tg iter wi)(hin:∀cl C s₃ H₃ ex,PG (Kj X N' sc cl C s₃ H₃ ex) tg g/\N0 (Kj X N' sc cl C s₃ H₃ ex) ifs tc/\PE (Kj X N' sc cl C s₃ H₃ ex) elt te)(hs:autoParam (∀x,foldedSetIterable iter X.env x=pure x) au_3):PE X (.ListComp elt [⟨tg,iter,ifs,0⟩] sc pos) (Ba φ wi g tc te):=by
 intro pins s σ H Q I h;refine LL hcalm S hi hin hs I h λD C H5 s6 q R hm c0 c1 c2 c3 c4 c5=>?_;obtain⟨m,hn⟩:=hm;exact⟨m,hn,λh' sb=>⟨.ref D,H5,R.turned (λb o hb e=>sb.extBut b o hb e) c0 c1 (.inr c2) c3 c4,rfl,q⟩⟩
def Zdl{elt iter tg ifs pos spos py wi g tc te i y}(hN:X.N.Nodup)(hy:X.N[i]?=some y)(hl:X.env.scope.names.lookup y=some .local)(hcalm:X.calm=true)(S:NR X N' φ sc)(hi:PI X tg iter wi)(hin:∀cl C s₃ H₃ ex,PG (Kj X N' sc cl C s₃ H₃ ex) tg g/\N0 (Kj X N' sc cl C s₃ H₃ ex) ifs tc/\PE (Kj X N' sc cl C s₃ H₃ ex) elt te)(hs:autoParam (∀x,foldedSetIterable iter X.env x=pure x) au_3)(hsw:autoParam (swapsWith (.ListComp elt [⟨tg,iter,ifs,0⟩] sc pos) (some<|.Name y py) spos.line X.env=pure true) au_0) :
  PS X (.Assign [.Name y py] (.ListComp elt [⟨tg,iter,ifs,0⟩] sc pos) spos) (N2 (Ba φ wi g tc te)<|Sm i):=by
 intro pins s σ H D0 I h;rw[exec_Assign_Name_used _ _ _ _ hsw];refine WE (VS<|WE ?_);refine WE (Qz (LL hcalm S hi hin hs I h λD C H5 s6 q R hm c0 c1 c2 c3 c4 c5=>?_) (λ_ s' z=>WL (WL z)) λ_ _ e=>e);obtain⟨m,oC,es,ep,hoC,hdC,rC⟩:=hm
 have R2:Inv X (pins++[(C,oC)]) σ H5 s6:=R.pins_of λp hp=>(WV.mp hp).elim (λz=>R.pin p (Ql _ z)) λz=>by
  grind
 refine wpAny_assign_Name (SE R2 hN hy (.inl hl) (v:=.ref D) rfl (λs7 I7=>?_)<|.inr hl);refine⟨m,⟨oC,es,ep,((I7.pin (C,oC)<|Ql _<|Ql _<|WJ.mpr rfl).1),hdC,rC⟩,λh' sb=>?_⟩;exact⟨_,H5,I7.unpinned.turned (λb o hb e=>sb.extBut b o hb e) c0 c1 (.inr c2) c3 c4,q⟩
noncomputable def Bm(sc osc:Scope)(N N':Ys)(φ:Yp):Bool:=
 sc.kind == .function&&osc.kind == .function&&(sc.names.all λy=>y.2 != .cell&&(y.2 != .local || sc.names.lookup y.1==some .local)&&(y.2 != .free || osc.names.lookup y.1==some .cell)) &&
  φ.length==N'.length&&((N'.zip φ).all λp=>match p.2 with|none=>true|some j=>N[j]? == some p.1&&sc.names.lookup p.1==some .free)
def NR.of {N'}{φ sc} (h:Bm sc X.env.scope X.N N' φ=true):NR X N' φ sc:=by
 unfold Bm at h;simp only[Q4,beq_iff_eq,Vb,Bool.or_eq_true,bne_iff_ne,ne_eq]at h;obtain⟨⟨⟨⟨h1,h2⟩,h3⟩,h4⟩,h5⟩:=h;refine⟨h1,h2,λy hy=>(h3 y hy).1.1,λy hy hl=>?_,λy hy hf=>?_,h4,λi x j hi hj=>?_⟩
 ·grind
 ·grind
 ·have hz:(N'.zip φ)[i]?=some (x,some j):=by rw[List.getElem?_zip_eq_some];exact⟨hi,hj⟩
  have:=h5 _ (Qg hz)
  grind
end Own
namespace SetR
open PySem PySem.Spec PyProof.Rows L2
def Ris(xs:Array Nat):Prop:=∀i j,i<j->j<xs.size->xs.getD i 0<xs.getD j 0
def L9{xs:Array Nat}{i a b}(h:i<xs.size):xs.getD i a=xs.getD i b:=by grind
def Zhu(R:Ris xs)(j:Nat):∀fuel lo hi,hi-lo<=fuel->lo<=hi->hi<=xs.size->(∀k,k<lo->xs.getD k 0<j)->(∀k,hi<=k->k<xs.size->j<=xs.getD k 0)->
  let r:=SetTable.below.go xs j fuel lo hi
  r<=xs.size/\(∀k,k<r->xs.getD k 0<j)/\∀k,r<=k->k<xs.size->j<=xs.getD k 0:=by
 intro fuel
 induction fuel with
 |zero=>
  intro lo hi h1 h2 h3 h4 h5;have e:lo=hi:=by omega
  subst e;exact⟨h3,h4,h5⟩
 |succ fuel ih=>
  intro lo hi h1 h2 h3 h4 h5;show(let r:=(if lo<hi then(if xs.getD ((lo+hi) / 2) j<j then SetTable.below.go xs j fuel ((lo+hi) / 2+1) hi else SetTable.below.go xs j fuel lo ((lo+hi) / 2))else lo);r<=xs.size/\(∀k,k<r->xs.getD k 0<j)/\∀k,r<=k->k<xs.size->j<=xs.getD k 0);by_cases hl:lo<hi
  ·rw[WO hl];have hm:(lo+hi) / 2<xs.size:=by omega
   by_cases hc:xs.getD ((lo+hi) / 2) j<j
   ·rw[WO hc];refine ih _ _ (by omega) (by omega) h3 (λk hk=>?_) h5;rw[L9 hm]at hc;by_cases e:k=(lo+hi) / 2
    ·rw[e];exact hc
    ·exact VL (R k _ (by omega) hm) hc
   ·rw[WN hc];refine ih _ _ (by omega) (by omega) (by omega) h4 (λk hk hk2=>?_);rw[L9 (b:=0) hm]at hc;by_cases e:k=(lo+hi) / 2
    ·rw[e];omega
    ·have:=R _ k (show(lo+hi) / 2<k by omega) hk2
     omega
  ·rw[WN hl];have e:lo=hi:=by omega
   subst e;exact⟨h3,h4,h5⟩
def Ll(R:Ris xs)(j:Nat):SetTable.below xs j<=xs.size/\(∀k,k<SetTable.below xs j->xs.getD k 0<j)/\∀k,SetTable.below xs j<=k->k<xs.size->j<=xs.getD k 0:=
 Zhu R j xs.size 0 xs.size (by simp) (by simp) (by simp) (λk hk=>by omega) (λk h1 h2=>by omega)
def Zmb(R:Ris xs){i}(hi:i<=xs.size){slot}(h1:∀k,k<i->xs.getD k 0<slot)(h2:∀k,i<=k->k<xs.size->slot<=xs.getD k 0):SetTable.below xs slot=i:=by
 obtain⟨a,b,c⟩:=Ll R slot;rcases Nat.lt_trichotomy (SetTable.below xs slot) i with h|h|h
 ·grind
 ·omega
 ·grind
def Rise(xs:Array Nat):Prop:=xs.toList.Pairwise (· < ·)
def Rise.ris (h:Rise xs):Ris xs:=by
 intro i j hij hj;have hi:i<xs.size:=by omega
 have:=(Qo.mp h) i j (by omega) (by omega) hij
 simp_all
def Zj5(h:Rise xs)(hn:xs[SetTable.below xs j]?≠some j):Rise (SetTable.insertAt xs (SetTable.below xs j) j):=by
 obtain⟨a,b,c⟩:=Ll h.ris j;generalize SetTable.below xs j=p at *;unfold Rise;rw[SetTable.toList_insertAt];refine V0.mpr ⟨h.sublist (Vx _ _),List.pairwise_cons.mpr ⟨λy hy=>?_,h.sublist (List.drop_sublist _ _)⟩,λx hx y hy=>?_⟩
 ·obtain⟨k,hk,e⟩:=List.mem_drop_iff_getElem.mp hy
  have hk':p+k<xs.size:=by
   simp only[QH]at hk;omega
  have h1:=c (p+k) (by omega) hk';have e':xs.getD (p+k) 0=y:=by simpa [Array.getD,hk']using e
  rcases Nat.lt_or_ge j y with h2|h2
  ·exact h2
  ·have ey:y=j:=by omega
   exfalso;rcases Nat.eq_zero_or_pos k with rfl|hk0
   ·apply hn;rw[QV (by omega)]
    have:xs[p]=y:=by simpa using e
    rw[this,ey]
   ·have h3:=h.ris p (p+k) (by omega) hk';have h4:=c p (WQ _) (by omega);omega
 ·have hx':x<j:=by
   obtain⟨k,hk,e⟩:=List.mem_take_iff_getElem.mp hx;have hk1:k<p:=by omega
   have hk2:k<xs.size:=by omega
   have:=b k hk1
   have e':xs.getD k 0=x:=by simpa [Array.getD,hk2]using e
   omega
  rcases Qa.mp hy with rfl|hy
  ·exact hx'
  ·obtain⟨k,hk,e⟩:=List.mem_drop_iff_getElem.mp hy
   have hk':p+k<xs.size:=by
    simp only[QH]at hk;omega
   have h1:=c (p+k) (by omega) hk';have e':xs.getD (p+k) 0=y:=by simpa [Array.getD,hk']using e
   omega
structure Tb (b:Bool) (t:SetTable):Prop where
 led:t.led=b
 dum:t.dummies=#[]
 ris:Rise t.place
def Ih(j:Nat):SetTable.has #[] j=false:=rfl
def Tb.fresh (b:Bool):Tb b (.fresh 0 0 b):=⟨rfl,rfl,List.Pairwise.nil⟩
def Zhc(n:Nat):Rise (Array.range n):=by
 unfold Rise;rw[Array.toList_range];exact List.pairwise_lt_range
def Tb.stand (h:Tb b t) (n:Nat):Tb b (t.standIn n):=⟨h.led,rfl,Zhc n⟩
def Tb.orStand (h:Tb b t) (n:Nat):Tb b (t.orStandIn n):=by
 unfold SetTable.orStandIn;split
 ·omega
 ·exact h.stand n
def Tb.plainOff (h:Tb b t):Tb b {t with plain:=false}:=⟨h.led,h.dum,h.ris⟩
def Tb.put (h:Tb b t) {j} (hn:t.place[SetTable.below t.place j]?≠some j):Tb b (t.put j).1:=by
 refine⟨h.led,?_,Zj5 h.ris hn⟩;show(if SetTable.has t.dummies j=true then _ else t.dummies)=#[];rw[h.dum,Ih];rfl
def Zdi(h:Tb b t)(f:Nat->Int)(z:Int):∀fuel p j d,p.dummy=none->SetTable.probe.go t f z fuel p=some (.empty j d)->d=none/\t.place[SetTable.below t.place j]?≠some j:=by
 intro fuel
 induction fuel with
 |zero=>intro p j d _ e;cases e
 |succ fuel ih=>
  intro p j d hp e;unfold SetTable.probe.go at e
  have hadv:∀q,q.dummy=none->(t.advance q).dummy=none:=λq hq=>by
   unfold SetTable.advance;split
   ·exact hq
   ·exact hq
  cases es:t.slot p.j with
  |empty=>
   rw[es]at e;unfold SetTable.slot at es
   grind
  |dummy=>
   unfold SetTable.slot at es
   dsimp only at es
   split at es
   ·cases es
   ·rw[h.dum,Ih]at es;simp at es
  |live i=>
   rw[es]at e
   dsimp only at e
   split at e
   ·cases e
   ·exact ih _ j d (hadv p hp) e
def Tb.layNew (h:Tb b t) (es:Yy) (z:Int) (x:Value):Tb b (PySem.layNew t es z x).2.1:=by
 unfold PySem.layNew;split
 ·rename_i slot wasDummy e
  have hn:t.place[SetTable.below t.place slot]?≠some slot:=by
   unfold SetTable.freeSlot SetTable.probe at e;split at e
   ·rename_i j dummy e';obtain⟨h1,h2⟩:=Zdi h _ _ _ _ _ _ rfl e'
    grind
   ·grind
  exact(h.put hn).orStand _
 ·exact h.stand _
def Zow(n:Nat)(f:Nat->Option Nat):((List.range n).filterMap λj=>(f j).map (j,·)).Pairwise (λa b=>a.1<b.1):=by
 refine List.Pairwise.filterMap _ ?_ List.pairwise_lt_range;intro a a' haa b hb b' hb';cases e:f a with
 |none=>grind
 |some v=>
  cases e':f a' with
  |_=>grind
def Tb.relayAll (h:Tb b t) (es:Yy) (n:Nat):Tb b (PySem.relayAll t es n).2.1:=by
 unfold PySem.relayAll;split
 ·rename_i t' order e
  dsimp only
  split
  ·unfold SetTable.relaid SetTable.laid at e;cases e2:SetTable.layClean (SetTable.sizeAbove n-1) (es.map (·.1))with
   |none=>grind
   |some owner=>
    rw[e2]at e;have e':=Q2 Prod.fst (WW e);subst e';refine⟨h.led,rfl,?_⟩;show(List.map (λx=>x.fst) ((List.range (SetTable.sizeAbove n-1+1)).filterMap λj=>(owner.getD j none).map (j,·))).toArray.toList.Pairwise (· < ·);rw[List.toList_toArray,JQ];exact Zow _ _
  ·exact h.stand _
 ·exact h.stand _
noncomputable def keyOf(e:Int×Value):Int:=match e.2 with
 | .int k _=>k
 |_=>0
def Ent(e:Int×Value):Prop:=∃(k:Int) (t:Tok),e=(hashInt k,.int k t)
section
variable (prog:Program) (w:World)
noncomputable def Pp(w:World):Bool:=w.params.followText "set-order"
structure Kv (h:Heap) (a:Addr) (js:Yl) (es:Yy) (ep:Nat) (t:SetTable):Prop where
 obj:∃o,h.get? a=some o/\o.ExactSet/\o.data=.set es ep t
 ent:∀e∈es.toList,Ent e
 per:(es.toList.map keyOf).Perm js
 nod:js.Nodup
 few:es.size<scanBound
 fit:t.fits es.size=true
 tab:Tb (!Pp w) t
def SetB(h:Heap)(a:Addr)(js:Yl):Prop:=∃es ep t,Kv w h a js es ep t
end
section
variable {prog:Program}{w:World}{A:Around}{E:Yo}{s:Shared}
def Ent.elems (h:∀e∈l,Ent e):ElemsOf (intKind prog w) l:=λe he=>by
 obtain⟨k,t,rfl⟩:=h e he;exact⟨⟨k,intKind_is _ _ _ _,rfl⟩,rfl⟩
def Ri(h:Ent e)(k:Int):(intKind prog w).is k e.2=decide (k=keyOf e):=by
 obtain⟨k',t,rfl⟩:=h;show Value.isInt k (.int k' t)=decide (k=k');by_cases e:k=k'
 ·subst e;simp[Value.isInt]
 ·rw[Qv e];simp[Value.isInt];omega
def SetB.len (S:Kv w h a js es ep t):es.size=js.length:=by
 have:=S.per.length_eq
 grind
def SetB.at {a js} (S:SetB w h a js) (k:∀o,h.get? a=some o->h'.get? a=some o):SetB w h' a js:=by
 obtain⟨es,ep,t,⟨o,ho,r⟩,b,c,d,e,f,g⟩:=S;exact⟨es,ep,t,⟨o,k o ho,r⟩,b,c,d,e,f,g⟩
def Kv.store {es es'}{ep t t'} (S:Kv w h a js es ep t) (h1:∀e∈es'.toList,Ent e) (h2:(es'.toList.map keyOf).Perm js') (h3:js'.Nodup) (h4:es'.size<scanBound)
  (h5:t'.fits es'.size=true) (h6:Tb (!Pp w) t'):Kv w (h.update a<|Obj.putSet es' t') a js' es' (ep+1) t':=by
 obtain⟨o,ho,hx,hd⟩:=S.obj;refine⟨⟨{o with data:=.set es' (ep+1) t'},?_,hx,rfl⟩,h1,h2,h3,h4,h5,h6⟩
 have q:=Q5 (Obj.putSet es' t') ho (by rw[putSet_of es' t' hd];rfl);rwa[putSet_of es' t' hd]at q
def GI{g:Bool->Sem Unit}(hg:∀b s' R',R' () s'->wpAny (model prog w) A (g b) R' E s'){a js js'}{es es'}{ep t t'}(S:Kv w s.heap a js es ep t)(h1:∀e∈es'.toList,Ent e)(h2:(es'.toList.map keyOf).Perm js')(h3:js'.Nodup)(h4:es'.size<scanBound)(h5:t'.fits es'.size=true)(h6:Tb (!Pp w) t'){d R}(fin:∀h',Heap.SameBut a s.heap h'->SetB w h' a js'->R (some true) {s with heap:=h'}) :
  wpAny (model prog w) A (do
    storeSet a es' t'
    if (!d&&t'.tooFull)=true then do
      g (relayAll t' es'<|SetTable.grown es'.size).2.2
      storeSet a (relayAll t' es'<|SetTable.grown es'.size).1 (relayAll t' es'<|SetTable.grown es'.size).2.1
      pure (some true)
     else pure (some true)) R E s:=by
 obtain⟨o,ho,hx,hd⟩:=S.obj;have S1:=S.store h1 h2 h3 h4 h5 h6;obtain⟨o1,ho1,hx1,hd1⟩:=S1.obj;have B1:=QM s.heap a (Obj.putSet es' t');refine WE (wpAny_storeSet_of ho hd ?_<|Jo h4);split
 ·have pp:=relayAll_perm t' es' (SetTable.grown es'.size);have ff:=relayAll_fits t' es' (SetTable.grown es'.size);have tt:=h6.relayAll es' (SetTable.grown es'.size);generalize relayAll t' es' (SetTable.grown es'.size)=y at pp ff tt ⊢;obtain⟨es2,t2,g2⟩:=y
  dsimp only at pp ff tt ⊢
  have z:es2.size=es'.size:=by rw[←QH,pp.length_eq,QH]
  refine WE (hg _ _ _<|WE<|wpAny_storeSet_of ho1 hd1 ?_<|Jo<|by omega);exact WL (fin _ (B1.trans<|QM _ a _) ⟨_,_,_,S1.store (λe he=>h1 e (pp.mem_iff.mp he)) ((pp.map keyOf).trans h2) h3 (by rw[z];exact h4) ff tt⟩)
 ·exact WL (fin _ B1 ⟨_,_,_,S1⟩)
noncomputable def Ku(js:Yl)(k:Int):Yl:=if k∈js then js else js++[k]
def Zi3{R}(S:SetB w s.heap a js)(room:js.length+1<scanBound)(fin:∀r h',Heap.SameBut a s.heap h'->SetB w h' a (Ku js k)->R r {s with heap:=h'}) :
  wpAny (model prog w) A (setAddHashed a (.int k tk)<|hashInt k) R E s:=by
 obtain⟨es,ep,t,S⟩:=S;obtain⟨o,ho,hx,hd⟩:=S.obj;have el:=Ent.elems (prog:=prog) (w:=w) S.ent;have hz:=SetB.len S;refine QR (WE<|Vy ho hd S.fit ?_)
 dsimp only
 rw[byScan_of rfl S.few el];simp only[↓reduceIte];unfold setAddByScan;refine WE (WE<|wpAny_rule<|WE<|wpAny_setScan_of (intKind_is _ _ _ _) ho hd S.fit el ?_);have mem:∀z,z∈js↔∃e∈es.toList,keyOf e=z:=λz=>by rw[←S.per.mem_iff,Qp]
 cases q:List.findIdx? (λe=>(intKind prog w).is k e.2) es.toList with
 |some j=>
  dsimp only
  obtain⟨hj,pj,_⟩:=List.findIdx?_eq_some_iff_getElem.mp q
  have hk:k∈js:=by
   rw[Ri (S.ent _<|Qf hj)]at pj;exact(mem k).mpr ⟨_,Qf hj,(WK pj).symm⟩
  refine WL (WL ?_);have f:=fin false s.heap (Heap.SameBut.refl a s.heap);unfold Ku at f;rw[WO hk]at f;exact f ⟨_,_,_,S⟩
 |none=>
  dsimp only
  have hk:¬k∈js:=λhz=>by
   obtain⟨e,he,hke⟩:=(mem k).mp hz
   have:=List.findIdx?_eq_none_iff.mp q e he
   rw[Ri (S.ent e he),WI hke.symm]at this;cases this
  have P:=layNew_perm t es (hashInt k) (.int k tk);have F:=layNew_fits t es (hashInt k) (.int k tk);have T:=S.tab.layNew es (hashInt k) (.int k tk);change wpAny (model prog w) A (match layNew t es (hashInt k) (.int k tk)with|(es,t,wasDummy,gave)=>_) _ _ _
  generalize layNew t es (hashInt k) (.int k tk)=y at P F T ⊢;obtain⟨es1,t1,d1,g1⟩:=y
  dsimp only at P F T ⊢
  rw[Array.toList_push]at P
  have e1:∀e∈es1.toList,Ent e:=λe he=>by
   rcases WV.mp (P.mem_iff.mp he)with he|he
   ·exact S.ent e he
   ·rw[WJ.mp he];exact⟨k,tk,rfl⟩
  have e2:(es1.toList.map keyOf).Perm (js++[k]):=by
   refine(P.map keyOf).trans ?_;rw[Qc];exact S.per.append_right _
  have e3:(js++[k]).Nodup:=Q7.mpr ⟨S.nod,by simp,λx hx y hy=>by rw[WJ.mp hy];rintro rfl;exact hk hx⟩
  have e4:es1.size<scanBound:=by
   rwa[←QH,P.length_eq,WR,QH,hz]
  have fin':=λh' sb q'=>by
   have f:=fin true h' sb;unfold Ku at f;rw[WN hk]at f;exact f q'
  have gw:∀b {s':Shared} {R':Unit->Shared->Prop},R' () s'->wpAny (model prog w) A (match b with|true=>rule "set.scan.the-table-gave-way" |false=>pure ()) R' E s':=λb s' R' r'=>by cases b<;>first|exact WL r'|exact wpAny_rule r'
  refine WE (gw _ ?_);split
  ·refine WE ?_;rw[hashByValue_scannable 8 rfl];refine WL (GI (λb s' R' r'=>gw b r') S e1 e2 e3 e4 ?_ ?_ λh' sb q'=>WL (fin' h' sb q'))
   ·split
    ·exact F
    ·exact SetTable.fits_plain_off F
   ·split
    ·exact T
    ·exact T.plainOff
  ·refine WE (WL ?_);simp only[↓reduceIte];exact GI (λb s' R' r'=>gw b r') S e1 e2 e3 e4 F T λh' sb q'=>WL (fin' h' sb q')
def Zh3{I fp wr P St}{ns:Yl}(W:Walks prog w A.in1 I fp wr ns.length P St)(S:Addr)(hS:S∉fp)(hv:∀i v,P i v->∃t,v=.int (ns.getD i 0) t)(room:ns.length+1<scanBound):∀k i s js,ns.length-i=k->i<=ns.length->St i s.heap->SetB w s.heap S js->js.length<=i->
   (∀h' tk,(∀b o,b∉S::wr->s.heap.get? b=some o->h'.get? b=some o)->SetB w h' S ((ns.drop i).foldl Ku js)->R (.ok<|.ret .none) {s with heap:=h',toks:=tk})->
   codeAny (model prog w) A (.builtin "set.update.loop" ⟨[.ref S,.ref I],[]⟩) R s:=by
 have hSw:=λz=>hS (W.sub _ z);intro k
 induction k with
 |zero=>
  intro i s js hk hi st B hj fin;have ei:i=ns.length:=by omega
  refine Vr Jd ?_;show wpAny _ A.in1 (pyNext (.ref I) >>= _) _ _ s;refine WE (W.done s _ _ (ei▸st) λh' tk keep=>?_);show wpAny _ A.in1 (ret Value.none) _ _ _;refine WL (fin h' tk (λb o hb e=>keep b o (λz=>hb (Qe _ z)) e) ?_);rw[ei,List.drop_length];exact B.at λo e=>keep S o hSw e
 |succ k ih=>
  intro i s js hk hi st B hj fin;have hlt:i<ns.length:=by omega
  refine Vr Jd ?_;rw[VR Je _];show wpAny _ A.in1 (pyNext (.ref I) >>= _) _ _ s;refine WE (W.item i s _ _ hlt st λv h1 tk1 pv st1 keep1=>?_);obtain⟨t,rfl⟩:=hv i v pv;have B1:=B.at λo e=>keep1 S o hSw e;unfold setAdd;refine WE (QR<|QR<|WE ((intKind prog w).pyHash (intKind_is _ _ _ _) ?_));refine Zi3 B1 (by omega) λr h2 sb B2=>?_
  have el:(Ku js<|ns.getD i 0).length<=i+1:=by
   unfold Ku;split
   ·omega
   ·simp;omega
  refine WL ⟨plainId_quiet Je _,ih (i+1) _ _ (by omega) hlt (W.frame _ h1 _ st1 λb hb o e=>?_) B2 el λh' tk keep B'=>?_⟩
  ·rw[sb.2 b (λz=>hS (by rw[←z];exact hb))];exact e
  ·refine fin h' tk (λb o hb e=>keep b o hb ?_) ?_
   ·rw[sb.2 b (λz=>hb (by rw[z];exact Qu))];exact keep1 b o (λz=>hb (Qe _ z)) e
   ·have e1:ns.drop i=ns.getD i 0::ns.drop (i+1):=by
     rw[VX hlt,Qb,WH hlt];rfl
    rwa[e1]
def Rw(a:Value){Q}(fin:Q (.ref s.heap.objs.size) {s with heap:=s.heap.push {cls:=.type "set",dict:=none,data:=.set #[] 0 (.fresh 0 0 (!Pp w))}}) :
  codeAny (model prog w) A (.call (.builtin "set.__new__") ⟨[.type "set",a],[]⟩) (wants Q E) s:=by
 refine codeAny_of_tree (?_);refine WE (wpAny_of_eq (F.newCall_set_1 a)<|WL ⟨plainId_quiet F.plain_set_new _,Vr F.entry_set_new ?_⟩);rw[(VR (A:=A) F.plain_set_new ⟨[.type "set",a],[]⟩)];unfold Builtin.«set.__new__» Builtin.Frozenset.newClass;have q1:=sub_set_self
 dsimp only
 wp_walk
 refine wpAny_askSetting (WL<|?_)
 dsimp only
 simp only[newObj];exact WE (wpAny_alloc<|WL<|WL fin)
set_option maxHeartbeats 4000000 in
def Zmw{l:Addr}{its:Array Value}{ns:Yl}{Q:Yo}(hh:A.handled=none)(hl:s.heap.IsList l its)(hi:IntsAre its.toList ns)(room:ns.length+1<scanBound)(fin:∀(h':Heap) (tk:Nat),SetB w h' s.heap.objs.size (ns.foldl Ku [])->(∀b o,b<s.heap.objs.size->s.heap.get? b=some o->h'.get? b=some o)->Q (.ref s.heap.objs.size) {s with heap:=h',toks:=tk}) :
  wpAny (model prog w) A (call (.type "set") [.ref l]) Q E s:=by
 have hn:its.size=ns.length:=by have:=IntsAre.length hi;simpa using this
 obtain⟨mroC,mroT,mro⟩:=F.called_set.mro;have made:=F.called_set.made;have subs:=F.called_set.sub;refine J4 (codeAny_of_tree<|show wpAny _ _ (callAny (.type "set") _) _ _ _ from ?_)
 refine WL ⟨Jf _ (by decide +kernel),Vr F.entry_type_call ?_⟩;have wt:=Around.under_plain (A:=A) (weight_type_call_type "set" [.ref l] []) rfl;rw[wt];have nt:=F.called_set.notType;have cc:=F.called_set.canCreate;have tc:=F.typeCall_set_1 (.ref l)
 repeat (any_goals (first|assumption|wp_step))
 refine Vp (Rw (.ref l) (E:=E) (Q:=λobj s1=>obj=.ref s.heap.objs.size/\s1={s with heap:=s.heap.push {cls:=.type "set",dict:=none,data:=.set #[] 0 (.fresh 0 0 (!Pp w))}}) ⟨rfl,rfl⟩) λr s1 hr=>?_
 cases r with
 |error e=>exact hr
 |ok fl=>
  cases fl with
  |next=>exact hr.elim
  |brk=>exact hr.elim
  |cont=>exact hr.elim
  |ret obj=>
   obtain⟨rfl,rfl⟩:=hr;generalize eH:s.heap.push {cls:=.type "set",dict:=none,data:=.set #[] 0 (.fresh 0 0 (!Pp w))}=H1;have g1:H1.get? s.heap.objs.size=some {cls:=.type "set",dict:=none,data:=.set #[] 0 (.fresh 0 0 (!Pp w))}:=by rw[←eH];exact WX _ rfl
   have hT:Shared.TypeIs {s with heap:=H1} (.ref s.heap.objs.size) "set":=⟨_,g1,rfl⟩
   have ini:=F.called_set.init.lookup;have inb:=F.called_set.init.bind (.ref s.heap.objs.size)
   repeat (any_goals (first|assumption|wp_step))
   refine Vp (V1 (R:=wants (λr s2=>r=.none/\∃h' tk,s2={s with heap:=h',toks:=tk}/\SetB w h' s.heap.objs.size (ns.foldl Ku [])/\(∀b o,b<s.heap.objs.size->s.heap.get? b=some o->h'.get? b=some o)) E)
    F.called_set.init.plain F.entry_set_init (check_set_init_1 hT ?_)) λr2 s2 hr2=>?_
   ·obtain⟨ob,hob,hcl,nl,hdl⟩:=hl;obtain⟨c1,d1,dt1,sl1⟩:=ob;simp only at hcl hdl;subst hcl;subst hdl;have hob1:H1.get? l=some {cls:=.type "list",dict:=d1,data:=.seq its nl,slots:=sl1}:=by rw[←eH];exact WM _ hob
    have sz1:H1.objs.size=s.heap.objs.size+1:=by rw[←eH,Vm]
    have no1:=F.sub_list_set;have no2:=F.sub_list_frozenset;have no3:(Value.type "list" == Value.type "dict")=false:=by decide
    have L1:H1.IsList l its:=⟨_,hob1,rfl,nl,rfl⟩;unfold Builtin.«set.__init__» noKeywords Builtin.Frozenset.updateFrom;generalize eP:pyIter=PI
    wp_walk
    subst eP;refine wpAny_pyIter_list L1 (WE<|wpAny_runValue ?_);have lt1:l<s.heap.objs.size:=WT hob;have hd3:A.in1.in1.in1.handled=none:=by simp[hh]
    have ne1:l≠H1.objs.size:=by rw[sz1];exact Qk (Jp lt1)
    have no4:s.heap.objs.size∉[H1.objs.size,l]:=by
     rw[sz1];simp only[Qa,Jw,or_false,not_or];exact⟨Qk (V4 _),JS lt1⟩
    have W0:=Walks.list (prog:=prog) (w:=w) hd3 H1.objs.size l ne1 its;rw[hn]at W0;refine Zh3 (ns:=ns) W0 s.heap.objs.size no4 (λi v hv=>IntsAre.int_at hi i v (by rw[QW];exact hv)) room (ns.length-0) 0 _ [] rfl (QY _) ⟨⟨_,WX _ rfl,rfl,rfl⟩,L1.push _⟩ ?_ (QY _) λh' tk keep B=>?_
    ·exact⟨#[],0,_,⟨_,WM _ g1,⟨rfl,rfl,rfl⟩,rfl⟩,λe he=>by simp at he,by simp,V3,by show(0:Nat)<4096;decide,rfl,Tb.fresh _⟩
    ·show wpAny _ _ _ _ _ _;refine WL (show wpAny _ _ (ret Value.none) _ _ _ from WL ⟨rfl,h',tk,rfl,B,λb o hb e=>?_⟩)
     refine keep b o ?_ (WM _<|by rw[←eH];exact WM _ e);rw[sz1];simp only[Qa,Jw,or_false,not_or];exact⟨Qk hb,Qk (Jp hb)⟩
   ·cases r2 with
    |error e=>exact hr2
    |ok f2=>
     cases f2 with
     |next=>exact hr2.elim
     |brk=>exact hr2.elim
     |cont=>exact hr2.elim
     |ret r=>
      obtain⟨rfl,h',tk,rfl,B,keep⟩:=hr2
      repeat (any_goals (first|assumption|wp_step))
      exact fin _ _ B keep
end
def si_slot:Slot "set_iterator" "__next__" "set_iterator.__next__":=
 Slot.of (owner:="set_iterator") (n:="__next__") (by rw[typeLookup_type,builtinLookup_eq_fast];kernel_rfl) (by decide +kernel) (by decide +kernel) (by decide +kernel)
  (by first|exact Or.inl (by decide +kernel)|exact Or.inr (by decide +kernel)) (by rw[isSubtype_type];kernel_rfl)
def Zo1:entryFor table "set_iterator.__next__"=some Builtin.«set_iterator.__next__»:=entryFor_of_tree rfl
def Zh2(a:Value):argsOk "set_iterator.__next__" ⟨[a],[]⟩:=by trivial
def Znk:entryFor table "set.__iter__"=some Builtin.«frozenset.__iter__»:=entryFor_alias (id':="frozenset.__iter__") (by kernel_rfl) rfl (by decide +kernel) (by kernel_rfl)
def OI:Slot "set_iterator" "__iter__" "set_iterator.__iter__":=
 Slot.of (owner:="set_iterator") (n:="__iter__") (by rw[typeLookup_type,builtinLookup_eq_fast];kernel_rfl) (by decide +kernel) (by decide +kernel) (by decide +kernel)
  (by first|exact Or.inl (by decide +kernel)|exact Or.inr (by decide +kernel)) (by rw[isSubtype_type];kernel_rfl)
def Zl5:entryFor table "set_iterator.__iter__"=some Builtin.«dict_keyiterator.__iter__»:=entryFor_alias (id':="dict_keyiterator.__iter__") (by kernel_rfl) rfl (by decide +kernel) (by kernel_rfl)
def Zc6(a:Value):argsOk "set_iterator.__iter__" ⟨[a],[]⟩:=by unfold argsOk;kernel_rfl
def SI(h:Heap)(I a:Addr)(first:Value)(i n ep:Nat):Prop:=∃o,h.get? I=some o/\o.cls=.type "set_iterator"/\o.data=.fields #[first,.int i 0,.ref a,.int n 0,.int ep 0]
section
variable {prog:Program}{w:World}{A:Around}{E:Yo}{s:Shared}{I a:Addr}{first:Value}{i n ep:Nat}{js:Yl}{es:Yy}{t:SetTable}
def SI.typ (h:SI s.heap I a first i n ep):s.TypeIs (.ref I) "set_iterator":=let ⟨o,ho,hc,_⟩:=h;⟨o,ho,hc⟩
def SI.at (x:SI h I a first i n ep) (k:∀o,h.get? I=some o->h'.get? I=some o):SI h' I a first i n ep:=let ⟨o,ho,r⟩:=x;⟨o,k o ho,r⟩
noncomputable def Bj(first:Value)(a I:Addr)(i ep:Int):Sem PySem.Fin:=
 match first with
 |Value.int slot _=>do
  match ←setNext a slot.toNat i.toNat ep.toNat with
  |some (x,next)=>
   setField (.ref I) 0 (rawInt next)
   setField (.ref I) 1 (rawInt (i+1))
   ret x
  |none=>
   setField (.ref I) 2 .none
   raiseNew (←newExc (.type "StopIteration") [])
 |_=>do
  let some places ←seqItems? first|unsupported "internal:set_iterator"
  match places[i.toNat]? with
  |some (.int place _)=>
   let x ←setNextDrawn a place.toNat ep.toNat
   setField (.ref I) 1 (rawInt (i+1))
   ret x
  |some _=>unsupported "internal:set_iterator"
  |none=>
   setField (.ref I) 0 (rawInt 0)
   setField (.ref I) 2 .none
   raiseNew (←newExc (.type "StopIteration") [])
def Fx(hit:SI s.heap I a first i es.size ep)(S:Kv w s.heap a js es ep t)
  (body:wpAny (model prog w) A.in1 (Bj first a I i ep) (λfin s'=>∃v,fin=.done (.ret v)/\Q (some v) s')
   (λe s'=>wpAny (model prog w) A (isInstance e<|.type "StopIteration") (λb s''=>b=true/\Q none s'') E s') s) :
  wpAny (model prog w) A (pyNext<|.ref I) Q E s:=by
 obtain⟨o,ho,hc,hd⟩:=id hit;obtain⟨ob,hob,hx,hdd⟩:=S.obj;refine WE (wpAny_attempt<|Jl hit.typ si_slot<|Vo si_slot hit.typ Zo1 ?_<|Zh2 _);refine WE (WL<|WE<|wpAny_fieldsOf ho hd ?_);refine WE (wpAny_setEntries_of hob hdd S.fit ?_);rw[WN (by simp)];refine Qz body (λfin s' h=>?_) λe s' h=>?_
 ·obtain⟨v,e,q⟩:=h;exact⟨v,e,WL q⟩
 ·refine WE (Qz h (λb s'' h2=>?_) λ_ _ z=>z);obtain⟨rfl,q⟩:=h2;exact WL q
def MV{Q:Yv->Shared->Prop}{o}{vs}(hh:A.handled=none)(ho:s.heap.get? I=some o)(hd:o.data=.fields vs)(h2:2<vs.size)(fin:∀h',Heap.ExtBut I s.heap h'->Q none {s with heap:=h'}){R:PySem.Fin->Shared->Prop} :
  wpAny (model prog w) A.in1 (do setField (.ref I) 2 .none;raiseNew (←newExc (.type "StopIteration") [])) R (λe s'=>wpAny (model prog w) A (isInstance e<|.type "StopIteration") (λb s''=>b=true/\Q none s'') E s') s:=by
 refine WE (Vc ho hd h2<|WE ?_);refine WE (QC ?_<|by size_fits);refine WE (wpAny_of_eq (by first|rfl|(simp only[firstArgMember];rfl))<|QC ?_<|by size_fits)
 simp only[raiseNew];refine WE (wpAny_handled ?_);rw[hh];refine WE (WL<|wpAny_throw ?_);refine wpAny_isInstance ⟨_,WX _ rfl,rfl⟩ isSubtype_stop ?_;exact⟨rfl,fin _ (((QM ..).extBut.push _).push _)⟩
def SI.step1 {x:Value} (ho:s.heap.get? I=some o) (hc:o.cls=.type "set_iterator") (hd:o.data=.fields #[first,.int i 0,.ref a,.int n 0,.int ep 0]) :
  SI (s.heap.update I<|Obj.mapFields (·.setIfInBounds 1 (rawInt ((i:Int)+1)))) I a first (i+1) n ep:=
 ⟨_,Q5 _ ho (Vd<|QL hd _),(Jq ..).trans hc,by rw[QL hd];simp[rawInt]⟩
def Fb(h:Q (Pp w) s):wpAny (model prog w) A setsByText Q E s:=WE (wpAny_askSetting<|WL h)
def Zn4(S:Kv w s.heap a js es ep t)(hb:Pp w=true)(h:Q (((pickOrder (w.params.setOrder a ep) es)[i]?).map λe=>(e.2,slot)) s) :
  wpAny (model prog w) A (setNext a slot i ep) Q E s:=by
 obtain⟨ob,hob,hx,hdd⟩:=S.obj;refine WE (Vy hob hdd S.fit<|WE<|Fb ?_);rw[hb,WO rfl,WN (by simp)];refine WE ?_;refine WE (Vy hob hdd S.fit<|WE<|Fb ?_);rw[hb,WO rfl];exact WE (wpAny_askSetting<|WL<|WL h)
def Zcb(S:Kv w s.heap a js es ep t)(hb:Pp w=false)(hp:(!t.plain&&decide (es.size>1))=false)(h:Q (match es[SetTable.below t.place slot]?,t.place[SetTable.below t.place slot]? with|some (_,x),some j=>some (x,j+1)|_,_=>none) s):wpAny (model prog w) A (setNext a slot i ep) Q E s:=by
 obtain⟨ob,hob,hx,hdd⟩:=S.obj;refine WE (Vy hob hdd S.fit<|WE<|Fb ?_);rw[hb,WN (by decide)];show wpAny _ _ (if (!t.plain&&decide (es.size>1))=true then _ else _) _ _ _;rw[hp,WN (by decide)];refine WE (?_:wpAny _ _ (if (!t.led && !es.isEmpty)=true then unsupported "set:maker-not-led" else pure ()) _ _ _);have hl:t.led=true:=by rw[S.tab.led,hb];rfl
 rw[hl,WN (by simp)];exact WL (WL h)
def Zbm{p e}(S:Kv w s.heap a js es ep t)(he:es[p]?=some e)(h:Q e.2 s):wpAny (model prog w) A (setNextDrawn a p ep) Q E s:=by
 obtain⟨ob,hob,hx,hdd⟩:=S.obj;refine WE (Vy hob hdd S.fit ?_)
 dsimp only
 rw[WN (by simp),he];exact WL h
def Zgb{m}(hm:m≠0)(h:∀k d,k<m->Q k {s with drawn:=d}):wpAny (model prog w) A (choose src m) Q E s:=by
 intro Γ p hΓ;exact⟨hm,h _ _ (Nat.mod_lt _<|Nat.pos_of_ne_zero hm)⟩
theorem Cw{α:Type}:∀(xs:List α) k h,(xs[k]::xs.eraseIdx k).Perm xs
 |x::r,0,_=>List.Perm.refl _
 |x::r,k+1,h=>by
  have hk:k<r.length:=by grind
  exact(List.Perm.swap _ _ _).trans (List.Perm.cons _<|Cw r k hk)
def Zf1:∀m xs s {Q:List α->Shared->Prop},xs.length=m->(∀ys d,ys.Perm xs->Q ys {s with drawn:=d})->wpAny (model prog w) A (drawOrder m xs) Q E s:=by
 intro m
 induction m with
 |zero=>
  intro xs s Q hl h;have e:=QN.mp hl;subst e;exact WL (h [] s.drawn<|List.Perm.refl _)
 |succ m ih=>
  intro xs s Q hl h;cases xs with
  |nil=>grind
  |cons x r=>
   unfold drawOrder;refine WE (Zgb (by simp) λk d hk=>?_);rw[WH hk];refine WE (ih _ _ (by grind) λys d2 hp=>WL ?_);exact h _ d2 ((List.Perm.cons _ hp).trans (Cw _ _ hk))
def Kv.keep (S:Kv w h a js es ep t) (k:∀o,h.get? a=some o->h'.get? a=some o):Kv w h' a js es ep t:=by
 obtain⟨⟨o,ho,r⟩,b,c,d,e,f,g⟩:=S;exact⟨⟨o,k o ho,r⟩,b,c,d,e,f,g⟩
def Gp(hit:SI s.heap I a first i n ep)(h:Q (.ref I) s):wpAny (model prog w) A (pyIter<|.ref I) Q E s:=by
 refine wpAny_pyIter_slot hit.typ OI (Vo OI hit.typ Zl5 ?_<|Zc6 _);exact WL ⟨_,rfl, "set_iterator",_,hit.typ,si_slot.lookup,h⟩
def O5(hh:A.handled=none)(I a:Addr)(hne:a≠I)(vs:Yr)(hl:vs.length=es.size)(sl:Nat->Nat)(nx:∀A E s i Q,i<=es.size->Kv w s.heap a js es ep t->Q ((vs[i]?).map λv=>(v,sl (i+1))) s->wpAny (model prog w) A (setNext a (sl i) i ep) Q E s) :
  Walks prog w A I [I,a] [I] es.size (λi v=>vs[i]?=some v) (λi h=>SI h I a (.int (sl i) 0) i es.size ep/\Kv w h a js es ep t) where
 sub:=λb hb=>by simp at hb;simp[hb]
 frame:=λ_ _ _ st k=>⟨st.1.at λo e=>k I (by simp) o e,st.2.keep λo e=>k a (by simp) o e⟩
 item:=λi s Q E hi st fin=>by
  obtain⟨o,ho,hc,hd⟩:=id st.1;refine Fx st.1 st.2 ?_;unfold Bj
  dsimp only
  rw[QD,QD,QD];refine WE (nx _ _ s i _ (VZ hi) st.2 ?_);have hi2:i<vs.length:=by omega
  rw[WH hi2];refine WE (Vc ho hd (by simp) ?_);have g1:=Q5 (Obj.mapFields (·.setIfInBounds 0 (rawInt (sl (i+1):Int)))) ho (Vd<|QL hd _);have d1:(Obj.mapFields (·.setIfInBounds 0 (rawInt (sl (i+1):Int))) o).data=.fields #[.int (sl (i+1)) 0,.int i 0,.ref a,.int es.size 0,.int ep 0]:=by rw[QL hd];simp[rawInt]
  refine WE (Vc g1 d1 (by simp) ?_);have sb:=(QM s.heap I<|Obj.mapFields (·.setIfInBounds 0 (rawInt (sl (i+1):Int)))).trans (QM _ I<|Obj.mapFields (·.setIfInBounds 1 (rawInt ((i:Int)+1))));refine WL ⟨_,rfl,fin vs[i] _ s.toks (WH hi2) ⟨?_,st.2.keep λo e=>sb.extBut a o hne e⟩ λb o hb e=>sb.extBut b o (λz=>hb (by simp[z])) e⟩;exact SI.step1 (x:=.none) g1 ((Jq ..).trans hc) d1
 done:=λs Q E st fin=>by
  obtain⟨o,ho,hc,hd⟩:=id st.1;refine Fx st.1 st.2 ?_;unfold Bj
  dsimp only
  rw[QD,QD,QD];refine WE (nx _ _ s es.size _ (WQ _) st.2 ?_);rw[Vs (by omega)];exact MV hh ho hd (by simp) λh' eb=>fin h' s.toks λb o hb e=>eb b o (λz=>hb (by simp[z])) e
 self:=λ_ _ _ _ st fin=>Gp st.1 fin
def Zbh(hh:A.handled=none)(I a T:Addr)(hne:a≠I)(hT:T≠I)(ps:Yq)(hl:ps.length=es.size)(hps:∀p∈ps,p<es.size)(vs:Yr)(hvs:vs=ps.map λp=>((es[p]?).map (·.2)).getD .none) :
  Walks prog w A I [I,a,T] [I] es.size (λi v=>vs[i]?=some v) (λi h=>SI h I a (.ref T) i es.size ep/\Kv w h a js es ep t/\∃o,h.get? T=some o/\∃c,o.data=.seq (ps.map λ(p:Nat)=>rawInt p).toArray c) where
 sub:=λb hb=>by simp at hb;simp[hb]
 frame:=λ_ _ _ st k=>⟨st.1.at λo e=>k I (by simp) o e,st.2.1.keep λo e=>k a (by simp) o e,let ⟨o,ho,c⟩:=st.2.2;⟨o,k T (by simp) o ho,c⟩⟩
 item:=λi s Q E hi st fin=>by
  obtain⟨o,ho,hc,hd⟩:=id st.1;obtain⟨oT,hoT,c,hdT⟩:=st.2.2;refine Fx st.1 st.2.1 ?_;unfold Bj
  dsimp only
  refine WE (wpAny_seqItems hoT hdT ?_);have hi2:i<ps.length:=by omega
  have e1:(ps.map λ(p:Nat)=>rawInt p).toArray[(i:Int).toNat]?=some (.int ps[i] 0):=by
   rw[QD,List.getElem?_toArray,WS,WH hi2];rfl
  have hp:=hps _ (Qf hi2)
  dsimp only
  rw[e1]
  dsimp only
  have e3:vs[i]?=some (es[ps[i]]).2:=by rw[hvs,WS,WH hi2];simp[hp]
  refine WE (Zbm st.2.1 (QV hp)<|WE<|Vc ho hd (by simp) ?_);have sb:=QM s.heap I (Obj.mapFields (·.setIfInBounds 1 (rawInt ((i:Int)+1))));exact WL ⟨_,rfl,fin _ _ s.toks e3 ⟨SI.step1 (x:=.none) ho hc hd,st.2.1.keep λo e=>sb.extBut a o hne e,oT,sb.extBut T oT hT hoT,c,hdT⟩ λb o hb e=>sb.extBut b o (λz=>hb (by simp[z])) e⟩
 done:=λs Q E st fin=>by
  obtain⟨o,ho,hc,hd⟩:=id st.1;obtain⟨oT,hoT,c,hdT⟩:=st.2.2;refine Fx st.1 st.2.1 ?_;unfold Bj
  dsimp only
  refine WE (wpAny_seqItems hoT hdT ?_)
  have e1:(ps.map λ(p:Nat)=>rawInt p).toArray[(es.size:Int).toNat]?=none:=by
   rw[QD,List.getElem?_toArray,WS,Vs (by omega)];rfl
  dsimp only
  rw[e1]
  dsimp only
  refine WE (Vc ho hd (by simp) ?_);refine MV (s:={s with heap:=_}) hh (Q5 (Obj.mapFields (·.setIfInBounds 0 (rawInt 0))) ho<|Vd<|QL hd _) (QL hd _) (by simp) λh' eb=>fin h' s.toks λb o hb e=>eb b o (λz=>hb (by simp[z])) ((QM s.heap I<|Obj.mapFields (·.setIfInBounds 0 (rawInt 0))).extBut b o (λz=>hb (by simp[z])) e)
 self:=λ_ _ _ _ st fin=>Gp st.1 fin
def Zdj(nx:Nat->Nat):∀m k left (out:Array α),left.length=m->(pickOrder.go nx m k left out).toList.Perm (out.toList++left):=by
 intro m
 induction m with
 |zero=>
  intro k left out hl;have e:=QN.mp hl;subst e;show out.toList.Perm (out.toList++[]);simp
 |succ m ih=>
  intro k left out hl;have hlt:nx k % left.length<left.length:=Nat.mod_lt _ (by omega);unfold pickOrder.go;rw[WH hlt];refine(ih _ _ _<|by grind).trans ?_;rw[Array.toList_push,List.append_assoc];exact(Cw left _ hlt).append_left _
def O1(nx:Nat->Nat)(xs:Array α):(pickOrder nx xs).toList.Perm xs.toList:=by
 have:=Zdj nx xs.size 0 xs.toList #[] rfl
 simpa [pickOrder]using this
noncomputable def slotAt(t:SetTable)(i:Nat):Nat:=if i=0 then 0 else t.place.getD (i-1) 0+1
def Ow(h:t.fits m=true):t.place.size=m:=by
 simp only[SetTable.fits,Q4,beq_iff_eq]at h
 grind
def Za0(S:Kv w s.heap a js es ep t){i}(hi:i<=es.size):SetTable.below t.place (slotAt t i)=i:=by
 have hz:=Ow S.fit;have R:=S.tab.ris.ris;refine Zmb R (by omega) (λk hk=>?_) λk h1 h2=>?_
 ·unfold slotAt;rw[WN (by omega)];by_cases e:k=i-1
  ·rw[e];omega
  ·have:=R k (i-1) (by omega) (by omega)
   omega
 ·unfold slotAt;by_cases h0:i=0
  ·grind
  ·rw[WN h0]
   have:=R (i-1) k (by omega) h2
   omega
def Zhp{A'}(hh:A'.handled=none)(S:Kv w s.heap a js es ep t)
  (fin:∀I fp (vs:Yr) St h1 d1,Walks prog w A' I fp [I] es.size (λi v=>vs[i]?=some v) St->St 0 h1->(∀b∈fp,b=a\/s.heap.get? b=none)->vs.length=es.size->vs.Perm (es.toList.map (·.2))->
   s.heap.get? I=none->(∀b o,s.heap.get? b=some o->h1.get? b=some o)->Q (.ref I) {s with heap:=h1,drawn:=d1}) :
  wpAny (model prog w) A (pyIter<|.ref a) Q E s:=by
 obtain⟨ob,hob,hx,hdd⟩:=S.obj;have hT:s.TypeIs (.ref a) "set":=⟨ob,hob,hx.1⟩;have ha:=WT hob
 have new:∀b,s.heap.objs.size<=b->s.heap.get? b=none:=λb hb=>by
  cases e:s.heap.get? b with
  |none=>rfl
  |some o=>exact absurd (WT e) (J8.mpr hb)
 refine wpAny_pyIter_slot hT F.slot_set_iter (Vo F.slot_set_iter hT Znk ?_<|F.args_set_iter_1 _);unfold Builtin.«frozenset.__iter__»;show wpAny _ _ (Builtin.Frozenset.sizeOf a >>= _) _ _ s;unfold Builtin.Frozenset.sizeOf;refine WE (WE<|wpAny_setEntries_of hob hdd S.fit<|WL ?_);refine WE ?_;unfold setDrawn;refine WE (Vy hob hdd S.fit<|WE<|Fb<|WL ?_)
 dsimp only
 change wpAny _ _ (if (!Pp w&&(!t.plain&&decide (es.size>1)))=true then _ else _) _ _ _;cases hd:(!Pp w&&(!t.plain&&decide (es.size>1)))with
 |false=>
  rw[WN (by decide)];refine WE (WL<|WE<|wpAny_setEpoch_of hob hdd S.fit<|WE<|QC<|WL ⟨_,rfl, "set_iterator",_,⟨_,WX _ rfl,rfl⟩,si_slot.lookup,?_⟩);have hne:=Qk ha;have S1:Kv w (s.heap.push {cls:=.type "set_iterator",data:=.fields [rawInt 0,rawInt 0,.ref a,rawInt es.size,rawInt ep].toArray}) a js es ep t:=S.keep λo e=>WM _ e
  have lt:∀b∈[s.heap.objs.size,a],b=a\/s.heap.get? b=none:=λb hb=>by
   rcases Qa.mp hb with rfl|hb
   ·exact .inr (new _<|WQ _)
   ·exact .inl (WJ.mp hb)
  cases hb:Pp w with
  |true=>
   have hl:((pickOrder (w.params.setOrder a ep) es).toList.map (·.2)).length=es.size:=by
    rw[WG,(O1 _ _).length_eq];simp
   refine fin _ _ _ _ _ s.drawn (O5 hh s.heap.objs.size a hne ((pickOrder (w.params.setOrder a ep) es).toList.map (·.2)) hl (λ_=>0) λA E s i Q hi S' q=>Zn4 S' hb ?_) ⟨⟨_,WX _ rfl,rfl,rfl⟩,S1⟩ lt hl ((O1 _ _).map _) (new _<|WQ _) λb o e=>WM _ e;rw[WS]at q;rw[←QW];cases e:(pickOrder (w.params.setOrder a ep) es).toList[i]? with
   |none=>rw[e]at q;exact q
   |some x=>rw[e]at q;exact q
  |false=>
   have hp:(!t.plain&&decide (es.size>1))=false:=by rw[hb]at hd;simpa using hd
   refine fin _ _ _ _ _ s.drawn (O5 hh s.heap.objs.size a hne (es.toList.map (·.2)) (by simp) (slotAt t) λA E s i Q hi S' q=>Zcb S' hb hp ?_) ⟨⟨_,WX _ rfl,rfl,rfl⟩,S1⟩ lt (by simp) (List.Perm.refl _) (new _<|WQ _) λb o e=>WM _ e;rw[Za0 S' hi];have hz:=Ow S'.fit;rw[WS]at q;by_cases hlt:i<es.size
   ·have e1:=QV hlt;have e2:t.place[i]?=some t.place[i]:=QV (by omega);have e3:es.toList[i]?=some es[i]:=by rw[QW];exact e1
    rw[e3]at q;rw[e1,e2]
    have e4:slotAt t (i+1)=t.place[i]+1:=by
     unfold slotAt;rw[WN (by omega)]
     have:i<t.place.size:=by omega
     simp[Array.getD,this]
    have q':=q;rw[e4]at q';exact q'
   ·have e1:es[i]?=none:=Jt (by omega);have e3:es.toList[i]?=none:=by rw[QW];exact e1
    rw[e3]at q;rwa[e1]
 |true=>
  rw[WO rfl];refine WE (Zf1 _ _ s (by simp) λps d hp=>?_);have hl:ps.length=es.size:=by rw[hp.length_eq];simp
  have hps:∀p∈ps,p<es.size:=λp hm=>List.mem_range.mp (hp.mem_iff.mp hm);refine WE (QC ?_<|by show(ps.map λ(i:Nat)=>rawInt i).toArray.size<=sizeLine;rw[Qr,WG,hl];exact Jo S.few);have hob1:=WM {cls:=.type "tuple",data:=.seq (ps.map λ(i:Nat)=>rawInt i).toArray} hob;refine WE (wpAny_setEpoch_of hob1 hdd S.fit<|WE<|QC<|WL ⟨_,rfl, "set_iterator",_,⟨_,WX _ rfl,rfl⟩,si_slot.lookup,?_⟩);have zT:(s.heap.push {cls:=.type "tuple",data:=.seq (ps.map λ(i:Nat)=>rawInt i).toArray}).objs.size=s.heap.objs.size+1:=Vm ..
  have eq1:(List.range es.size).map (λp=>((es[p]?).map (·.2)).getD Value.none)=es.toList.map (·.2):=by
   apply JR;intro k;by_cases hk:k<es.size
   ·simp[hk]
   ·have:es.size<=k:=by omega
    simp[this]
  refine fin _ _ _ _ _ d (Zbh hh _ a s.heap.objs.size ?_ ?_ ps hl hps _ rfl) ⟨⟨_,WX _ rfl,rfl,rfl⟩,S.keep λo e=>WM _ (WM _ e),_,WM _ (WX _ rfl),0,rfl⟩ (λb hb=>?_) (by rw[WG];exact hl) ?_ (new _ ?_) λb o e=>WM _ (WM _ e)
  ·show a≠_;rw[zT];exact Qk (Jp ha)
  ·show s.heap.objs.size≠_;rw[zT];exact Qk (V4 _)
  ·rcases Qa.mp hb with rfl|hb
   ·refine .inr (new _ ?_);show s.heap.objs.size<=_;rw[zT];exact VF _
   ·rcases Qa.mp hb with rfl|hb
    ·exact .inl rfl
    ·rw[WJ.mp hb];exact .inr (new _<|WQ _)
  ·rw[←eq1];exact hp.map _
  ·show s.heap.objs.size<=_;rw[zT];exact VF _
def Zly(hT:s.TypeIs (.ref a) "set")(h:Q false s):wpAny (model prog w) A (Builtin.List.listLengthHint<|.ref a) Q E s:=by
 refine WE (wpAny_specialOf hT F.slot_set_len.lookup ?_);generalize eid:("set.__len__" : String)=z
 wp_delta
 have sp:splitId z=some ("set","__len__"):=by subst eid;decide +kernel
 rw[sp];subst eid;refine WE (wpAny_isInstance (b:=true) hT (by rw[isSubtype_type];kernel_rfl) (wpAny_ite_split (λz=>absurd z (by decide)) λ_=>?_));exact wpAny_ite_split (λ_=>WE (wpAny_typeOf hT<|WL h)) λz=>absurd (by decide +kernel) z
def Zdm(hh:A.handled=none)(S:Kv w s.heap a js es ep t)(D:Addr)(c:Nat)(res:Value)(hD:s.heap.get? D=some {cls:=.type "list",data:=.seq #[] c})(hne:D≠a)(fin:∀h' tk d (vs:Yr) c',vs.Perm (es.toList.map (·.2))->h'.get? D=some {cls:=.type "list",dict:=none,data:=.seq vs.toArray c',slots:=#[]}->(∀b o,b≠D->s.heap.get? b=some o->h'.get? b=some o)->R (.ok<|.ret res) {s with heap:=h',toks:=tk,drawn:=d}) :
  wpAny (model prog w) A.in1 (Builtin.List.listExtendWith (.ref D) (.ref a) res) (λf s'=>match f with | .done f=>R (.ok f) s' | .again c'=>c'.quiet=true/\codeAny (model prog w) A c' R s') (λe s'=>R (.error e) s') s:=by
 obtain⟨ob,hob,hx,hdd⟩:=S.obj;have hT:s.TypeIs (.ref a) "set":=⟨ob,hob,hx.1⟩;unfold Builtin.List.listExtendWith;refine WE (wpAny_typeOf hT ?_);have n1:Builtin.List.listSameRef (.ref D) (.ref a)=false:=by simp[Builtin.List.listSameRef,hne]
 have n2:(Value.type "set" == Value.type "list")=false:=by decide
 have n3:(Value.type "set" == Value.type "tuple")=false:=by decide
 simp only[n1,n2,n3,Bool.or_false,Jg,Jv];refine WE (Zhp (A':=A.in1) hh S λI fp vs St h1 d1 W st0 flt hl hp hI keep=>?_);have hDI:D≠I:=λz=>by rw[←z,hD]at hI;cases hI
 have loop:∀h tk c1,St 0 h->(∀b o,b≠D->s.heap.get? b=some o->h.get? b=some o)->h.get? D=some {cls:=.type "list",data:=.seq #[] c1}->D∉fp->
   codeAny (model prog w) A (.builtin "list.extend.loop" ⟨[.ref D,.ref I,res],[]⟩) R {s with heap:=h,toks:=tk,drawn:=d1}:=λh tk c1 st hk hD1 hDf=>by
  refine codeAny_extend_loopS W.toS (Jo S.few) D hDf res es.size 0 _ #[] c1 rfl (QY _) st hD1 (ItemsOf.nil _) λs' acc c' hm hD' hacc=>?_
  have ev:acc.toList=vs:=by
   apply JR;intro k;by_cases hk2:k<acc.size
   ·have e1:=QV hk2;rw[QW,e1];exact(hacc.2 k _ e1).symm
   ·rw[QW,Jt (by omega),Vs (by have:=hacc.1;omega)]
  have e2:acc=vs.toArray:=by rw[←ev]
  rw[e2]at hD';rw[Moved.eq_with hm];refine fin s'.heap s'.toks d1 vs c' hp hD' λb o hb e=>hm.heap b o (λhmem=>?_) (hk b o hb e);rcases Qa.mp hmem with z|z
  ·exact hb z
  ·rw[WJ.mp z,hI]at e;cases e
 have hDf:D∉fp:=λhm=>by
  rcases flt D hm with z|z
  ·exact hne z
  ·rw[hD]at z;cases z
 have hT1:Shared.TypeIs {s with heap:=h1,drawn:=d1} (.ref a) "set":=⟨ob,keep _ _ hob,hx.1⟩
 refine WE (QR<|Zly hT1 ?_);have hD1:=keep _ _ hD;refine WE (wpAny_rule<|WE (?_:wpAny _ _ (updateSeq D (·.push .none) >>= λ_=>updateSeq D (·.pop)) _ _ _));refine WE (wpAny_updateSeq hD1 rfl ?_);have hD2:=Q5 (Obj.mapSeq (·.push Value.none)) hD1 rfl;refine wpAny_updateSeq hD2 rfl ?_
 have oth:∀b o,b≠D->h1.get? b=some o->((h1.update D<|Obj.mapSeq (·.push Value.none)).update D (Obj.mapSeq (·.pop))).get? b=some o:=λb o hb e=>
  (QE _ _<|Ne.symm hb).trans ((QE _ _<|Ne.symm hb).trans e)
 exact WL ⟨plainId_quiet F.plain_extend_loop _,loop _ _ _ (W.frame 0 _ _ st0 λb hb o e=>oth b o (λz=>hDf (z▸hb)) e) (λb o hb e=>oth b o hb (keep b o e)) (Q5 (Obj.mapSeq (·.pop)) hD2 rfl) hDf⟩
def Zbu(hh:A.handled=none)(S:Kv w s.heap a js es ep t)(fin:∀h' tk d vs,vs.Perm (es.toList.map (·.2))->(∀b o,s.heap.get? b=some o->h'.get? b=some o)->s.heap.objs.size<h'.objs.size->R vs {s with heap:=h',toks:=tk,drawn:=d}) :
  wpAny (model prog w) A (collect<|.ref a) R E s:=by
 obtain⟨ob,hob,hx,hdd⟩:=S.obj;refine WE (wpAny_runValue<|Vr entry_proto_collect' ?_);have u1:=VR (A:=A) PySem.F.plain_proto_collect ⟨[.ref a],[]⟩;refine(WE<|QC<|WL ⟨plainId_quiet PySem.F.plain_list_iadd _,Vr entry_list_iadd' ?_⟩);rw[(VR (A:=A) PySem.F.plain_list_iadd ⟨[.ref s.heap.objs.size,.ref a],[]⟩)];have g1:(s.heap.push {cls:=.type "list",data:=.seq ([]:Yr).toArray}).get? s.heap.objs.size=some {cls:=.type "list",data:=.seq #[]}:=WX _ rfl
 have key:=Zdm (prog:=prog) (s:={s with heap:=s.heap.push {cls:=.type "list",data:=.seq ([]:Yr).toArray}})
  (R:=λq s'=>∃h' tk d vs c',q=.ok (.ret<|.ref s.heap.objs.size)/\s'={s with heap:=h',toks:=tk,drawn:=d}/\vs.Perm (es.toList.map (·.2))/\(∀b o,s.heap.get? b=some o->h'.get? b=some o)/\
   h'.get? s.heap.objs.size=some {cls:=.type "list",dict:=none,data:=.seq vs.toArray c',slots:=#[]}) hh (S.keep λo e=>WM _ e) s.heap.objs.size 0 (.ref s.heap.objs.size) g1 (JS<|WT hob)
  λh' tk d vs c' hp hD hk=>⟨h',tk,d,vs,c',rfl,rfl,hp,λb o e=>hk b o (Qk<|WT e) (WM _ e),hD⟩
 refine Qz key (λf s' x=>?_) λe s' x=>?_
 ·cases f with
  |done f=>
   obtain⟨h',tk,d,vs,c',e,rfl,hp,hk,hD⟩:=x;cases e
   refine(WE<|wpAny_load hD<|WL ?_);exact fin h' tk d vs hp hk (WT hD)
  |again c1=>
   refine⟨x.1,Vp x.2 λq s2 y=>?_⟩;obtain⟨h',tk,d,vs,c',rfl,rfl,hp,hk,hD⟩:=y;refine(WE<|wpAny_load hD<|WL ?_);exact fin h' tk d vs hp hk (WT hD)
 ·obtain⟨_,_,_,_,_,e',_⟩:=x;cases e'
theorem M8:∀{l:List (Int×Value)},(∀e∈l,Ent e)->IntsAre (l.map (·.2)) (l.map keyOf)
 |[],_=>.nil
 |e::r,h=>by
  obtain⟨k,t,rfl⟩:=h e Qu;exact .cons k t (M8 λx hx=>h x (Qe _ hx))
def Zce{vs us}(p:vs.Perm us):∀{ns:Yl},IntsAre us ns->∃ms,IntsAre vs ms/\ms.Perm ns:=by
 induction p with
 |cons x _ ih=>
  intro ns h;cases h with
  |cons n t r=>
   obtain⟨ms,h1,h2⟩:=ih r;exact⟨n::ms,.cons n t h1,List.Perm.cons _ h2⟩
 |swap x y l=>
  intro ns h;cases h with
  |cons n t r=>
   cases r with
   |cons n' t' r'=>exact⟨n'::n::_,.cons n' t' (.cons n t r'),List.Perm.swap _ _ _⟩
 |_=>grind
def Zo4(hh:A.handled=none)(B:SetB w s.heap a js)(h64:js.length<64)
  (fin:∀l h' tk d out ns e,IntsAre out ns->ns.Perm js->ns.Pairwise (·<=·)->s.heap.get? l=none->s.heap.objs.size<=l->h'.get? l=some {cls:=.type "list",data:=.seq out.toArray e}->
   (∀b o,s.heap.get? b=some o->h'.get? b=some o)->Q (.ref l) {s with heap:=h',toks:=tk,drawn:=d}) :
  wpAny (model prog w) A (call (.builtin "sorted") [.ref a]) Q E s:=by
 obtain⟨es,ep,t,S⟩:=B;refine Calls.call_function_entry kind_sorted plain_sorted entry_sorted (args_sorted1 _) ?_;refine WE (WL<|WE (Zbu hh S λh1 tk d vs hp keep big=>?_));obtain⟨ms,hI,hms⟩:=Zce hp (M8 S.ent);have hms2:=hms.trans S.per;have hl:vs.length<64:=by rw[IntsAre.length hI,hms2.length_eq];exact h64
 refine WE (wpAny_newList ?_<|by have:(64:Nat)<=sizeLine:=(by decide);omega);have g1:(h1.push<|seqObj "list" vs.toArray 0).get? h1.objs.size=some (seqObj "list" vs.toArray 0):=WX _ rfl;refine WE (QR<|Vo slot_list_sort ⟨_,g1,rfl⟩ entry_list_sort (list_sort_tree g1 hI hl λout ns a1 a2 a3=>⟨_,rfl,?_⟩)<|args_list_sort _);obtain⟨e,he⟩:=sortedHeap_at g1;refine WL ⟨_,rfl,fin h1.objs.size _ tk d out.toList ns e a1 (a2.trans hms2) a3 ?_ (VZ big) (by simpa [seqObj]using he) λb o q=>?_⟩
 ·cases q:s.heap.get? h1.objs.size with
  |none=>rfl
  |some o=>exact absurd (WT<|keep _ _ q) (QP _)
 ·have hlt:=WT (keep b o q);rw[sortedHeap_old (Qk hlt) (by rw[size_push'];exact Jp hlt)];exact WM _ (keep b o q)
end
end SetR
namespace Own
open PySem PySem.Spec PyProof.Rows L2
noncomputable def NB(w:World)(l:Addr)(js:Yl):HO:=.ext λh=>SetR.SetB w h l js
section
variable {X:Cx}
def Zkc{w H h l js}(B:SetR.SetB w h l js):ObjOk P w H h l (NB w l js):=by
 refine⟨B,?_,λh1 h2 B1 k=>B1.at k⟩;obtain⟨es,ep,t,S⟩:=B;obtain⟨o,ho,_⟩:=S.obj
 grind
def Zgo(hc:X.calm=true):Kh X (.type "set") (λxs H Q=>∃(p:Addr) (ns:Yl),xs=[.ref p]/\SqL X.K H p (ns.map V.int)/\ns.length+1<4096/\∀l,H l=none->Q (.ref l) (upd H l<|NB X.w l<|ns.foldl SetR.Ku [])):=by
 intro pins s σ H xs us Q I rv h;obtain⟨p,ns,rfl,hS,hz,q⟩:=h;obtain⟨u,rfl,ru⟩:=rv.one;obtain rfl:=ru;obtain⟨its,r,pl,_⟩:=I.list hS;refine SetR.Zmw (I.ok.hd hc) pl.isList (by simpa using F5 r) hz λh' tk B keep=>?_;exact⟨.ref s.heap.objs.size,upd H s.heap.objs.size (NB X.w s.heap.objs.size _),I.laid (λb o e=>keep b o (WT e) e) (WQ _) (Zkc B),rfl,q _ (I.hok.fresh<|WQ _)⟩
def GJ(hc:X.calm=true):Kh X (.builtin "sorted") (λxs H Q=>∃p js,xs=[.ref p]/\js.length<64/\(SqL X.K H p (js.map V.int)\/H p=some (NB X.w p js))/\
  ∀l (ns:Yl),H l=none->ns.Perm js->ns.Pairwise (·<=·)->Q (.ref l) (upd H l<|.lst<|ns.map V.int)):=by
 intro pins s σ H xs us Q I rv h;obtain⟨p,js,rfl,hz,hS,q⟩:=h;obtain⟨u,rfl,ru⟩:=rv.one;obtain rfl:=ru
 have big:∀{ns:Yl},ns.Perm js->(ns.map V.int).length<=sizeLine:=λhp=>by
  rw[WG,hp.length_eq]
  have:(64:Nat)<=sizeLine:=by decide
  omega
 rcases hS with hS|hS
 ·obtain⟨its,r,pl,_⟩:=I.list hS;have hI:IntsAre its js:=by simpa using F5 r
  refine sorted_ints pl.isList hI (by rw[IntsAre.length hI];exact hz) λout ns a1 a2 a3=>?_;obtain⟨e,he⟩:=sortedAll_at s.heap its out;have hf:=I.hok.fresh (VF _);refine⟨.ref (s.heap.objs.size+1),upd H (s.heap.objs.size+1) (.lst<|ns.map V.int),I.laid (λb o e=>sortedAll_old e) (VF _) ⟨big a2,out.toList,e,F1 a1,?_⟩,rfl,q _ ns hf a2 a3⟩;omega
 ·have B:=(I.hok p _ hS).1;refine SetR.Zo4 (I.ok.hd hc) B hz λl h' tk d out ns e a1 a2 a3 nl hl he keep=>?_;have hf:=I.hok.fresh hl;refine⟨.ref l,upd H l (.lst<|ns.map V.int),?_,rfl,q l ns hf a2 a3⟩;have ok:HOk X.prog X.w (upd H l<|.lst<|ns.map V.int) h':=I.hok.laid keep hl ⟨big a2,out,e,F1 a1,he⟩;exact I.call (ch:=[]) (Un.laid keep hl hf) ok I.bare (λb z=>absurd z (by simp))
end
section
variable {X:Cx}{K:Yj}
def Gi(hK:autoParam (X.K=K) au_0):IxR X (λx y H Q=>SX K x y H Q\/SW K x y H Q):=by subst hK;exact Zoz
def RV(hK:autoParam (X.K=K) au_0):Kh X (.builtin "len") (λxs H Q=>∃x n,xs=[x]/\F6 K x H n/\Q (.int n) H):=by subst hK;exact Zng
def Zcn(hK:autoParam (X.K=K) au_0):OpR X (compareOp .In) (rIn K false):=by subst hK;exact R1
def Zlj(hK:autoParam (X.K=K) au_0):OpR X (compareOp .NotIn) (rIn K true):=by subst hK;exact Zag
def E3{pos es k t n}(hc:X.calm=true)(h:PGs X es t)(hK:autoParam (X.K=K) au_0)(hn:autoParam ((assignEach es X.env).length=n) au_0)(hst:autoParam ((assignEach es X.env).findIdx? (·.1)=none) au_0):PG X (.Tuple es k pos) (A6 K n t):=by subst hK;exact Zeb hc h hn hst
end
section
variable {α:Type}{R:Hp->V->α->Prop}{φ:Yp}{g:TG}{tc:TT}{te:TE}{σ:L2.St}{H1:Hp}{F:Hp->Prop}{D:Addr}
def Zk1{K a xs}{ds:List α}(f:α->Option V)(hS:SqL K H1 a xs)(hd:xs.length=ds.length)(hD:H1 D=none)(hz:ds.length<=sizeLine)(turn:∀(i:Nat) x d H2,xs[i]?=some x->ds[i]?=some d->Same H1 H2->∀k:Option V->Hp->Prop,k (f d) H2->g x (atStart φ σ) H2 λσ2 H4=>Sub (atStart φ σ) σ2/\tc σ2 H4 λb H5=>if b=true then te σ2 H5 λy H6=>k (some y) H6 else k none H5)(done:F (upd H1 D<|.lst<|ds.filterMap f)) :
  ∃W:Nat->Nat->List V->Hp->Prop,(∃m,W 0 m [] (upd H1 D<|.lst []))/\
   ∀i m ys H2,W i m ys H2->((Itl K a).stop i H2/\F H2)\/((Itl K a).go i H2/\∀x H3,(Itl K a).yld i H2 x H3->g x (atStart φ σ) H3 λσ2 H4=>Sub (atStart φ σ) σ2/\tc σ2 H4 λb H5=>
    if b=true then te σ2 H5 λy H6=>H6 D=some (.lst ys)/\ys.length<sizeLine/\∃m',m'<m/\W (i+1) m' (ys++[y]) (upd H6 D<|.lst (ys++[y]))else ∃m',m'<m/\W (i+1) m' ys H5):=by
 refine⟨λi m ys H2=>m=ds.length-i/\i<=ds.length/\ys=(ds.take i).filterMap f/\H2=upd H1 D (.lst ys),⟨ds.length,by simp,QY _,by simp,rfl⟩,?_⟩;rintro i m ys H2 ⟨rfl,hi,rfl,rfl⟩;have S2:Same H1 (upd H1 D<|.lst ((ds.take i).filterMap f)):=Kb hD;by_cases hlt:i<ds.length
 ·refine .inr ⟨⟨xs,xs[i]'(by omega),S2.seq hS,by simp[hd,hlt]⟩,λx H3 y=>?_⟩;obtain⟨e,y⟩:=y;subst e
  refine turn i x ds[i] _ (y xs<|S2.seq hS) (WH hlt) S2 (λo H'=>match o with
   |some y=>H' D=some (.lst ((ds.take i).filterMap f))/\((ds.take i).filterMap f).length<sizeLine/\∃m',m'<ds.length-i/\(m'=ds.length-(i+1)/\i+1<=ds.length/\(ds.take i).filterMap f++[y]=(ds.take (i+1)).filterMap f/\upd H' D (.lst ((ds.take i).filterMap f++[y]))=upd H1 D (.lst ((ds.take i).filterMap f++[y])))
   |none=>∃m',m'<ds.length-i/\(m'=ds.length-(i+1)/\i+1<=ds.length/\(ds.take i).filterMap f=(ds.take (i+1)).filterMap f/\H'=upd H1 D (.lst ((ds.take i).filterMap f)))) ?_
  have et:=WY hlt;cases ef:f ds[i]with
  |some y=>
   refine⟨X4,?_,ds.length-(i+1),by omega,rfl,hlt,?_,Mg⟩
   ·have h1:=List.length_filterMap_le f (ds.take i);rw[Qm]at h1;omega
   ·rw[et,VM];simp[ef]
  |none=>
   refine⟨ds.length-(i+1),by omega,rfl,hlt,?_,rfl⟩;rw[et,VM];simp[ef]
 ·have e:i=ds.length:=by omega
  subst e;refine .inl ⟨⟨xs,S2.seq hS,by omega⟩,?_⟩;rwa[Qy]
end
noncomputable def eqL(xs ys:List V):Bool:=decide (xs.length=ys.length)&&(List.range xs.length).all λj=>eqV (xs.getD j .non) (ys.getD j .non)
noncomputable def Tp(K:Yj)(neg:Bool):R2:=λx y H Q=>∃(p q:Addr) (xs ys:List V),x=.ref p/\y=.ref q/\SqL K H p xs/\SqL K H q ys/\xs.all KI=true/\ys.all KI=true/\Q (.bl (if neg then !eqL xs ys else eqL xs ys)) H
section
variable {X:Cx}
def D9{xs ys us ws}(r1:Vals xs us)(r2:Vals ys ws)(f1:xs.all KI=true)(f2:ys.all KI=true)(j:Nat)(h1:j<us.toArray.size)(h2:j<ws.toArray.size) :
  SeqAt.EqAt A s us.toArray[j] ws.toArray[j] (eqV (xs.getD j .non)<|ys.getD j .non):=by
 have l1:=r1.length;have l2:=r2.length;have g1:j<us.length:=by simpa using h1
 have g2:j<ws.length:=by simpa using h2
 have k1:xs[j]?=some (xs[j]'(by omega)):=WH _;have k2:ys[j]?=some (ys[j]'(by omega)):=WH _;obtain⟨u,eu,ru⟩:=r1.get k1;obtain⟨w,ew,rw'⟩:=r2.get k2;have e1:us.toArray[j]=u:=by grind
 have e2:ws.toArray[j]=w:=by grind
 have d1:xs.getD j .non=xs[j]'(by omega):=by rw[Qb,k1];rfl
 have d2:ys.getD j .non=ys[j]'(by omega):=by rw[Qb,k2];rfl
 rw[e1,e2,d1,d2];exact GN ru rw' (Vb.mp f1 _<|Qf _) (Vb.mp f2 _<|Qf _)
def Zeo(hu:X.A.units<cLine):OpR X (compareOp .Eq) (Tp X.K false):=by
 intro pins s σ H x y v u Q I rx ry h;obtain⟨p,q,xs,ys,rfl,rfl,hp,hq,f1,f2,k⟩:=h;obtain rfl:=rx;obtain rfl:=ry;obtain⟨us,r1,p1,_⟩:=I.list hp;obtain⟨ws,r2,p2,_⟩:=I.list hq;have l1:=r1.length;have l2:=r2.length;have k':=k;by_cases e:xs.length=ys.length
 ·refine SeqAt.eq_listAt p1.isList p2.isList (by simp;omega) hu (λj h1 h2=>D9 r1 r2 f1 f2 j h1 h2) ⟨.bl (eqL xs ys),H,I,?_,k'⟩;show _=Value.bool (eqL xs ys);unfold eqL
  grind
 ·refine SeqAt.eq_list_lengthsAt p1.isList p2.isList (by simp;omega) hu ⟨.bl (eqL xs ys),H,I,?_,k'⟩;unfold eqL;rw[Qv e];rfl
def Lm(hu:X.A.units<cLine):OpR X (compareOp .NotEq) (Tp X.K true):=by
 intro pins s σ H x y v u Q I rx ry h;obtain⟨p,q,xs,ys,rfl,rfl,hp,hq,f1,f2,k⟩:=h;obtain rfl:=rx;obtain rfl:=ry;obtain⟨us,r1,p1,_⟩:=I.list hp;obtain⟨ws,r2,p2,_⟩:=I.list hq;have l1:=r1.length;have l2:=r2.length;have k':=k;by_cases e:xs.length=ys.length
 ·refine SeqAt.RcNeAt.lists p1.isList p2.isList (by simp;omega) hu (λj h1 h2=>D9 r1 r2 f1 f2 j h1 h2) _ _ _ _ ⟨.bl (!eqL xs ys),H,I,?_,k'⟩;show _=Value.bool (!eqL xs ys);unfold eqL
  grind
 ·refine SeqAt.RcNeAt.lists_lengths p1.isList p2.isList (by simp;omega) hu _ _ _ _ ⟨.bl (!eqL xs ys),H,I,?_,k'⟩;unfold eqL;rw[Qv e];rfl
def MC{xs:Yl}{us}(r:Vals (xs.map V.int) us)(z:Int):∀j h1 (h2:j<xs.length),Value.isInt z us[j]=(xs[j]==z):=by
 intro j h1 h2;obtain⟨u,eu,t,rfl⟩:=r.get (by rw[WS,WH h2];rfl);rw[WH h1]at eu;rw[WW eu];rfl
def Zjs{xs:Yl}{us}(r:Vals (xs.map V.int) us)(z:Int)(t:Tok):∀y,y∈us.toArray->MeetsSeq.EqGives y (.int z t) (Value.isInt z y):=by
 intro y hy;obtain⟨j,hj,rfl⟩:=Qt.mp (by simpa using hy:y∈us);have l1:=r.length;rw[WG]at l1;obtain⟨u,eu,t',rfl⟩:=r.get (by rw[WS,WH (show j<xs.length by omega)];rfl);rw[WH hj]at eu;rw[WW eu];exact MeetsSeq.EqGives.int _ _ _ _
def Ay(K:Yj):V->List V->Hp->VK->Prop:=λx vs H Q=>∃(l:Addr) (xs:Yl) (z:Int),x=.ref l/\vs=[.int z]/\SqL K H l (xs.map V.int)/\z∈xs/\Q (.int (xs.idxOf z:Nat)) H
def Zcz:MtM X "list.index" (Ay X.K):=by
 intro pins s σ H x vs v us Q I rx rv h;obtain⟨l,xs,z,rfl,rfl,hS,hz,q⟩:=h;cases rx
 obtain⟨u,rfl,t,rfl⟩:=rv.one;obtain⟨its,r,p1,hsz⟩:=I.list hS;obtain⟨o,n,ho,hc,hdn,hd⟩:=p1;obtain⟨c1,d1,dt1,sl1⟩:=o;simp only at hc hdn hd;subst hc hdn hd;have l1:=r.length;rw[WG]at l1;have hj:=Jh.mpr hz;have hb:xs.length<=2 ^ 24:=by rw[WG]at hsz;exact hsz
 refine call_meets VB ⟨_,ho,rfl⟩ PySem.F.entry_list_index (PySem.F.args_list_index_2 _ _)
  (SeqAt.list_indexAt l its.toArray n none sl1 (.int z t) (Value.isInt z) (xs.idxOf z) (by simpa [←l1]using hj) (by omega) ?_ ?_) ⟨ho,λy hy=>(Zjs r z t y hy).at _ _,⟨.int (xs.idxOf z:Nat),H,I.tok _,⟨_,rfl⟩,q⟩⟩
 ·have e:=MC r z (xs.idxOf z) (by omega) hj;show Value.isInt z its[xs.idxOf z]=true;rw[e];simpa using JM hj
 ·intro m hm hlt;have hm':m<its.length:=by simpa using hm
  show Value.isInt z its[m]=false;rw[(MC r z m hm'<|by omega)]
  have:=List.not_of_lt_findIdx hlt
  simpa using this
end
section
variable {X:Cx}{K:Yj}
def AR(hK:autoParam (X.K=K) au_0):MtM X "list.index" (Ay K):=by subst hK;exact Zcz
def FH{to t name apos cpos T id r}(pa:PlainAttrs T)(slot:Slot T name id)(hty:typeOf (.builtin id)=pure (.type "method_descriptor"))(hm:MtM X id r)(ho:PE X o to)(ha:PA X (e::es) t)(hK:autoParam (X.K=K) au_0)(hbase:autoParam (attributeBase o name X.env (eval o X.env)=eval o X.env) au_0)
  (hfew:autoParam (((backTo cpos<|starEach (e::es) X.env).all (λx=>!x.1)&&(backToKw cpos<|keywordEach [] X.env).all (λx=>x.1.isSome)
   && decide ((e::es).length+([]:List Keyword).length+(if ([]:List Keyword).isEmpty then 0 else 1)<30))=true) au_0)
  (hline:autoParam ((apos.endLine==cpos.line)=true) au_0) (hs:autoParam (starEach (e::es) X.env=(false,eval e X.env)::starEach es X.env) au_0) (hplain:autoParam ((backTo cpos<|starEach es X.env).any (·.1)=false) au_0) :
  PE X (.Call (.Attribute o name apos) (e::es) [] cpos) (tBM K T r to t):=by
 subst hK;exact Bv pa slot hty hm ho ha hbase hfew hline hs hplain
end
def Ds(xs ys:Yl):eqL (xs.map V.int) (ys.map V.int)=decide (xs=ys):=by
 unfold eqL;rw[WG,WG];by_cases e:xs=ys
 ·subst e;rw[WI rfl,WI rfl,Bool.true_and,Vb];intro j hj;have hj':j<xs.length:=by simpa using hj
  rw[Qb,WS,WH hj'];show(xs[j]==xs[j])=true;simp
 ·rw[Qv e];by_cases hl:xs.length=ys.length
  ·rw[WI hl,Bool.true_and,VH];intro hall;apply e;apply List.ext_getElem hl;intro j h1 h2
   have:=Vb.mp hall j (by simpa using h1)
   rw[Qb,WS,WH h1,Qb,WS,WH h2]at this;have h3:(xs[j]==ys[j])=true:=this;simpa using h3
  ·grind
def TL(xs:Yl):(xs.map V.int).all KI=true:=by
 rw[List.all_map];exact Vb.mpr λ_ _=>rfl
end Own
namespace M
open PySem PySem.Spec PyProof.Rows L2 Own
def LV{α:Type}(R:Hp->V->α->Prop)(H:Hp)(vs:List V)(xs:List α):Prop:=
 vs.length=xs.length/\∀(i:Nat) (x:α),xs[i]?=some x->∃v,vs[i]?=some v/\R H v x
def LAt{α:Type}(R:Hp->V->α->Prop)(H:Hp)(l:Addr)(xs:List α):Prop:=∃vs,H l=some (.lst vs)/\LV R H vs xs
def Po(H:Hp)(v:V)(q:Int×Int):Prop:=∃a,v=.ref a/\H a=some (.tup [.int q.1,.int q.2])
section
variable {α:Type}{R:Hp->V->α->Prop}{H H':Hp}{vs:List V}{xs:List α}{l:Addr}
def LV.get {i:Nat}{v} (h:LV R H vs xs) (e:vs[i]?=some v):∃x,xs[i]?=some x/\R H v x:=by
 have hi:i<xs.length:=by rw[←h.1];exact(WZ.mp e).1
 obtain⟨v',e',r⟩:=h.2 i xs[i] (by simp)
 grind
end
def Tn(m:Yl):Prop:=∃a b c d e:Int,m=[a,b,c,d,e]/\(1<=a/\a<=10)/\(1<=b/\b<=9/\(b=1\/b=3\/b=7\/b=9))/\(0<=c/\c<=9)/\(1<=d/\d<=1000)/\(1<=e/\e+d<=1001)
def Field(ps:Yk):Prop:=∀q∈ps,1<=q.1/\q.1<=10/\1<=q.2/\q.2<=1000
def Zkg(js:Yl)(k z:Int):z∈SetR.Ku js k↔z∈js\/z=k:=by
 unfold SetR.Ku;split
 ·grind
 ·simp
theorem LA:∀(ns js:Yl) z,z∈ns.foldl SetR.Ku js↔z∈js\/z∈ns
 |[],js,z=>by simp
 |n::r,js,z=>by
  rw[List.foldl_cons,LA r,Zkg,Qa];constructor
  ·grind
  ·grind
def Zb3(k:Int)(h:js.Nodup):(SetR.Ku js k).Nodup:=by
 unfold SetR.Ku;split
 ·omega
 ·grind
theorem Lr:∀(ns:Yl) {js:Yl},js.Nodup->(ns.foldl SetR.Ku js).Nodup
 |[],_,h=>h
 |n::r,js,h=>Lr r (Zb3 n h)
theorem Hj:∀(ns js:Yl),(ns.foldl SetR.Ku js).length<=js.length+ns.length
 |[],js=>by simp
 |n::r,js=>by
  have h1:=Hj r (SetR.Ku js n)
  have h2:(SetR.Ku js n).length<=js.length+1:=by
   unfold SetR.Ku;split
   ·simp
   ·simp
  grind
def Bc{l:Yl}(h:l.Pairwise (·<=·))(n:l.Nodup):l.Pairwise (· < ·):=by
 have:=h.and n
 exact this.imp λ{a b} h=>by have:=h.1;have:=h.2;omega
def Rk{l₁ l₂:Yl}(h1:l₁.Pairwise (· < ·))(h2:l₂.Pairwise (· < ·))(h:∀z,z∈l₁↔z∈l₂):l₁=l₂:=by
 have n1:l₁.Nodup:=h1.imp λ{a b} h=>by omega
 have n2:l₂.Nodup:=h2.imp λ{a b} h=>by omega
 exact((List.perm_ext_iff_of_nodup n1 n2).mpr h).eq_of_pairwise (λa b _ _ x y=>by omega) h1 h2
noncomputable def tenL:Yl:=[1,2,3,4,5,6,7,8,9,10]
def Zgw:z∈tenL↔1<=z/\z<=10:=by
 unfold tenL;constructor
 ·intro h;simp only[Qa,Jw,or_false]at h;omega
 ·rintro⟨h1,h2⟩;simp only[Qa,Jw,or_false];omega
noncomputable def Xp(ps:Yk):Yl:=tenL.filter λh=>decide (h∈ps.map (·.1))
def N4(ps:Yk):(Xp ps).Pairwise (· < ·):=List.Pairwise.filter _ (by trivial)
def MZ(hF:Field ps){z}:z∈Xp ps↔z∈ps.map (·.1):=by
 unfold Xp;rw[Q6,Jr,Zgw];constructor
 ·grind
 ·intro h;obtain⟨q,hq,rfl⟩:=Qp.mp h
  have:=hF q hq
  grind
def Tw(ps:Yk):(Xp ps).length<=10:=by
 have:=Ve (λh=>decide (h∈ps.map (·.1))) tenL
 trivial
def Zc1(hF:Field ps)(p:ns.Perm ((ps.map (·.1)).foldl SetR.Ku []))(h:ns.Pairwise (·<=·)):ns=Xp ps:=by
 refine Rk (Bc h<|p.symm.nodup<|Lr _ V3) (N4 ps) λz=>?_;rw[p.mem_iff,LA,MZ hF];simp
def GP(z:Int)(xs:Yl):inV (.int z) (xs.map V.int)=decide (z∈xs):=by
 unfold inV
 induction xs with
 |nil=>rfl
 |cons x r ih=>
  show((x==z) || _)=_;by_cases e:x=z
  ·grind
  ·grind
def Zjj:tenL=(List.range 10).map λ(i:Nat)=>(1:Int)+(i:Int):=rfl
section
variable (ps:Yk)
noncomputable def tpM(y:Int):Nat->Int
 | 0=>0
 |j+1=>tpM y j+(if (ps.getD j (0,0)).1=y then(ps.getD j (0,0)).2 else 0)
noncomputable def pcM(x y:Int):Nat->Int
 | 0=>0
 |k+1=>pcM x y k+(if x≠y/\(ps.getD k (0,0)).1=x then tpM ps y k*(ps.getD k (0,0)).2 else 0)
noncomputable def PL(n:Nat):Yl->Int
 |[]=>0
 |a::r=>(r.map λb=>pcM ps a b n).sum+PL n r
noncomputable def P2(n:Nat)(h:Int):Yl->Int
 |[]=>0
 |a::r=>if a=h then(r.map λb=>tpM ps b n).sum else P2 n h r
noncomputable def rsM(os:Yl)(h:Int):Nat->Int
 | 0=>0
 |j+1=>rsM os h j+(if os.idxOf h<os.idxOf (ps.getD j (0,0)).1 then(ps.getD j (0,0)).2 else 0)
noncomputable def Tc(os:Yl):Nat->Int
 | 0=>0
 |k+1=>Tc os k+rsM ps os (ps.getD k (0,0)).1 k*(ps.getD k (0,0)).2
end
def LY{r:Yl}(h:a≠b):(a::r).idxOf b=r.idxOf b+1:=by grind
def Hr(f g:Int->Int)(l:Yl):(l.map λb=>f b+g b).sum=(l.map f).sum+(l.map g).sum:=by
 induction l with
 |nil=>rfl
 |cons b r ih=>grind
def Bs{f g:Int->Int}{l:Yl}(h:∀b∈l,f b=g b):(l.map f).sum=(l.map g).sum:=by
 rw[VW h]
def Gb(l:Yl):(l.map λ_=>(0:Int)).sum=0:=by
 induction l with
 |nil=>rfl
 |cons b r ih=>grind
def Zgd(f:Int->Int)(w:Int)(l:Yl):(l.map λb=>f b*w).sum=(l.map f).sum*w:=by
 induction l with
 |nil=>simp
 |cons b r ih=>grind
def Znf{l:Yl}(h:Int)(w:Int)(nd:l.Nodup):(l.map λb=>if h=b then w else 0).sum=if h∈l then w else 0:=by
 induction l with
 |nil=>rfl
 |cons b r ih=>grind
section
variable {ps:Yk}
theorem MY:∀{os:Yl},(ps.getD n (0,0)).1∉os->PL ps (n+1) os=PL ps n os
 |[],_=>rfl
 |a::r,h=>by
  have h1:(ps.getD n (0,0)).1≠a:=λz=>h (by grind);simp only[PL];rw[MY (λz=>h (Qe _ z))];congr 1;apply Bs;simp only[pcM];omega
theorem Ot:∀{os:Yl},os.Nodup->(ps.getD n (0,0)).1∈os->PL ps (n+1) os=PL ps n os+P2 ps n (ps.getD n (0,0)).1 os*(ps.getD n (0,0)).2
 |[],_,h=>by cases h
 |a::r,nd,h=>by
  obtain⟨na,nr⟩:=Q3.mp nd;simp only[PL,P2];by_cases e:a=(ps.getD n (0,0)).1
  ·rw[WO e];have hr:(ps.getD n (0,0)).1∉r:=by rw[←e];exact na
   rw[MY hr,←Zgd]
   have e2:(r.map λb=>pcM ps a b (n+1)).sum=(r.map λb=>pcM ps a b n+tpM ps b n*(ps.getD n (0,0)).2).sum:=by
    apply Bs;intro b hb;simp only[pcM];rw[WO ⟨λz=>na (by rw[z];exact hb),e.symm⟩]
   rw[e2,Hr];omega
  ·rw[WN e];have hr:(ps.getD n (0,0)).1∈r:=by grind
   rw[Ot nr hr]
   have e2:(r.map λb=>pcM ps a b (n+1)).sum=(r.map λb=>pcM ps a b n).sum:=by
    apply Bs;simp only[pcM];omega
   omega
theorem Rb:∀{os:Yl},(ps.getD n (0,0)).1∉os->P2 ps (n+1) h os=P2 ps n h os
 |[],_=>rfl
 |a::r,hn=>by
  simp only[P2];rw[Rb (λz=>hn (Qe _ z))]
  have e2:(r.map λb=>tpM ps b (n+1)).sum=(r.map λb=>tpM ps b n).sum:=by
   apply Bs;simp only[tpM]
   grind
  omega
theorem Mw{h}:∀{os:Yl},os.Nodup->h∈os->(ps.getD n (0,0)).1∈os->
  P2 ps (n+1) h os=P2 ps n h os+(if os.idxOf h<os.idxOf (ps.getD n (0,0)).1 then(ps.getD n (0,0)).2 else 0)
 |[],_,hh,_=>by cases hh
 |a::r,nd,hh,hm=>by
  obtain⟨na,nr⟩:=Q3.mp nd;generalize eg:(ps.getD n (0,0)).1=g at hm ⊢;generalize ew:(ps.getD n (0,0)).2=w at ⊢;simp only[P2];by_cases e:a=h
  ·subst e;rw[WO rfl,WO rfl]
   have e2:(r.map λb=>tpM ps b (n+1)).sum=(r.map λb=>tpM ps b n+(if g=b then w else 0)).sum:=by
    apply Bs;intro b _;simp only[tpM];rw[eg,ew]
   rw[e2,Hr,Znf g w nr];have i0:(a::r).idxOf a=0:=by simp
   by_cases eq:g=a
   ·subst eq;rw[i0,WN na,WN (by omega)]
   ·grind
  ·rw[WN e,WN e]
   have hr:h∈r:=by
    rcases Qa.mp hh with z|z
    ·exact absurd z.symm e
    ·exact z
   have ih1:(a::r).idxOf h=r.idxOf h+1:=LY e;by_cases eq:g=a
   ·subst eq;have i0:(g::r).idxOf g=0:=by simp
    rw[Rb (by rw[eg];exact na),i0,WN (by omega)];omega
   ·have gr:g∈r:=by
     rcases Qa.mp hm with z|z
     ·exact absurd z eq
     ·exact z
    have ih2:(a::r).idxOf g=r.idxOf g+1:=LY (Ne.symm eq);rw[Mw nr hr (by rw[eg];exact gr),eg,ew,ih1,ih2];by_cases hlt:r.idxOf h<r.idxOf g
    ·rw[WO hlt,WO (by omega)]
    ·rw[WN hlt,WN (by omega)]
theorem Lx{os h}(nd:os.Nodup)(hh:h∈os):∀n,(∀j,j<n->(ps.getD j (0,0)).1∈os)->P2 ps n h os=rsM ps os h n
 | 0,_=>by
  have:∀l,P2 ps 0 h l=0:=by
   intro l
   induction l with
   |nil=>rfl
   |cons a r ih=>
    simp only[P2,tpM];rw[Gb,ih];simp
  rw[this];rfl
 |n+1,hm=>by
  rw[Mw nd hh (hm n<|by simp),Lx nd hh n λj hj=>hm j (by omega)];rfl
theorem IY{os}(nd:os.Nodup):∀n,(∀j,j<n->(ps.getD j (0,0)).1∈os)->PL ps n os=Tc ps os n
 | 0,_=>by
  have:∀l,PL ps 0 l=0:=by
   intro l
   induction l with
   |nil=>rfl
   |cons a r ih=>
    simp only[PL,pcM];rw[Gb,ih];rfl
  rw[this];rfl
 |n+1,hm=>by
  rw[Ot nd (hm n<|by simp),IY nd n (λj hj=>hm j (by omega)),Lx nd (hm n<|by simp) n λj hj=>hm j (by omega)];rfl
end
end M
namespace ExcR
open PySem PySem.Spec PyProof.Rows L2
structure KG (fs ex:List Addr) (h h':Heap):Prop where
 keep:∀b o,h.get? b=some o->b∉fs->b∉ex->h'.get? b=some o
 slot:∀b o,h.get? b=some o->b∉ex->∃sl,h'.get? b=some {o with slots:=sl}
 size:h.objs.size<=h'.objs.size
def KG.trans (a:KG fs ex h1 h2) (b:KG fs ex h2 h3):KG fs ex h1 h3:=
 ⟨λc o e n m=>b.keep c o (a.keep c o e n m) n m,λc o e m=>by
  obtain⟨s1,e1⟩:=a.slot c o e m;obtain⟨s2,e2⟩:=b.slot c _ e1 m;exact⟨s2,e2⟩,WU a.size b.size⟩
def KG.mono {fs fs' ex ex'}{h1 h2} (a:KG fs ex h1 h2) (hf:∀b∈fs,b∈fs') (hx:∀b∈ex,b∈ex'):KG fs' ex' h1 h2:=
 ⟨λc o e n m=>a.keep c o e (λz=>n (hf c z)) (λz=>m (hx c z)),λc o e m=>a.slot c o e λz=>m (hx c z),a.size⟩
def Zdw(o:Obj)(f):(o.mapFields f).dict=o.dict:=by
 obtain⟨c,d,dt,sl⟩:=o;cases dt<;>rfl
structure Trc (h:Heap) (e T:Addr) (cls:Value×Yw) (fl:Value):Prop where
 ne:T≠e
 exc:∃oe vs,h.get? e=some oe/\(oe.cls,oe.dict)=cls/\oe.data=.fields vs/\vs[1]?=some (.ref T)
 ent:∃oT ts,h.get? T=some oT/\oT.data=.fields ts/\ts[3]?=some fl
section
variable {M:Model}{A:Around}{E:Yo}{s:Shared}{base:Heap}{env:Env}{outer:List Env}{L e:Addr}
def O6{hadNext Q}(hfr:A.frames=some (env::outer))(hl:s.heap.FunFrames base (env::outer))(hf:env.frame=some L)(he:s.heap.get? e=some oe)(hd:oe.data=.fields vs)(hsz:1<vs.size)(h:∀h' T,s.heap.objs.size<=T->Trc h' e T (oe.cls,oe.dict) (rawInt L)->KG (frs (env::outer)) [e] s.heap h'->Q () {s with heap:=h'}) :
  wpAny M A (do let a ←frameOf env;let pl ←entryPlaceOf L hadNext;let b ←EntryCells.newEntry head a .none (rawInt L) .none pl;setField (.ref e) 1 b) Q E s:=by
 have hene:e∉frs (env::outer):=λhm=>by
  obtain⟨_,o,ho,hnf⟩:=hl.mem hm;rw[he]at ho;cases ho
  exact hnf vs hd
 refine WE (wpAny_frameOf_fun hfr hl hf λh1 s1=>WE (wpAny_entryPlaceOf λpl hpl=>?_));refine WE (QC ?_<|hpl.sizeOk5 _ _ _ _ _);have he1:=(s1.2.1 e hene).trans he;generalize eo:({cls:=.type "traceback",dict:=none,data:=.fields ([head,.ref L,.none,rawInt L,.none]++(if pl.isEmpty then List.replicate 6 Value.none else pl)).toArray}:Obj)=ot;have he2:=WM ot he1;refine Vc he2 hd hsz (h _ h1.objs.size (Vf s1.1.symm) ?_ ?_)
 ·have ne1:=JS (WT he1);have d3:=QL hd (·.setIfInBounds 1 (Value.ref h1.objs.size));refine⟨ne1,⟨_,_,Q5 _ he2 (Vd d3),by rw[Jq,Zdw],d3,by simp[hsz]⟩,ot,_,?_,by rw[←eo],?_⟩
  ·exact(QE _ _<|Ne.symm ne1).trans (WX h1<|by rw[←eo];rfl)
  ·rfl
 ·refine⟨λb o q nb nx=>?_,λb o q nx=>?_,?_⟩
  ·have hbe:b≠e:=λz=>nx (by simp[z]);rw[QE _ _ (Ne.symm hbe)];exact WM _ ((s1.2.1 b nb).trans q)
  ·have hbe:b≠e:=λz=>nx (by simp[z]);obtain⟨sl,q1⟩:=s1.2.2 b o q;exact⟨sl,by rw[QE _ _ (Ne.symm hbe)];exact WM _ q1⟩
  ·rw[Heap.size_update,Vm,s1.1];exact VF _
def Zc7(hfr:A.frames=some (env::outer))(hl:s.heap.FunFrames base (env::outer))(hf:env.frame=some L)(he:s.heap.get? e=some oe)(hd:oe.data=.fields vs)(h1:vs[1]?=some .none)(h:∀h' T,s.heap.objs.size<=T->Trc h' e T (oe.cls,oe.dict) (rawInt L)->KG (frs (env::outer)) [e] s.heap h'->Q () {s with heap:=h'}):wpAny M A (noteFrame (.ref e) env) Q E s:=by
 unfold noteFrame;simp only[hf];refine WE (JI he hd h1 ?_);exact O6 hfr hl hf he hd (VU.mp h1).1 h
def L8(x:Trc s.heap e T cls fl)(h:∀h',Trc h' e T cls .none->KG [] [T] s.heap h'->Q () {s with heap:=h'}) :
  wpAny M A (setField (.ref T) 3 .none) Q E s:=by
 obtain⟨ne,⟨oe,vs,g1,g2,g3,g4⟩,oT,ts,k1,k2,k3⟩:=x;have hz:=(VU.mp k3).1;refine Vc k1 k2 hz (h _ ?_ ?_)
 ·have d3:=QL k2 (·.setIfInBounds 3 Value.none);exact⟨ne,⟨oe,vs,(QE _ _ ne).trans g1,g2,g3,g4⟩,_,_,Q5 _ k1 (Vd d3),d3,by simp[hz]⟩
 ·have ot:∀b,b≠T->(s.heap.update T<|Obj.mapFields (·.setIfInBounds 3 Value.none)).get? b=s.heap.get? b:=λb hb=>QE _ _ (Ne.symm hb);exact⟨λb o q _ nx=>(ot b λz=>nx (by grind)).trans q,λb o q nx=>⟨o.slots,(ot b λz=>nx (by grind)).trans q⟩,Vf (Heap.size_update ..).symm⟩
def G3(hfr:A.frames=some (env::outer))(hl:s.heap.FunFrames base (env::outer))(hf:env.frame=some L)(x:Trc s.heap e T cls .none)(h:∀h' T',s.heap.objs.size<=T'->Trc h' e T' cls (rawInt L)->KG (frs (env::outer)) [e,T] s.heap h'->Q () {s with heap:=h'}):wpAny M A (noteFrame (.ref e) env) Q E s:=by
 obtain⟨ne,⟨oe,vs,g1,g2,g3,g4⟩,oT,ts,k1,k2,k3⟩:=id x;unfold noteFrame;simp only[hf];refine WE (JI g1 g3 g4 ?_);refine WE (JI k1 k2 k3 ?_);refine WE (L8 x λh1 x1 K1=>?_)
 have hl1:=hl.of_keeps λb o q hnf=>⟨o,K1.keep b o q (by simp) (λz=>by
  rw[WJ.mp z,k1]at q;cases q
  exact hnf ts k2),rfl⟩
 obtain⟨_,⟨oe1,vs1,p1,p2,p3,p4⟩,_⟩:=id x1;refine O6 hfr hl1 hf p1 p3 (VU.mp p4).1 λh2 T' hT' x2 K2=>h h2 T' (WU K1.size hT') (by grind) ?_;exact(K1.mono (by simp)<|by simp).trans (K2.mono (λ_ z=>z)<|by simp)
def Fq(x:Trc s.heap e T cls fl)(h:∀h',Trc h' e T cls .none->KG [] [T] s.heap h'->Q () {s with heap:=h'}) :
  wpAny M A (setFlight (.ref e) none) Q E s:=by
 obtain⟨ne,⟨oe,vs,g1,g2,g3,g4⟩,_⟩:=id x;refine WE (JI g1 g3 g4 ?_);exact L8 x h
def Zbt(hfr:A.frames=some (env::outer))(hl:s.heap.FunFrames base (env::outer))(hf:env.frame=some L)(he:s.heap.get? e=some oe)(hd:oe.data=.fields vs)(h1:vs[1]?=some .none)(h:∀h' T,s.heap.objs.size<=T->Trc h' e T (oe.cls,oe.dict) .none->KG (frs (env::outer)) [e] s.heap h'->Q () {s with heap:=h'}):wpAny M A (leaving env<|.ref e) Q E s:=by
 unfold leaving;refine WE (Zc7 hfr hl hf he hd h1 λh2 T hT x K=>Fq x λh3 x3 K3=>h h3 T hT x3 ?_);refine⟨λb o q nb nx=>K3.keep b o (K.keep b o q nb nx) (by simp) (λz=>?_),λb o q nx=>?_,WU K.size K3.size⟩
 ·rw[WJ.mp z]at q;exact absurd (WT q) (J8.mpr hT)
 ·obtain⟨sl,q2⟩:=K.slot b o q nx;exact⟨sl,K3.keep b _ q2 (by simp) (λz=>by rw[WJ.mp z]at q;exact absurd (WT q) (J8.mpr hT))⟩
def Zcr(hfr:A.frames=some (env::outer))(hl:s.heap.FunFrames base (env::outer))(hf:env.frame=some L)(x:Trc s.heap e T cls .none)(h:∀h' T',s.heap.objs.size<=T'->Trc h' e T' cls .none->KG (frs (env::outer)) [e,T] s.heap h'->Q () {s with heap:=h'}):wpAny M A (leaving env<|.ref e) Q E s:=by
 refine WE (G3 hfr hl hf x λh2 T' hT x2 K=>Fq x2 λh3 x3 K3=>h h3 T' hT x3 ?_);refine⟨λb o q nb nx=>K3.keep b o (K.keep b o q nb nx) (by simp) (λz=>?_),λb o q nx=>?_,WU K.size K3.size⟩
 ·rw[WJ.mp z]at q;exact absurd (WT q) (J8.mpr hT)
 ·obtain⟨sl,q2⟩:=K.slot b o q nx;exact⟨sl,K3.keep b _ q2 (by simp) (λz=>by rw[WJ.mp z]at q;exact absurd (WT q) (J8.mpr hT))⟩
end
section
variable {P:Program}{w:World}{H H':Hp}{h h':Heap}{a:Addr}{o:HO}{fs ex:List Addr}
def has(x:ObjOk P w H h a o):∃u,h.get? a=some u:=by
 cases o with
 |lst xs=>exact let ⟨_,_,_,_,e⟩:=x;⟨_,e⟩
 |tup xs=>exact let ⟨_,_,_,u,e,_⟩:=x;⟨u,e⟩
 |dK kvs|dT kvs=>exact let ⟨_,_,_,_,u,_,_,e,_⟩:=x;⟨u,e⟩
 |set S n=>exact let ⟨u,_,_,_,e,_⟩:=x;⟨u,e⟩
 |ins C dx fs=>exact let ⟨_,_,_,e,_⟩:=x;⟨_,e⟩
 |own y=>exact x
 |xd fs=>exact let ⟨_,⟨u,_,_,e,_⟩,_⟩:=x;⟨u,e⟩
 |rng lo hi=>exact let ⟨_,_,_,e⟩:=x;⟨_,e⟩
 |frz ob u=>exact⟨_,x.1⟩
 |ext φ=>exact x.2.1
 |_=>exact⟨_,x⟩
def Ej(ok:HOk P w H h)(e:h.get? a=none):H a=none:=by
 cases q:H a with
 |none=>rfl
 |some o=>
  obtain⟨u,z⟩:=has (ok a o q)
  grind
def Sy(ok:HOk P w H h)(k:KG fs ex h h')(hf:∀b∈fs,H b=none)(hx:∀b∈ex,H b=none):HOk P w H h':=λa o e=>by
 refine(ok a o e).stay (λb u hb q=>?_) (λ_ q=>q) (λ_ _ q=>q);have hn:H b≠none:=by grind
 exact k.keep b u q (λz=>hn (hf b z)) λz=>hn (hx b z)
end
structure XAt (P:Program) (w:World) (outer:List Env) (H H':Hp) (s s':Shared) (a T C:Addr) (dx:Yw):Prop where
 os:s'.os=s.os
 bare:AllBare s'.gens
 un:Un (frs outer) [] H H' s.heap s'.heap
 hok:HOk P w H' s'.heap
 na:s.heap.get? a=none
 nT:s.heap.get? T=none
 fa:H' a=none
 fT:H' T=none
 tr:Trc s'.heap a T (.ref C,dx) .none
noncomputable def CXe(P:Program)(w:World):CXT:=λouter H s E e s'=>∃a T C dx H',e=.ref a/\XAt P w outer H H' s s' a T C dx/\E (.ref C) dx H'
section
variable {X:Cx}{pins:Ym}{σ:L2.St}{H H':Hp}{s s':Shared}{a T C:Addr}{dx:Yw}
def Io(I:Inv X pins σ H s)(hex:X.ex=[])(k:KG (frs X.stack) ex s.heap h')(hx:∀b∈ex,X.s₀.heap.get? b=none):Un X.fs [] X.H₀ H X.s₀.heap h':=by
 have B:=I.base;rw[hex]at B;have out:∀b o,X.s₀.heap.get? b=some o->b∉ex:=λb o q z=>by rw[hx b z]at q;cases q
 have nl:∀b o,X.s₀.heap.get? b=some o->b∉X.fs->b∉frs X.stack:=λb o q nf z=>by
  rcases Qa.mp (I.stkSub b z)with e|e
  ·have h1:=WT q;have h2:=I.ok.above
   grind
  ·exact nf e
 refine⟨λb o q n nf ne=>k.keep b o (B.keep b o q n nf ne) (nl b o q nf) (out b o q),λb o q n hf ne=>?_,λb o q n ne=>B.free b o q n ne,λb o q ne=>?_,B.tups,B.frzs,B.tbls⟩
 ·obtain⟨sl,q1⟩:=B.slot b o q n hf ne;obtain⟨sl2,q2⟩:=k.slot b _ q1 (out b o q)
  grind
 ·obtain⟨o1,q1⟩:=B.there b o q ne;obtain⟨sl2,q2⟩:=k.slot b _ q1 (out b o q);exact⟨_,q2⟩
def Sx(I:Inv X pins σ H s)(hex:X.ex=[])(e:s.heap.get? b=none):X.s₀.heap.get? b=none:=by
 cases q:X.s₀.heap.get? b with
 |none=>rfl
 |some o=>
  obtain⟨u,z⟩:=I.base.there b o q (by grind)
  grind
variable {E:Yo}
def Zhq(I:Inv X pins σ H s)(hex:X.ex=[])(hst:X.stack=X.env::X.outer)(hfr:X.env.frame=some X.env.locals)(x:XAt X.prog X.w X.stack H H' s s' a T C dx) :
  wpAny (model X.prog X.w) X.A (leaving X.env<|.ref a) (λ_ s2=>∃T2,XAt X.prog X.w X.outer X.H₀ H' X.s₀ s2 a T2 C dx) E s':=by
 have J:=I.call' x.os x.un x.hok x.bare λb z=>absurd z (by simp);have hF:=J.stack;have hA:=J.ok.frames;rw[hst]at hF hA;refine Zcr hA hF hfr x.tr λh2 T2 hT2 tr k=>⟨T2,J.os,J.bare,?_,?_,Sx I hex x.na,?_,x.fa,x.hok.fresh hT2,tr⟩
 ·exact Io J hex (by rw[hst];exact k) λb hb=>by
   rcases Qa.mp hb with rfl|hb
   ·exact Sx I hex x.na
   ·rw[WJ.mp hb];exact Sx I hex x.nT
 ·refine Sy x.hok k (λb hb=>J.stkFree b (by grind)) λb hb=>?_;rcases Qa.mp hb with rfl|hb
  ·exact x.fa
  ·rw[WJ.mp hb];exact x.fT
 ·exact Vz (WU J.sz hT2)
def M9(J:Inv X pins σ H s)(hex:X.ex=[])(hst:X.stack=X.env::X.outer)(hfr:X.env.frame=some X.env.locals)(na:X.s₀.heap.get? a=none)(fa:H a=none)(he:s.heap.get? a=some oe)(hc:oe.cls=.ref C)(hdx:oe.dict=dx)(hd:oe.data=.fields vs)(h1:vs[1]?=some .none) :
  wpAny (model X.prog X.w) X.A (leaving X.env<|.ref a) (λ_ s2=>∃T2,XAt X.prog X.w X.outer X.H₀ H X.s₀ s2 a T2 C dx) E s:=by
 have hF:=J.stack;have hA:=J.ok.frames;rw[hst]at hF hA;refine Zbt hA hF hfr he hd h1 λh2 T2 hT2 tr k=>⟨T2,J.os,J.bare,?_,?_,na,?_,fa,J.hok.fresh hT2,by rw[←hc,←hdx];exact tr⟩
 ·exact Io J hex (by rw[hst];exact k) λb hb=>by rw[WJ.mp hb];exact na
 ·exact Sy J.hok k (λb hb=>J.stkFree b (by grind)) λb hb=>by rw[WJ.mp hb];exact fa
 ·exact Vz (WU J.sz hT2)
def Rn{oe vs}(I:Inv X pins σ H s)(hex:X.ex=[])(hst:X.stack=X.env::X.outer)(hfr:X.env.frame=some X.env.locals)(keeps:∀b o,s.heap.get? b=some o->h'.get? b=some o)(new:s.heap.get? a=none)(he:h'.get? a=some oe)(hc:oe.cls=.ref C)(hdx:oe.dict=dx)(hd:oe.data=.fields vs)(h1:vs[1]?=some .none) :
  wpAny (model X.prog X.w) X.A (leaving X.env<|.ref a) (λ_ s2=>∃T2,XAt X.prog X.w X.outer X.H₀ H X.s₀ s2 a T2 C dx) E {s with heap:=h'}:=
 M9 (s:={s with heap:=h'}) (I.call' (ch:=[]) rfl (Un.kept keeps) (I.hok.kept keeps) I.bare λb z=>absurd z (by simp)) hex hst hfr (Sx I hex new) (Ej I.hok new) he hc hdx hd h1
end
structure F7 (K:Yj) (C:Addr):Prop where
 q:PySem.W.excIn K C [.type "ValueError",.type "Exception",.type "BaseException",.type "object"] "ValueError.__new__"=true
def F7.obj {K C h} (c:F7 K C) (k:K.In h):∃bm N nm q bs hdct sn sub ab col dd k0 k1 k2 k3 k5 mN,h.get? C=some (excClassObj nm q C N bs bm hdct sn sub ab col dd k0 k1 k2 k3 k5 "ValueError.__new__")/\h.Ns N mN/\mN "__init__"=none/\
  OwnTail h [.type "ValueError",.type "Exception",.type "BaseException",.type "object"] bm:=by
 have e:=c.q;unfold PySem.W.excIn at e;split at e
 next dd cd sl ho=>
  split at e
  next C1 bm k0 k1 k2 k3 n k5 hm hs=>
   simp only[Q4,beq_iff_eq,Bool.not_eq_true']at e;obtain⟨⟨⟨⟨⟨e1,e2⟩,e3⟩,e4⟩,e5⟩,e6⟩:=e;subst e1 e2;have hg:=k _ _ ho;cases cd with
   |mk nm bs mro ns qn hd sn sub ab col del=>
    simp only at hm e3 e5 e6
    have hsl:sl=#[k0,k1,k2,k3,some (.builtin "ValueError.__new__"),k5]:=by
     cases sl with
     |mk l=>simp only at hs;rw[hs]
    rw[hm,e3,hsl]at hg;exact⟨bm,ns,nm,qn,bs,hd,sn,sub,ab,col,dd,k0,k1,k2,k3,k5,_,hg,.of_isNs (JN k e5),PySem.W.nsMap_none_of_in k e5 e6,PySem.W.tail_of_in k e4⟩
  next=>cases e
 next=>cases e
abbrev TF:=L2.St->Hp->Str->(Str->Hp->Prop)->Prop
def PF(X:Cx)(es:Yt)(t:TF):Prop:=
 ∀(pins:Ym) (s:Shared) (σ:L2.St) (H:Hp) (out:Str) (Q:Str->Hp->Prop),Inv X pins σ H s->t σ H out Q->
  wpAny (model X.prog X.w) X.A (joinParts out<|evalEach es X.env) (λu s'=>∃x H',Inv X pins σ H' s'/\RelV (.str x) u/\Q x H') X.xe s
section
variable {X:Cx}{e e1 e2:Expr}{es:Yt}{t:TF}{tv:TE}{pos:Pos}
noncomputable def EX:TF:=λ_ H out Q=>out.length<=sizeLine/\Q out H
noncomputable def HR(x:Str)(t:TF):TF:=λσ H out Q=>(out++x).length<=sizeLine/\t σ H (out++x) Q
noncomputable def Lf(tv:TE)(t:TF):TF:=λσ H out Q=>tv σ H λv H1=>(∃i:Int,v=.int i/\i.natAbs.log2<1920/\(out++(Str.ofString<|toString i)).length<=sizeLine/\t σ H1 (out++Str.ofString (toString i)) Q)\/
 ∃x:Str,v=.str x/\x.length<=sizeLine/\(out++x).length<=sizeLine/\t σ H1 (out++x) Q
def Nv:PF X [] EX:=λpins s σ H out Q I h=>joinParts_nilE (joinParts_nil ⟨out,H,I.tok _,⟨_,rfl⟩,h.2⟩ h.1)
def PB(h:PF X es t):PF X (.Constant (.str x) j pos::es) (HR x t):=λpins s σ H out Q I q=>
 joinParts_consE (joinParts_cons<|Calls.Constant_str ⟨q.1,h pins _ σ H _ Q (I.tok _) q.2⟩)
def NF(hv:PE X e tv)(h:PF X es t):PF X (.FormattedValue e (-1) none pos::es) (Lf tv t):=λpins s σ H out Q I q=>by
 refine joinParts_consE (joinParts_cons<|FormattedValue_plain<|thn (hv pins s σ H _ I q) ?_);rintro u s1 ⟨v,H1,I1,r,q1⟩;rcases q1 with⟨i,rfl,hs,hz,q2⟩|⟨x,rfl,hx,hz,q2⟩
 ·obtain⟨tk,rfl⟩:=r;exact formatField_int_small hs ⟨hz,h pins _ σ H1 _ Q (I1.tok _) q2⟩
 ·obtain⟨tk,rfl⟩:=r;exact formatField_str (λt' tk'=>⟨hz,h pins _ σ H1 _ Q (I1.tok _) q2⟩) hx
noncomputable def tF(t:TF):TE:=λσ H Q=>t σ H Str.empty λx H'=>Q (.str x) H'
def Np(h:PF X (e1::e2::es) t):PE X (.JoinedStr (e1::e2::es) pos) (tF t):=λpins s σ H Q I q=>
 JoinedStr_many (thn (h pins s σ H _ _ I q) λu s1 ⟨x,H1,I1,r,q1⟩=>⟨.str x,H1,I1,r,q1⟩)
end
def CV(X:Cx)(E:XK):Prop:=∀(pins:Ym) (σ:L2.St) (H:Hp) (s:Shared) (C a:Addr) (h':Heap) (args:Yr),Inv X pins σ H s->Heap.MadeExcOf s.heap h' a (.ref C) args->E (.ref C) none H->X.xe (.ref a) {s with heap:=h'}
noncomputable def OF(C:Addr)(E:XK)(t:TA):TS:=λ_ σ H=>t σ H λvs H1=>vs.length<=sizeLine/\E (.ref C) none H1
section
variable {X:Cx}{x:Str}{C:Addr}{E:XK}{e:Expr}{es:Yt}{t:TA}{p cpos pos:Pos}
def Zgx(c:F7 X.K C)(hm:X.mg x=some (.ref C))(hR:CV X E)(hc:X.calm=true)(ha:PA X (e::es) t)(hg:autoParam (Gl X x) au_0)(hdb:autoParam ((x==("__debug__" : Str))=false) au_1)(he:autoParam (starEach (e::es) X.env=(false,eval e X.env)::starEach es X.env) au_0)(hpl:autoParam ((backTo cpos<|starEach es X.env).any (·.1)=false) au_0):PS X (.Raise (some<|.Call (.Name x p) (e::es) [] cpos) none pos) (OF C E t):=by
 intro pins s σ H D I h;obtain⟨bm,N,nm,q,bs,hdct,sn,sub,ab,col,dd,k0,k1,k2,k3,k5,mN,hC,hN,hni,hT⟩:=c.obj I.ok.mod.kin
 have hpl':(backTo cpos<|starEach (e::es) X.env).any (·.1)=false:=by
  rw[he];show(false || (backTo cpos<|starEach es X.env).any (·.1))=false;rw[hpl];rfl
 refine wpAny_Raise_call_subU (nm:=nm) (q:=q) (N:=N) (bs:=bs) (hdct:=hdct) (sn:=sn) (sub:=sub) (ab:=ab) (col:=col) (dd:=dd) (k0:=k0) (k1:=k1) (k2:=k2) (k3:=k3) (k5:=k5)
  Vv (by decide +kernel) Vv (hT.hasType<|by decide +kernel) (I.ok.hd hc) hpl' hni (NX I hg hm ⟨rfl,?_⟩ hdb)
 have hA:=ha cpos pins s σ H _ I h;rw[he]at hA ⊢;refine J6 (thn hA ?_);rintro us s2 ⟨vs,H2,I2,r2,q1,q2⟩;refine⟨rfl,by rw[←r2.length];exact q1,I2.bk _ _ hC,hN.keeps I2.bk,hT.keeps I2.bk,λh' a hm'=>?_⟩;exact hR pins σ H2 s2 C a h' us I2 hm' q2
end
section
variable {P:Program}{w:World}{K:Yj}{mg:Yn}{base:Heap}{N ps:Ys}{qual x:Str}{scope:Scope}{f:Addr}{cd:Value}{A:Around}{outer:List Env}{s:Shared}{H:Hp}{E:XK}
def KW:CV (XY (CXe P w) P w K mg base N qual scope f cd A outer s H E) E:=by
 intro pins σ H1 s1 C a h' args I m q;obtain⟨t,ht,_,_⟩:=m.there;exact Qz (Rn I rfl rfl rfl m.keeps m.new ht rfl rfl rfl rfl) (λ_ s3 ⟨T2,y⟩=>⟨a,T2,C,none,H1,rfl,y,q⟩) λ_ _ z=>z
def XU:Pj (CXe P w) (XY (CXe P w) P w K mg base N qual scope f cd A outer s H E) E:=by
 rintro pins σ H1 s1 e s2 I ⟨a,T,C,dx,H',rfl,y,q⟩;exact Qz (Zhq I rfl rfl rfl y) (λ_ s3 ⟨T2,z⟩=>⟨a,T2,C,dx,H',rfl,z,q⟩) λ_ _ z=>z
def Ze4:PassesOwn (model P w) (XY (CXe P w) P w K mg base N qual scope f cd A outer s H E).A (XY (CXe P w) P w K mg base N qual scope f cd A outer s H E).env (XY (CXe P w) P w K mg base N qual scope f cd A outer s H E).xe:=PassesOwn.leaving
def Def.okX {st k sp} (D:Own.Def K mg x st ps) (S:Xn N ps (Xk st)) (len:∀vs H Q E,sp vs H Q E->vs.length=ps.length)
  (hbody:∀f cdv A outer s H vs Q E,Xv k (A.deeper<|envOfC x (Xk st) s.heap.objs.size f cdv)->sp vs H Q E->
   ∃t,PSs (XY (CXe P w) P w K mg base N x (Xk st) f cdv A outer s H E) (XQ st) t/\t {nx:=λ_ H'=>Q .non H',rt:=Q} (start N vs) H):Own.Callee P w K mg base (CXe P w) (k+1) x ps sp:=by
 obtain⟨f,fd,F,hm,hb⟩:=D.ex;obtain⟨oc,od,kV,doc,pm,an,cdv,ct,osl,rfl,lk,hcd⟩:=F.ex;exact⟨f,_,AW lk hcd S len λA outer s H vs Q E hr hsp=>hbody f cdv A outer s H vs Q E hr hsp,hm,F.kp,⟨_,lk,rfl⟩,hb⟩
end
end ExcR
namespace ExcR
open PySem PySem.Spec PyProof.Rows L2
open Sem (wp)
structure Kn (K:Yj) (C:Addr):Prop where
 c:F7 K C
 ga:PySem.W.findIn K (.ref C) "__getattribute__"=some (some<|.builtin "BaseException.__getattribute__")
 gt:PySem.W.findIn K (.ref C) "__getattr__"=some none
 cl:PySem.W.findIn K (.ref C) "__class__"=some (some<|.builtin "object.__class__")
 is:(PySem.W.clsIn K C).isSome=true
structure Pr (K:Yj) (C:Addr):Prop where
 obj:∀{h:Heap},K.In h->∃bm N nm q bs hdct sn sub ab col dd k0 k1 k2 k3 k5,h.get? C=some (excClassObj nm q C N bs bm hdct sn sub ab col dd k0 k1 k2 k3 k5 "ValueError.__new__")/\OwnTail h [.type "ValueError",.type "Exception",.type "BaseException",.type "object"] bm
 ga:PySem.W.findIn K (.ref C) "__getattribute__"=some (some<|.builtin "BaseException.__getattribute__")
 gt:PySem.W.findIn K (.ref C) "__getattr__"=some none
 cl:PySem.W.findIn K (.ref C) "__class__"=some (some<|.builtin "object.__class__")
 is:(PySem.W.clsIn K C).isSome=true
def Kn.any {K:Yj}{C:Addr} (G:Kn K C):Pr K C:=
 ⟨λk=>by
  obtain⟨bm,N,nm,q,bs,hdct,sn,sub,ab,col,dd,k0,k1,k2,k3,k5,mN,hC,hN,hni,hT⟩:=G.c.obj k;exact⟨bm,N,nm,q,bs,hdct,sn,sub,ab,col,dd,k0,k1,k2,k3,k5,hC,hT⟩,G.ga,G.gt,G.cl,G.is⟩
section
variable {prog:Program}{w:World}{A:Around}{E:Yo}{h:Heap}{g:Array GenState}{d:Drawn}{t:Nat}{os:OsState}{a C:Addr}{o:Obj}{K:Yj}
def Zkl{R:Result->Shared->Prop}(k:K.In h)(G:Pr K C)(hx:h.get? a=some o)(hc:o.cls=.ref C)(hq:R (.ok<|.ret<|.ref C) ⟨h,g,d,t,os⟩) :
  codeAny (model prog w) A (.call (.builtin "getset_descriptor.__get__") ⟨[.builtin "object.__class__",.ref a,.ref C],[]⟩) R ⟨h,g,d,t,os⟩:=by
 obtain⟨bm,N,nm,q,bs,hdct,sn,sub,ab,col,dd,k0,k1,k2,k3,k5,hC,hT⟩:=G.obj k;have hty:(⟨h,g,d,t,os⟩:Shared).TypeIs (.builtin "object.__class__") "getset_descriptor":=Jx
 have hob:(Value.ref C::bm).contains (.type (".".intercalate ("object.__class__".cutAt '.').dropLast))=true:=by
  rw[F.owner_object_class,VD,hT.hasType (b:=true) (by decide +kernel)];rfl
 refine V1 F.slot_gs_get.plain F.entry_gs_get (F.slot_gs_get.check _ _ _ _ _ _ _ _ hty (F.args_gs_get _ _ _) ?_)
 repeat (any_goals (first|assumption|(with_reducible refine Q8 hx ?_;rw[hc])|(with_reducible refine V8 hC ?_;rw[hob])|wp_step))
 refine⟨Jf _ (by decide +kernel),Vr F.entry_object_class ?_⟩
 repeat (any_goals (first|assumption|(with_reducible refine Q8 hx ?_;rw[hc])|wp_step))
def Zi4{tk:Tok}{Q:Fin->Shared->Prop}(k:K.In h)(G:Pr K C)(hx:h.get? a=some o)(hc:o.cls=.ref C)(hq:Q (.done<|.ret<|.ref C) ⟨h,g,d,t,os⟩) :
  wpAny (model prog w) A (Builtin.«object.__getattribute__» ⟨[.ref a,.str "__class__" tk],[]⟩) Q E ⟨h,g,d,t,os⟩:=by
 have hty:(⟨h,g,d,t,os⟩:Shared).TypeIs (.builtin "object.__class__") "getset_descriptor":=Jx;have f1:=Jx;have f2:=F.slot_gs_get.lookup;have f3:=F.slot_gs_set.lookup;have L:=QO (M:=model prog w) k G.cl
 repeat (any_goals (first|assumption|(with_reducible refine Q8 hx ?_;rw[hc])|with_reducible refine L.at ?_|wp_step))
 refine Zkl k G hx hc ?_
 repeat (any_goals (first|assumption|wp_step))
def Zjx{M:Model}{v:Value}{Q:Unit->Shared->Prop}(k:K.In h)(G:Pr K C)(hx:h.get? a=some o)(hc:o.cls=.ref C)(hq:Q () ⟨h,g,d,t,os⟩) :
  wpAny M A (checkBuiltinCall "BaseException.__getattribute__" ⟨[.ref a,v],[]⟩) Q E ⟨h,g,d,t,os⟩:=by
 obtain⟨bm,N,nm,q,bs,hdct,sn,sub,ab,col,dd,k0,k1,k2,k3,k5,hC,hT⟩:=G.obj k;have hbe:(Value.ref C::bm).contains (.type "BaseException")=true:=by rw[VD,hT.hasType (b:=true) (by decide +kernel)];rfl
 have e1:builtinKind "BaseException.__getattribute__"=some .slot:=by decide +kernel
 have e2:splitId "BaseException.__getattribute__"=some ("BaseException","__getattribute__"):=by decide +kernel
 have e3:=F.args_bexc_ga (.ref a) v;simp only[checkBuiltinCall,e1,e2];refine WE ?_;unfold isInstance
 repeat (first|(with_reducible refine Q8 hx ?_;rw[hc])|(with_reducible refine V8 hC ?_;rw[hbe])|wp_step)
 exact hq
def Zhg{tk:Tok}{Q:Yo}(k:K.In h)(G:Pr K C)(hx:h.get? a=some o)(hc:o.cls=.ref C)(hq:Q (.ref C) ⟨h,g,d,t,os⟩) :
  wpAny (model prog w) A (getAttrBy (.ref a) (.str "__class__" tk) false) Q E ⟨h,g,d,t,os⟩:=by
 obtain⟨bm,N,nm,q,bs,hdct,sn,sub,ab,col,dd,k0,k1,k2,k3,k5,hC,hT⟩:=G.obj k;have f0:=F.attrBase_ValueError.ga.bind (.ref a);have x2:(Value.builtin "BaseException.__getattribute__" == Value.builtin "object.__getattribute__")=false:=by decide +kernel
 have x1:(onTheHeap (Value.ref C)&&Value.builtin "BaseException.__getattribute__" == Value.builtin "object.__getattribute__")=false:=by rw[x2];rfl
 have L:=QO (M:=model prog w) k G.ga;have L2:=QO (M:=model prog w) k G.gt
 repeat (any_goals (first|assumption|(with_reducible refine Q8 hx ?_;rw[hc])|with_reducible refine L.at ?_|with_reducible refine L2.at ?_|wp_step))
 refine V1 F.attrBase_ValueError.ga.plain F.entry_bexc_ga (Zjx k G hx hc<|Zi4 k G hx hc ?_)
 repeat (any_goals (first|assumption|wp_step))
def Zbl{Q:Yv->Shared->Prop}(k:K.In h)(G:Pr K C)(hx:h.get? a=some o)(hc:o.cls=.ref C)(hq:Q (some<|.ref C) ⟨h,g,d,t+1,os⟩) :
  wpAny (model prog w) A (getAttr? (.ref a) "__class__") Q E ⟨h,g,d,t,os⟩:=by
 unfold getAttr? getAttrBy?
 repeat (any_goals (first|assumption|with_reducible apply Zhg k G hx hc|wp_step))
end
end ExcR
namespace ExcR
open PySem PySem.Spec PyProof.Rows L2
noncomputable def KY(a C:Addr)(dx:Yw):HO:=.ext λh=>∃o,h.get? a=some o/\(o.cls,o.dict)=(.ref C,dx)/\∃vs,o.data=.fields vs
noncomputable abbrev Hz(a C:Addr):HO:=KY a C none
def Zid{h a T C dx fl}(x:Trc h a T (.ref C,dx) fl):ObjOk P w H h a (KY a C dx):=by
 obtain⟨_,⟨o,vs,e1,e2,e3,_⟩,_⟩:=x;exact⟨⟨o,e1,e2,vs,e3⟩,⟨o,e1⟩,λh1 h2 ⟨o1,q1,q2⟩ k=>⟨o1,k o1 q1,q2⟩⟩
def Zik{K M h C}(k:K.In h)(e:(PySem.W.clsIn K C).isSome=true):PySem.W.Looks M h (isType<|.ref C) true:=by
 unfold PySem.W.clsIn at e;split at e
 next ho=>
  intro A' Q' E' s' kk q;exact WE (wpAny_loadPart (kk _ _<|k _ _ ho)<|WL q)
 grind
def Zo3{K a C}(G:Pr K C):PySem.W.KitX K (.ref a) (.ref C) (λh=>∃o,h.get? a=some o/\o.cls=.ref C) where
 ty:=λM h _ ⟨o,h1,h2⟩=>h2▸(PySem.W.Looks.ld h1).andThen .now
 it:=λM h k _=>Zik k G.is
 ne:=λh tp dd its n sl k htp=>by
  refine VH.mpr λq=>?_;obtain⟨bm,N,nm,q,bs,hdct,sn,sub,ab,col,dd,k0,k1,k2,k3,k5,hC,_⟩:=G.obj k
  grind
 ca:=λ{prog w A E Q s} k ⟨o,h1,h2⟩ q=>by
  exact Zbl k G h1 h2 q
section
variable {X:Cx}
def Zkm:Kh X (.builtin "isinstance") (λxs H Q=>∃a C dx c b,xs=[.ref a,c]/\H a=some (KY a C dx)/\Pr X.K C/\(∃cv,(∀u,RelV c u->u=cv)/\PySem.W.kitOne X.K (.ref C) cv=some b)/\Q (.bl b) H):=by
 intro pins s σ H xs us Q I rv h;obtain⟨a,C,dx,c,b,rfl,ha,G,⟨cv,hcv,e⟩,q⟩:=h;cases rv with
 |cons r rr=>
  cases rr with
  |cons r' rr'=>
   cases rr'
   obtain rfl:=r;cases hcv _ r'
   obtain⟨⟨o,h1,h2,_⟩,_⟩:=(I.hok a _ ha);exact QJ (Zo3 G) I.kIn ⟨o,h1,(Q2 Prod.fst h2)⟩ e (λz=>nomatch z) λtk=>⟨.bl b,H,I.tok tk,rfl,q⟩
def Bz{K}(hK:autoParam (X.K=K) au_0):Kh X (.builtin "isinstance") (λxs H Q=>∃a C dx c b,xs=[.ref a,c]/\H a=some (KY a C dx)/\Pr K C/\(∃cv,(∀u,RelV c u->u=cv)/\PySem.W.kitOne K (.ref C) cv=some b)/\Q (.bl b) H):=by
 subst hK;exact Zkm
end
def A1{H H'}{h h1 h2}(u:Un fs [] H H' h h1)(k:KG fs ex h1 h2)(hx:∀b∈ex,h.get? b=none):Un fs [] H H' h h2:=by
 have out:∀b o,h.get? b=some o->b∉ex:=λb o q z=>by rw[hx b z]at q;cases q
 refine⟨λb o q n nf ne=>k.keep b o (u.keep b o q n nf ne) nf (out b o q),λb o q n hf ne=>?_,u.free,λb o q ne=>?_,u.tups,u.frzs,u.tbls⟩
 ·obtain⟨sl,q1⟩:=u.slot b o q n hf ne;obtain⟨sl2,q2⟩:=k.slot b _ q1 (out b o q)
  grind
 ·obtain⟨o1,q1⟩:=u.there b o q ne;obtain⟨sl2,q2⟩:=k.slot b _ q1 (out b o q)
  grind
noncomputable def TU(X:Cx)(a:Addr):Cx:={X with A:=X.A.mark (some<|.ref a),calm:=false,xe:=λ_ _=>False}
section
variable {X:Cx}{pins pins1:Ym}{σ:L2.St}{H H':Hp}{s s':Shared}{a T C:Addr}{D:Ends}{h0:ExceptHandler}
def Zas(o:X.Ok):(TU X a).Ok:=⟨o.mod,o.kind,o.glob,o.blt,o.above,o.inj,o.has,o.cab,(λz=>nomatch z),o.frames,o.stk,o.exf,o.bs,o.bsz,o.noex,o.exfs,o.funs,o.frf⟩
def OA(I:Inv X pins σ H s):Inv (TU X a) pins σ H s:=⟨Zas I.ok,I.os,I.bare,I.base,I.loc,I.cell,I.free,I.freeC,I.pin,I.hok,I.len⟩
def Zhw(o:X.Ok)(I:Inv (TU X a) pins σ H s):Inv X pins σ H s:=⟨o,I.os,I.bare,I.base,I.loc,I.cell,I.free,I.freeC,I.pin,I.hok,I.len⟩
def Zg4{h'}{tk}(I:Inv X pins σ H s)(hN:X.N.Nodup)(hi:X.N[i]?=some n)(hk:X.env.scope.names.lookup n=some .local)(hm:∀(i:Nat) x v,X.N[i]?=some x->σ[i]?=some (some v)->Vis X.env.scope x->∃u,RelV v u/\Look X.env s.heap m x u)(hn:s.heap.Ns X.env.locals m)(hn':h'.Ns X.env.locals (λx=>if x=n then v else m x))(hs:Heap.SameBut X.env.locals s.heap h'):Inv X pins (σ.set i none) H {s with heap:=h',toks:=tk}:=by
 have cne:=I.cne;have nl:∀{b o},X.s₀.heap.get? b=some o->b≠X.env.locals:=λe=>Qk (Qq (WT e) I.ok.above);refine⟨I.ok,I.os,I.bare,⟨λb o e n hb hx=>(hs.2 b<|nl e).trans (I.base.keep b o e n hb hx),λb o e n hb hx=>?_,I.base.free,λb o e hx=>?_,I.base.tups,I.base.frzs,I.base.tbls⟩,⟨_,hn',λj y v' e1 e2 e3=>?_⟩,λy c e=>?_,I.free,I.freeC,λp hp=>?_,λb ob e=>?_,by simpa using I.len⟩
 ·obtain⟨sl,e1⟩:=I.base.slot b o e n hb hx;exact⟨sl,(hs.2 b<|nl e).trans e1⟩
 ·obtain⟨o',e1⟩:=I.base.there b o e hx;exact⟨o',(hs.2 b<|nl e).trans e1⟩
 ·by_cases hj:j=i
  ·grind
  ·rw[J0 (Ne.symm hj)]at e2;obtain⟨u',r',q⟩:=hm j y v' e1 e2 e3;refine⟨u',r',?_⟩;rcases q with⟨k,e⟩|⟨k,c,e,z⟩
   ·have hy:y≠n:=λz=>hj (AN hN e1 (z▸hi));exact .inl ⟨k,by simp[hy,e]⟩
   ·exact .inr ⟨k,c,e,z.sameBut hs (cne y c e)⟩
 ·obtain⟨w',z⟩:=I.cell y c e;exact⟨w',z.sameBut hs (cne y c e)⟩
 ·obtain⟨e,n,ne,nf,d⟩:=I.pin p hp;exact⟨(hs.2 p.1 ne).trans e,n,ne,nf,d⟩
 ·refine(I.hok b ob e).stay (λc u hc q=>(hs.2 c ?_).trans q) (λ_ q=>q) λ_ _ q=>q;rintro rfl;have hf:=I.free;rcases hc with z|z
  ·rw[←z,hf]at e;cases e
  ·rw[hf]at z;cases z
end
noncomputable def LH(i:Nat)(D:Ends):Ends:={nx:=λσ H=>D.nx (σ.set i none) H,rt:=D.rt,bk:=λσ H=>D.bk (σ.set i none) H,ct:=λσ H=>D.ct (σ.set i none) H}
noncomputable def hx(K:Yj)(C0:Addr)(i:Nat)(ts:TS)(D:Ends):L2.St->XK:=λσ c dx H=>∃C,c=.ref C/\PySem.W.exmOne K (.ref C) (.ref C0)=some true/\
 ∀a,H a=none->ts (LH i D) (σ.set i<|some<|.ref a) (upd H a<|KY a C dx)
def E1(CX:CXT)(X:Cx)(E:L2.St->XK):Prop:=∀(pins:Ym) (σ:L2.St) (H:Hp) (s:Shared) (e:Value) (s':Shared),Inv X pins σ H s->CX X.stack H s (E σ) e s'->X.xe e s'
noncomputable def Xl(mg:Yn)(x:Str):Addr:=match mg x with
 |some (.ref C)=>C
 |_=>0
def Dn(h:mg x=some (.ref C)):Xl mg x=C:=by unfold Xl;rw[h]
def Pn{v pos}(h:∃u,X.mg x=some u/\RelV v u)(hg:autoParam (Gl X x) au_0)(hd:autoParam ((x==("__debug__" : Str))=false) au_1):PE X (.Name x pos) (tC v):=by
 obtain⟨u,h1,h2⟩:=h;exact Mb hg h1 h2 hd
def FC{C pos}(h:X.mg x=some (.ref C))(hg:autoParam (Gl X x) au_0)(hd:autoParam ((x==("__debug__" : Str))=false) au_1):PE X (.Name x pos) (tC<|.ref C):=Mb hg h rfl hd
end ExcR
namespace Own
open PySem PySem.Spec PyProof.Rows L2 M
section
variable {X:Cx}{pins:Ym}{σ:L2.St}{H:Hp}{s:Shared}
def Gm{p:Int×Int}{its}(r:Vals [V.int p.1,V.int p.2] its):∃t1 t2,its=[.int p.1 t1,.int p.2 t2]:=by
 cases r with
 |cons r1 rr=>
  cases rr with
  |cons r2 r3=>
   cases r3
   obtain⟨t1,rfl⟩:=r1;obtain⟨t2,rfl⟩:=r2
   grind
def Zfe{x y p q u v}(I:Inv X pins σ H s)(hu:A.units<cLine)(rx:RelV x u)(ry:RelV y v)(hp:Po H x p)(hq:Po H y q):SeqAt.EqAt A s u v (decide (p=q)):=by
 obtain⟨a,rfl,ha⟩:=hp;obtain⟨b,rfl,hb⟩:=hq;obtain rfl:=rx;obtain rfl:=ry;by_cases hab:a=b
 ·subst hab;rw[ha]at hb
  have e:p=q:=by
   injection hb with hb;injection hb with hb;injection hb with h1 h2;injection h2 with h2 _;exact Prod.ext (V.int.inj h1) (V.int.inj h2)
  rw[WI e];exact SeqAt.EqAt.same _
 ·obtain⟨_,its,r1,t1⟩:=(I.hok a _ ha);obtain⟨_,jts,r2,t2⟩:=(I.hok b _ hb);obtain⟨k1,k2,rfl⟩:=Gm r1;obtain⟨k3,k4,rfl⟩:=Gm r2
  have h:=SeqAt.RcAt.tuples (e:=λj=>if j=0 then p.1==q.1 else p.2==q.2) t1 t2 hu (λj h1 h2=>by
   have hj:j=0\/j=1:=by
    have h1':j<2:=h1;omega
   rcases hj with rfl|rfl
   ·exact SeqAt.EqAt.int_int _ _ _ _
   ·exact SeqAt.EqAt.int_int _ _ _ _)
  have e:((List.range (min ([Value.int p.1 k1,Value.int p.2 k2].toArray).size ([Value.int q.1 k3,Value.int q.2 k4].toArray).size)).all (λj=>if j=0 then p.1==q.1 else p.2==q.2)&&([Value.int p.1 k1,Value.int p.2 k2].toArray).size==([Value.int q.1 k3,Value.int q.2 k4].toArray).size)=decide (p=q):=by
   show((List.range 2).all (λj=>if j=0 then p.1==q.1 else p.2==q.2)&&true)=decide (p=q);rw[Bool.and_true];have e2:(List.range 2).all (λj=>if j=0 then p.1==q.1 else p.2==q.2)=((p.1==q.1)&&(p.2==q.2)):=by simp[List.range,List.range.loop]
   rw[e2];by_cases h1:p.1=q.1
   ·by_cases h2:p.2=q.2
    ·rw[WI (Prod.ext h1 h2)];simp[h1,h2]
    ·rw[Qv (λz=>h2 (by rw[z]))];simp[h2]
   ·rw[Qv (λz=>h1 (by rw[z]))];simp[h1]
  rw[e]at h;exact SeqAt.EqAt.of_refs hab h
noncomputable def eP(H:Hp)(q:Int×Int)(u:Value):Bool:=match u with
 | .ref a=>(match H a with
  |some (.tup [.int i,.int j])=>decide ((i,j)=q)
  |_=>false)
 |_=>false
def HD{p q}(h:Po H v p)(r:RelV v u):eP H q u=decide (p=q):=by
 obtain⟨a,rfl,ha⟩:=h;obtain rfl:=r;unfold eP;simp_all
theorem EB:∀{vs us}{ps:Yk},Vals vs us->LV Po H vs ps->us.any (eP H q)=decide (q∈ps)
 |_,_,[],.nil,_=>rfl
 |_,_,_::_,.nil,h|v::vs,u::us,[],.cons _ _,h=>absurd h.1 (by simp)
 |v::vs,u::us,p::ps,.cons r t,h=>by
  obtain⟨v',e,hv⟩:=h.2 0 p rfl;cases e
  have ht:LV Po H vs ps:=⟨by simpa using h.1,λi x e=>h.2 (i+1) x e⟩;rw[VT,HD hv r,EB t ht];by_cases e1:p=q
  ·grind
  ·grind
noncomputable def SQ(neg:Bool):R2:=λx y H Q=>∃(l:Addr) (ps:Yk) (q:Int×Int),y=.ref l/\Po H x q/\LAt Po H l ps/\Q (.bl (if neg then !decide (q∈ps)else decide (q∈ps))) H
theorem Aq{x v q}(I:Inv X pins σ H s)(hu:A.units<cLine)(rx:RelV x v)(hx:Po H x q):∀{vs us}{ps:Yk},Vals vs us->LV Po H vs ps->∀u∈us,SeqAt.EqAt A s u v (eP H q u)
 |_,_,_,.nil,_,u,hu'=>by cases hu'
 |w::vs,u::us,[],.cons _ _,h,_,_=>absurd h.1 (by simp)
 |w::vs,u::us,p::ps,.cons r t,h,u',hu'=>by
  obtain⟨w',e,hw⟩:=h.2 0 p rfl;cases e
  have ht:LV Po H vs ps:=⟨by simpa using h.1,λi x e=>h.2 (i+1) x e⟩;rcases Qa.mp hu' with rfl|hu'
  ·rw[HD hw r];exact Zfe I hu r rx hw hx
  ·exact Aq I hu rx hx t ht u' hu'
def Zei(hu:X.A.in1.units<cLine):OpR X (compareOp .In) (SQ false):=by
 intro pins s σ H x y v u Q I rx ry h;obtain⟨l,ps,q,rfl,hx,⟨vs,hl,hv⟩,k⟩:=h;cases ry
 obtain⟨its,r,pl,hz⟩:=I.list (SqL.of hl);refine SeqAt.in_listAt (eP H q) pl.isList (λw hw=>Aq I hu rx hx r hv w (by grind)) ⟨.bl _,H,I,rfl,?_⟩;rwa[show its.toArray.any (eP H q)=its.any (eP H q) by simp,EB r hv]
def Zbi(hu:X.A.in1.units<cLine):OpR X (compareOp .NotIn) (SQ true):=by
 intro pins s σ H x y v u Q I rx ry h;obtain⟨l,ps,q,rfl,hx,⟨vs,hl,hv⟩,k⟩:=h;cases ry
 obtain⟨its,r,pl,hz⟩:=I.list (SqL.of hl);refine SeqAt.notIn_listAt (eP H q) pl.isList (λw hw=>Aq I hu rx hx r hv w (by grind)) ⟨.bl _,H,I,rfl,?_⟩;rwa[show its.toArray.any (eP H q)=its.any (eP H q) by simp,EB r hv]
end
end Own
namespace M
open PySem PySem.Spec PyProof.Rows L2 Own
section
variable {α:Type}{R:Hp->V->α->Prop}{H:Hp}
noncomputable def pick(c:α->Bool)(d:V×α):Option V:=if c d.2=true then some d.1 else none
end
end M
namespace Own
open PySem PySem.Spec PyProof.Rows L2
section
variable {X:Cx}{K:Yj}
def Zpn(hc:X.calm=true)(hK:autoParam (X.K=K) au_0):Kh X (.builtin "sum") (λxs H Q=>∃(p:Addr) (ns:Yl),xs=[.ref p]/\SqL K H p (ns.map V.int)/\Q (.int ns.sum) H):=by
 subst hK;intro pins s σ H xs us Q I rv h;obtain⟨p,ns,rfl,hS,q⟩:=h;obtain⟨u,rfl,ru⟩:=rv.one;obtain rfl:=ru;obtain⟨its,r,pl,_⟩:=I.list hS;have hi:IntsAre its ns:=by simpa using F5 r
 obtain⟨ys,hx⟩:=hi.allInts.items;have hl:=pl.isList;rw[hx]at hl;refine sum_intListG (I.ok.hd hc) hl λh' tk t' hk=>?_
 have e1:ns=ys.toList.map (·.1):=by
  rw[←nums_intItems,←hx];exact hi.numsOf.symm
 have e2:preSum (numAt ys) ys.size=ns.sum:=by
  rw[preSum_eq,List.take_of_length_le (by simp),e1]
 rw[e2];exact⟨.int ns.sum,H,I.kept hk,⟨_,rfl⟩,q⟩
def Zb1(hc:X.calm=true)(hK:autoParam (X.K=K) au_0):Kh X (.builtin "min") (λxs H Q=>∃(p:Addr) (ns:Yl),xs=[.ref p]/\SqL K H p (ns.map V.int)/\0<ns.length/\∀M,M∈ns->(∀a∈ns,M<=a)->Q (.int M) H):=by
 subst hK;intro pins s σ H xs us Q I rv h;obtain⟨p,ns,rfl,hS,hne,q⟩:=h;obtain⟨u,rfl,ru⟩:=rv.one;obtain rfl:=ru;obtain⟨its,r,pl,_⟩:=I.list hS;have hi:IntsAre its ns:=by simpa using F5 r
 obtain⟨ys,e⟩:=hi.allInts.items;have hl:=pl.isList;rw[e]at hl;have hns:ns=ys.toList.map (·.1):=by rw[←hi.numsOf,←nums_intItems,←e]
 have hsz:0<ys.size:=by
  have h3:=hne;rw[hns,WG,QH]at h3;exact h3
 refine min_intList (I.ok.hd hc) hl hsz λv h' tk hv hk=>?_;obtain⟨t,rfl⟩:=intItems_at hv;obtain⟨h1,h2⟩:=argBest_lt (numAt ys) (ys.size-1);refine⟨.int _,H,I.kept hk,⟨_,rfl⟩,q _ ?_ λa ha=>?_⟩
 ·rw[hns,numAt_eq];exact getD_mem (by rw[WG,QH];omega)
 ·rw[hns]at ha;obtain⟨j,hj,rfl⟩:=Qt.mp ha;rw[WG,QH]at hj
  have:=h2 j (by omega)
  rw[numAt_eq ys j]at this
  grind
theorem GE:∀{bs}{us:Yr},Vals (bs.map V.bl) us->LSm.BoolsAre us bs
 |[],_,.nil=>.nil
 |b::r,_,.cons h t=>by
  cases h
  exact .cons b (GE t)
def Zpq(hc:X.calm=true)(hK:autoParam (X.K=K) au_0):Kh X (.builtin "any") (λxs H Q=>∃(p:Addr) (bs:List Bool),xs=[.ref p]/\SqL K H p (bs.map V.bl)/\Q (.bl<|bs.any id) H):=by
 subst hK;intro pins s σ H xs us Q I rv h;obtain⟨p,bs,rfl,hS,q⟩:=h;obtain⟨u,rfl,ru⟩:=rv.one;obtain rfl:=ru;obtain⟨its,r,pl,_⟩:=I.list hS;have hb:=GE r;have hl:=pl.isList;have hlt:p<s.heap.objs.size:=by obtain⟨_,e,_⟩:=hl;exact WT e
 refine call_any_walk (wpAny_pyIter_list hl ?_)
 refine⟨s.heap.objs.size,[s.heap.objs.size,p],[s.heap.objs.size],its.toArray.size,_,_,λi=>(bs[i]?).getD false,rfl,Walks.list (A:=X.A.in1) (I.ok.hd hc) _ p (Qk hlt) its.toArray,
  ⟨⟨_,WX _ rfl,rfl,rfl⟩,hl.push _⟩,λi v s' Q' E' hP hQ=>?_,λh' tk hk=>?_⟩
 ·obtain⟨b,e,rfl⟩:=hb.get i v (by grind);simp only[e,Option.getD_some]at hQ;exact Vw hQ
 ·have e:((List.range its.toArray.size).any λi=>(bs[i]?).getD false)=bs.any id:=by
   rw[Qr,hb.length];exact LSm.range_any bs
  rw[e];exact⟨.bl (bs.any id),H,I.kept (LSm.kept_iter hk),rfl,q⟩
noncomputable def Ar(K:Yj)(neg:Bool):R2:=λx y H Q=>∃(p q:Addr) (xs:List V),x=.ref p/\y=.ref q/\SqL K H p xs/\SqL K H q []/\Q (.bl (if neg then !xs.isEmpty else xs.isEmpty)) H
def OD(hu:X.A.units<cLine)(hK:autoParam (X.K=K) au_0):OpR X (compareOp .Eq) (Ar K false):=by
 subst hK;intro pins s σ H x y v u Q I rx ry h;obtain⟨p,q,xs,rfl,rfl,hp,hq,k⟩:=h;obtain rfl:=rx;obtain rfl:=ry;obtain⟨us,r1,p1,_⟩:=I.list hp;obtain⟨ws,r2,p2,_⟩:=I.list hq;have l1:=r1.length;have l2:0=ws.length:=r2.length;have k':=k;by_cases e:xs.length=0
 ·refine SeqAt.eq_listAt (e:=λ_=>true) p1.isList p2.isList (by simp;omega) hu (λj h1 h2=>by simp at h2;omega) ⟨.bl xs.isEmpty,H,I,?_,k'⟩;show _=Value.bool xs.isEmpty
  grind
 ·refine SeqAt.eq_list_lengthsAt p1.isList p2.isList (by simp;omega) hu ⟨.bl xs.isEmpty,H,I,?_,k'⟩;cases xs with
  |nil=>exact absurd rfl e
  |cons a r=>rfl
def Ag(hu:X.A.units<cLine)(hK:autoParam (X.K=K) au_0):OpR X (compareOp .NotEq) (Ar K true):=by
 subst hK;intro pins s σ H x y v u Q I rx ry h;obtain⟨p,q,xs,rfl,rfl,hp,hq,k⟩:=h;obtain rfl:=rx;obtain rfl:=ry;obtain⟨us,r1,p1,_⟩:=I.list hp;obtain⟨ws,r2,p2,_⟩:=I.list hq;have l1:=r1.length;have l2:0=ws.length:=r2.length;have k':=k;by_cases e:xs.length=0
 ·refine SeqAt.RcNeAt.lists (e:=λ_=>true) p1.isList p2.isList (by simp;omega) hu (λj h1 h2=>by simp at h2;omega) _ _ _ _ ⟨.bl (!xs.isEmpty),H,I,?_,k'⟩;show _=Value.bool (!xs.isEmpty)
  grind
 ·refine SeqAt.RcNeAt.lists_lengths p1.isList p2.isList (by simp;omega) hu _ _ _ _ ⟨.bl (!xs.isEmpty),H,I,?_,k'⟩;cases xs with
  |nil=>exact absurd rfl e
  |cons a r=>rfl
end
end Own
namespace M
open PySem PySem.Spec PyProof.Rows L2 Own
def SL(ws:Yk)(r:Yl):Prop:=∀(i:Nat) (x y:Int),r[i]?=some x->r[i+1]?=some y->(x,y)∈ws
structure Ring (hs:Yl) (ws:Yk) (r:Yl):Prop where
 two:2<=r.length
 nodup:r.Nodup
 sub:∀x∈r,x∈hs
 chain:SL ws r
 last:∀x y,r[0]?=some x->r[r.length-1]?=some y->(y,x)∈ws
theorem Nn:∀{xs ys:Yl},xs.Nodup->(∀x∈xs,x∈ys)->xs.length<=ys.length
 |[],_,_,_=>QY _
 |x::xs,ys,nd,h=>by
  obtain⟨h1,h2⟩:=Q3.mp nd;have ih:=Nn h2 λz hz=>(List.mem_erase_of_ne (λe:z=x=>h1 (e▸hz))).mpr (h z<|Qe _ hz)
  grind
def Of(hu:∀q∈ws,q.1≠q.2)(hne:ls≠[])(h:∀x∈ls,∃y∈ls,(y,x)∈ws):∃r,Ring ls ws r:=by
 have grow:∀n r,r≠[]->r.Nodup->(∀x∈r,x∈ls)->SL ws r->ls.length<r.length+n->∃r,Ring ls ws r:=by
  intro n
  induction n with
  |zero=>
   intro r hr nd sub ch hl
   have:=Nn nd sub
   omega
  |succ n ih=>
   intro r hr nd sub ch hl;cases r with
   |nil=>exact absurd rfl hr
   |cons x t=>
    obtain⟨y,hy,hw⟩:=h x (sub x (Qu ..));by_cases hm:y∈x::t
    ·obtain⟨i,hi,e⟩:=Qt.mp hm
     have hi0:i≠0:=λz=>by
      subst z;exact hu _ hw e.symm
     have hlen:((x::t).take (i+1)).length=i+1:=by
      rw[Qm];omega
     refine⟨(x::t).take (i+1),by omega,nd.sublist (Vx _ _),λz hz=>sub z (V2 hz),λk a b h1 h2=>?_,λa b h1 h2=>?_⟩
     ·have hk:k+1<i+1:=by
       have:=(WZ.mp h2).1
       omega
      rw[Vg (by omega)]at h1;rw[Vg hk]at h2;exact ch k a b h1 h2
     ·rw[hlen,Ji,Vg (by omega),WH hi,e]at h2;cases h1
      cases h2
      exact hw
    ·refine ih (y::x::t) (by simp) (Q3.mpr ⟨hm,nd⟩) (λz hz=>?_) (λk a b h1 h2=>?_) (by rw[Qi];omega)
     ·rcases Qa.mp hz with rfl|hz
      ·exact hy
      ·exact sub z hz
     ·cases k with
      |zero=>
       cases h1
       cases h2
       exact hw
      |succ k=>exact ch k a b h1 h2
 obtain⟨x,hx⟩:=VY ls hne;exact grow (ls.length+1) [x] (by simp) (by simp) (λy hy=>by rw[WJ.mp hy];exact hx) (λi a b h1 h2=>by simp at h2) (by show ls.length<1+(ls.length+1);omega)
end M
namespace M
def sl:Yl->Yl->Prop
 |x::xs,y::ys=>x<y\/(x=y/\sl xs ys)
 |_,_=>False
def sl_cons:sl (l::a) (l::b)↔sl a b:=by
 show(l<l\/(l=l/\sl a b))↔sl a b;constructor
 ·simp
 ·simp
theorem Fl:∀{a b} x y,sl a b->sl (a++[x]) (b++[y])
 |[],[],_,_,h|[],_::_,_,_,h|_::_,[],_,_,h=>by unfold sl at h;exact h.elim
 |p::a,q::b,x,y,h=>by
  rw[Vn,Vn];unfold sl at h ⊢;rcases h with h|⟨h1,h2⟩
  ·omega
  ·exact .inr ⟨h1,Fl x y h2⟩
theorem CP:∀{a}{x y:Int},x<y->sl (a++[x]) (a++[y])
 |[],x,y,h=>.inl h
 |p::a,x,y,h=>by
  exact .inr ⟨rfl,CP h⟩
theorem FK:∀{a b c:Yl},sl a b->sl b c->sl a c
 |[],b,c,h,_|_::_,[],_,h,_|_::_,_::_,[],_,h=>by unfold sl at h;exact h.elim
 |x::a,y::b,z::c,h1,h2=>by
  unfold sl at h1 h2 ⊢;rcases h1 with h1|⟨h1,k1⟩
  ·omega
  ·rcases h2 with h2|⟨h2,k2⟩
   ·omega
   ·exact .inr ⟨by omega,FK k1 k2⟩
theorem AM:∀{a:Yl},¬sl a a
 |[],h=>by unfold sl at h;exact h
 |x::a,h=>by
  rcases h with h|⟨_,h⟩
  ·omega
  ·exact AM h
noncomputable def Xu(g:Int):Yl->Int
 |[]=>g
 |x::t=>Xu x t
theorem Pi(g:Int):∀a b,Xu g (a++b)=Xu (Xu g a) b
 |[],b=>rfl
 |x::a,b=>Pi x a b
theorem B8(g:Int):∀t,(g::t)[t.length]?=some (Xu g t)
 |[]=>rfl
 |x::t=>by
  exact B8 x t
def Path(C:Int->Prop)(ws:Yk):Int->Yl->Prop
 |_,[]=>True
 |g,x::t=>C x/\(g,x)∈ws/\Path C ws x t
section
variable {C:Int->Prop}{ws:Yk}
theorem path_app:∀{g}{a b:Yl},Path C ws g (a++b)↔Path C ws g a/\Path C ws (Xu g a) b
 |g,[],b=>⟨λh=>⟨trivial,h⟩,λh=>h.2⟩
 |g,x::a,b=>by
  constructor
  ·rintro⟨h1,h2,h3⟩
   have:=path_app.mp h3
   exact⟨⟨h1,h2,this.1⟩,this.2⟩
  ·rintro⟨⟨h1,h2,h3⟩,h4⟩;exact⟨h1,h2,path_app.mpr ⟨h3,h4⟩⟩
theorem NI:∀{g}{t:Yl},Path C ws g t->∀x∈t,C x
 |g,[],_,x,h=>by cases h
 |g,y::t,⟨h1,_,h3⟩,x,h=>by
  rcases Qa.mp h with rfl|h
  ·omega
  ·exact NI h3 x h
theorem Mc:∀{g}{t:Yl},Path C ws g t->SL ws (g::t)
 |g,[],_=>λi x y h1 h2=>by simp at h2
 |g,z::t,⟨h1,h2,h3⟩=>λi x y k1 k2=>by
  cases i with
  |zero=>grind
  |succ i=>exact Mc h3 i x y k1 k2
theorem Oh:∀{g}{t:Yl},SL ws (g::t)->(∀x∈t,C x)->Path C ws g t
 |g,[],_,_=>trivial
 |g,z::t,h,hc=>⟨hc z Qu,h 0 g z rfl rfl,Oh (λi x y k1 k2=>h (i+1) x y k1 k2) λx hx=>hc x (Qe _ hx)⟩
end
def Gr(hs:Yl)(l:Int):Int->Prop:=λx=>x∈hs/\l<x
def Ko(hs:Yl)(ws:Yk)(l:Int)(t:Yl):Prop:=Path (Gr hs l) ws l t/\(Xu l t,l)∈ws
def RF(hs:Yl)(ws:Yk)(l:Int)(r:Yl):Prop:=
 (r=[]/\∀t,¬Ko hs ws l t)\/∃t,r=l::t/\Ko hs ws l t/\∀u,Ko hs ws l u->t.length<u.length\/(t.length=u.length/\(t=u\/sl t u))
structure Lev (hs:Yl) (ws:Yk) (l:Int) (k:Nat) (ps:List (Yl)) (ls:Yl):Prop where
 way:∀p∈ps,p.length=k/\Path (Gr hs l) ws l p
 srt:ps.Pairwise sl
 lin:∀h∈ls,Gr hs l h
 lsrt:ls.Pairwise (· < ·)
 cover:∀t,t.length<=k->Path (Gr hs l) ws l t->Xu l t∉ls
 first:∀t,t.length=k->Path (Gr hs l) ws l t->(∃p∈ps,Xu l p=Xu l t/\(p=t\/sl p t))\/∃u,u.length<k/\Path (Gr hs l) ws l u/\Xu l u=Xu l t
 none:∀t,t.length<k->¬Ko hs ws l t
 comp:∀h,Gr hs l h->h∉ls->∃t,t.length<=k/\Path (Gr hs l) ws l t/\Xu l t=h
section
variable {hs:Yl}{ws:Yk}{l:Int}{k:Nat}{ps:List (Yl)}{ls:Yl}
def Lev.start (hl:ls.Pairwise (· < ·)) (hm:∀h,h∈ls↔Gr hs l h):Lev hs ws l 0 [[]] ls:=by
 have nil:∀t:Yl,t.length=0->t=[]:=λt h=>QN.mp h;refine⟨λp hp=>?_,by simp,λh hh=>(hm h).mp hh,hl,λt ht _ h=>?_,λt ht _=>.inl ⟨[],by simp,by rw[nil t ht],.inl (nil t ht).symm⟩,λt ht=>by omega,λh hh hn=>absurd ((hm h).mpr hh) hn⟩
 ·rw[WJ.mp hp];trivial
 ·rw[nil t (by omega)]at h
  have:=((hm _).mp h).2
  exact absurd this (by show ¬l<l;omega)
def Lev.found (L:Lev hs ws l k ps ls) {p i} (hi:i<ps.length) (ep:ps[i]=p) (hc:(Xu l p,l)∈ws) (hf:∀j hj,j<i->(Xu l ps[j],l)∉ws):RF hs ws l (l::p):=by
 have hp:p∈ps:=by rw[←ep];exact Qf hi
 obtain⟨w1,w2⟩:=L.way p hp;refine .inr ⟨p,rfl,⟨w2,hc⟩,λu hu=>?_⟩;by_cases h1:u.length<k
 ·exact absurd hu (L.none u h1)
 ·by_cases h2:u.length=k
  ·rcases L.first u h2 hu.1 with⟨q,hq,e1,e2⟩|⟨v,v1,v2,v3⟩
   ·refine .inr ⟨by omega,?_⟩;obtain⟨j,hj,ej⟩:=Qt.mp hq;have hcq:(Xu l ps[j],l)∈ws:=by rw[ej,e1];exact hu.2
    have hij:=Nat.le_of_not_lt λz=>hf j hj z hcq
    have hpq:p=q\/sl p q:=by
     by_cases e:i=j
     ·grind
     ·have:=Qo.mp L.srt i j hi hj (by omega)
      rw[ep,ej]at this;exact .inr this
    rcases hpq with rfl|hpq
    ·exact e2
    ·rcases e2 with rfl|e2
     ·exact .inr hpq
     ·exact .inr (FK hpq e2)
   ·exact absurd ⟨v2,by rw[v3];exact hu.2⟩ (L.none v v1)
  ·exact .inl (by omega)
def Lev.none_here (L:Lev hs ws l k ps ls) (h:∀p∈ps,(Xu l p,l)∉ws):∀t,t.length<k+1->¬Ko hs ws l t:=λt ht hc=>by
 by_cases h1:t.length<k
 ·exact L.none t h1 hc
 ·rcases L.first t (by omega) hc.1 with⟨q,hq,e1,e2⟩|⟨v,v1,v2,v3⟩
  ·exact h q hq (by rw[e1];exact hc.2)
  ·exact L.none v v1 ⟨v2,by rw[v3];exact hc.2⟩
def Lev.over (L:Lev hs ws l k [] ls):RF hs ws l []:=by
 refine .inl ⟨rfl,?_⟩
 have early:∀n t,t.length=n->Path (Gr hs l) ws l t->∃u,u.length<k/\Path (Gr hs l) ws l u/\Xu l u=Xu l t:=by
  intro n
  induction n with
  |zero=>
   intro t ht hp;by_cases hk:0<k
   ·exact⟨t,by omega,hp,rfl⟩
   ·rcases L.first t (by omega) hp with⟨q,hq,_⟩|⟨v,v1,_⟩
    ·cases hq
    ·omega
  |succ n ih=>
   intro t ht hp;have ne:t≠[]:=λz=>by rw[z]at ht;cases ht
   have et:=(QZ ne).symm;generalize t.getLast ne=x at et;generalize t.dropLast=s at et;subst et;obtain⟨p1,p2⟩:=path_app.mp hp;obtain⟨u,u1,u2,u3⟩:=ih s (by simpa using ht) p1;have pu:=path_app.mpr ⟨u2,by rw[u3];exact p2⟩;have lu:Xu l (u++[x])=Xu l (s++[x]):=by rw[Pi,Pi];rfl
   by_cases h1:(u++[x]).length<k
   ·exact⟨_,h1,pu,lu⟩
   ·rcases L.first (u++[x]) (by grind) pu with⟨q,hq,_⟩|⟨v,v1,v2,v3⟩
    ·cases hq
    ·exact⟨v,v1,v2,v3.trans lu⟩
 intro t hc;obtain⟨u,u1,u2,u3⟩:=early t.length t rfl hc.1;exact L.none u u1 ⟨u2,by rw[u3];exact hc.2⟩
structure LG (ws:Yk) (l:Int) (P:Yl->Int->Prop) (lg:List (Yl)):Prop where
 mem:∀q∈lg,∃p h,P p h/\q=p++[h]/\(Xu l p,h)∈ws
 srt:lg.Pairwise sl
 has:∀p h,P p h->(Xu l p,h)∈ws->∃p',p'++[h]∈lg/\(p'=p\/sl p' p)
def Lev.next (L:Lev hs ws l k ps ls) (hn:∀p∈ps,(Xu l p,l)∉ws) (G:LG ws l (λp h=>p∈ps/\h∈ls) lg)
  (e:ls'=ls.filter λh=>decide (¬h∈lg.map (Xu l))):Lev hs ws l (k+1) lg ls':=by
 have mem':∀h,h∈ls'↔h∈ls/\¬h∈lg.map (Xu l):=λh=>by rw[e,Q6,Jr]
 have way':∀q∈lg,q.length=k+1/\Path (Gr hs l) ws l q:=λq hq=>by
  obtain⟨p,h,⟨h1,h2⟩,rfl,h3⟩:=G.mem q hq;obtain⟨w1,w2⟩:=L.way p h1;exact⟨by simp[w1],path_app.mpr ⟨w2,L.lin h h2,h3,trivial⟩⟩
 have reach:∀s x,s.length=k->Path (Gr hs l) ws l s->Gr hs l x->(Xu l s,x)∈ws->x∈ls->∃p∈ps,Xu l p=Xu l s/\(p=s\/sl p s):=λs x h1 h2 h3 h4 h5=>by
  rcases L.first s h1 h2 with z|⟨v,v1,v2,v3⟩
  ·exact z
  ·have:=L.cover (v++[x]) (by simp;omega) (path_app.mpr ⟨v2,h3,by rw[v3];exact h4,trivial⟩)
   rw[Pi]at this;exact absurd h5 this
 refine⟨way',G.srt,λh hh=>L.lin h ((mem' h).mp hh).1,?_,λt ht hp hl=>?_,λt ht hp=>?_,L.none_here hn,λh hg hnl=>?_⟩
 ·rw[e];exact L.lsrt.filter _
 ·obtain⟨m1,m2⟩:=(mem' _).mp hl;by_cases h1:t.length<=k
  ·exact L.cover t h1 hp m1
  ·have ne:t≠[]:=λz=>by rw[z]at h1;simp at h1
   have et:=(QZ ne).symm;generalize t.getLast ne=x at et;generalize t.dropLast=s at et;subst et;obtain⟨p1,p2,p3,_⟩:=path_app.mp hp;rw[Pi]at m1 m2;obtain⟨p,hp',e1,_⟩:=reach s x (by simp at ht h1;omega) p1 p2 p3 m1;obtain⟨p',k1,_⟩:=G.has p x ⟨hp',m1⟩ (by rw[e1];exact p3);exact m2 (Qp.mpr ⟨_,k1,by rw[Pi];rfl⟩)
 ·have ne:t≠[]:=λz=>by rw[z]at ht;simp at ht
  have et:=(QZ ne).symm;generalize t.getLast ne=x at et;generalize t.dropLast=s at et;subst et;obtain⟨p1,p2,p3,_⟩:=path_app.mp hp;have hs':s.length=k:=by simpa using ht
  by_cases hx:x∈ls
  ·obtain⟨p,hp',e1,e2⟩:=reach s x hs' p1 p2 p3 hx;obtain⟨p',k1,k2⟩:=G.has p x ⟨hp',hx⟩ (by rw[e1];exact p3);refine .inl ⟨_,k1,by rw[Pi,Pi];rfl,?_⟩
   have:p'=s\/sl p' s:=by
    rcases k2 with rfl|k2
    ·exact e2
    ·rcases e2 with rfl|e2
     ·exact .inr k2
     ·exact .inr (FK k2 e2)
   rcases this with rfl|h
   ·exact .inl rfl
   ·exact .inr (Fl x x h)
  ·obtain⟨u,u1,u2,u3⟩:=L.comp x p2 hx;exact .inr ⟨u,by omega,u2,by rw[u3,Pi];rfl⟩
 ·by_cases hx:h∈ls
  ·have:=Qj λz=>hnl ((mem' h).mpr ⟨hx,z⟩)
   obtain⟨q,hq,e1⟩:=Qp.mp this;obtain⟨w1,w2⟩:=way' q hq;exact⟨q,by omega,w2,e1⟩
  ·obtain⟨u,u1,u2,u3⟩:=L.comp h hg hx;exact⟨u,by omega,u2,u3⟩
end
def FR(hs:Yl)(ws:Yk)(r:Yl):Prop:=
 (r=[]/\∀l∈hs,∀t,¬Ko hs ws l t)\/∃l t,r=l::t/\l∈hs/\Ko hs ws l t/\∀m∈hs,∀u,Ko hs ws m u->t.length<u.length\/(t.length=u.length/\(l<m\/(l=m/\(t=u\/sl t u))))
theorem LZ:∀(r:Yl),r≠[]->∃i,∃h:i<r.length,∀x∈r,r[i]<=x
 |[],h=>absurd rfl h
 |[a],_=>⟨0,by simp,λx hx=>by rw[WJ.mp hx];exact Int.le_refl _⟩
 |a::b::r,_=>by
  obtain⟨i,hi,h⟩:=LZ (b::r) (by simp);by_cases c:a<=(b::r)[i]
  ·refine⟨0,by simp,λx hx=>?_⟩;rcases Qa.mp hx with rfl|hx
   ·exact Int.le_refl _
   ·grind
  ·refine⟨i+1,by simpa using hi,λx hx=>?_⟩;have e:(a::b::r)[i+1]'(by grind)=(b::r)[i]:=rfl;rcases Qa.mp hx with rfl|hx
   ·omega
   ·exact h x hx
def IT(r:Yl){i j}(hi:i<=r.length):(r.drop i++r.take i)[j]?=if i+j<r.length then r[i+j]? else if j<r.length then r[i+j-r.length]? else none:=by grind
def Zdv(R:Ring hs ws r):∃l∈hs,∃t,Ko hs ws l t/\t.length+1=r.length:=by
 have two:=R.two;obtain⟨i,hi,hmin⟩:=LZ r (λz=>by rw[z]at two;simp at two);have erot:r.drop i++r.take i=r[i]::(r.drop (i+1)++r.take i):=by rw[VX hi];rfl
 have hlen:(r.drop (i+1)++r.take i).length+1=r.length:=by rw[WR,List.length_drop,Qm];omega
 have ch:SL ws (r[i]::(r.drop (i+1)++r.take i)):=by
  rw[←erot];intro j x y h1 h2;rw[IT r (by omega)]at h1 h2;by_cases c1:i+(j+1)<r.length
  ·rw[WO c1]at h2;rw[WO (by omega)]at h1;exact R.chain (i+j) x y h1 h2
  ·rw[WN c1]at h2;by_cases c2:j+1<r.length
   ·rw[WO c2]at h2;by_cases c3:i+j<r.length
    ·rw[WO c3]at h1;have e1:i+j=r.length-1:=by omega
     have e2:i+(j+1)-r.length=0:=by omega
     rw[e1]at h1;rw[e2]at h2;exact R.last y x h2 h1
    ·rw[WN c3,WO (by omega)]at h1;have e:i+(j+1)-r.length=(i+j-r.length)+1:=by omega
     rw[e]at h2;exact R.chain _ x y h1 h2
   ·rw[WN c2]at h2;cases h2
 refine⟨r[i],R.sub _ (Qf hi),r.drop (i+1)++r.take i,⟨Oh ch λx hx=>?_,?_⟩,hlen⟩
 ·have hxr:=(WV.mp hx).elim J9 V2;refine⟨R.sub x hxr,Int.lt_iff_le_and_ne.mpr ⟨hmin x hxr,λz=>?_⟩⟩
  have nd:(r.drop i++r.take i).Nodup:=by
   have:(r.take i++r.drop i).Perm (r.drop i++r.take i):=List.perm_append_comm
   rw[←this.nodup_iff,List.take_append_drop];exact R.nodup
  rw[erot]at nd;exact(Q3.mp nd).1 (by rw[z];exact hx)
 ·have e1:=B8 r[i] (r.drop (i+1)++r.take i);rw[←erot,IT r (by omega)]at e1;have e2:(r.drop (i+1)++r.take i).length=r.length-1:=by omega
  rw[e2]at e1;by_cases c:i=0
  ·subst c;rw[WO (by omega)]at e1;exact R.last _ _ (WH hi) (by simpa using e1)
  ·rw[WN (by omega),WO (by omega)]at e1;have e3:i+(r.length-1)-r.length=i-1:=by omega
   rw[e3]at e1;exact R.chain (i-1) _ _ e1 (by rw[show i-1+1=i by omega];exact WH hi)
theorem GA:∀{t:Yl},¬t.Nodup->∃a x b c,t=a++x::(b++x::c)
 |[],h=>absurd V3 h
 |y::t,h=>by
  by_cases hy:y∈t
  ·obtain⟨b,c,e⟩:=List.append_of_mem hy;exact⟨[],y,b,c,by rw[e];rfl⟩
  ·obtain⟨a,x,b,c,e⟩:=GA λz=>h (Q3.mpr ⟨hy,z⟩)
   grind
def FQ{ws l t}(hu:∀q∈ws,q.1≠q.2)(hl:l∈hs)(hc:Ko hs ws l t)(hmin:∀u,Ko hs ws l u->t.length<=u.length):Ring hs ws (l::t):=by
 have hne:t≠[]:=λz=>by
  have h2:=hc.2;rw[z]at h2;exact hu _ h2 rfl
 have hg:=NI hc.1;refine⟨by have:=V9.mpr hne;simp;omega,Q3.mpr ⟨λz=>absurd (hg l z).2 (by omega),?_⟩,λx hx=>?_,Mc hc.1,λx y h1 h2=>?_⟩
 ·refine Qj λz=>?_;obtain⟨a,x,b,c,e⟩:=GA z;have h1:=hc.1;rw[e]at h1;obtain⟨p1,p2⟩:=path_app.mp h1
  have cl:Ko hs ws l (a++x::c):=by
   refine⟨path_app.mpr ⟨p1,p2.1,p2.2.1,((path_app (a:=x::b)).mp p2).2.2.2⟩,?_⟩
   have e2:Xu l (a++x::c)=Xu l t:=by
    rw[e,Pi,Pi];show Xu x c=Xu x (b++x::c);rw[Pi];rfl
   rw[e2];exact hc.2
  grind
 ·rcases Qa.mp hx with rfl|hx
  ·exact hl
  ·exact(hg x hx).1
 ·cases h1
  simp only[Qi,Ji]at h2;rw[(B8 l t)]at h2;cases h2
  exact hc.2
def FR.none_iff {ws r} (hu:∀q∈ws,q.1≠q.2) (F:FR hs ws r):r=[]↔¬ ∃r,Ring hs ws r:=by
 constructor
 ·rintro rfl ⟨r,R⟩;obtain⟨l,hl,t,hc,_⟩:=Zdv R;rcases F with⟨_,F⟩|⟨_,_,e,_⟩
  ·grind
  ·grind
 ·intro h;rcases F with⟨e,_⟩|⟨l,t,rfl,hl,hc,hm⟩
  ·exact e
  ·refine absurd ⟨_,FQ hu hl hc λu hu'=>?_⟩ h
   grind
def FR.ring {ws r} (hu:∀q∈ws,q.1≠q.2) (F:FR hs ws r) (h:r≠[]):Ring hs ws r/\∃l t,r=l::t/\∀x∈t,l<x:=by
 rcases F with⟨e,_⟩|⟨l,t,rfl,hl,hc,hm⟩
 ·grind
 ·refine⟨FQ hu hl hc λu hu'=>?_,l,t,rfl,λx hx=>(NI hc.1 x hx).2⟩
  grind
def Ta(ws:Yk):Prop:=ws.length<=20/\ws.Nodup/\∀q∈ws,(1<=q.1/\q.1<=10/\1<=q.2/\q.2<=10)/\q.1≠q.2
end M
namespace Pu
open PySem PySem.Spec PyProof.Rows L2 Own
inductive D where
 |int (i:Int)|bl (b:Bool)|non|str (x:Str)|ty (n:String)|tup (ds:List D)|lst (ds:List D)|scr (ns:Yl)|dK (kvs:List (Key×V))|dT (kvs:List (List Key×V))|loc (a:Addr) (d:D)|err (C:Addr)|ref (a:Addr)|ins (C:Addr) (xs:Ys) (ds:List D)|dF (kvs:List (List Key×V))|erM (C:Addr) (r:Yl)|fL (ns:Yl)
mutual
inductive Rp (K:Yj) (H:Hp):D->V->Prop
 |int (i:Int):Rp K H (.int i) (.int i)
 |bl (b:Bool):Rp K H (.bl b) (.bl b)
 |non:Rp K H .non .non
 |str (x:Str):Rp K H (.str x) (.str x)
 |ty (n:String):Rp K H (.ty n) (.ty n)
 |tup {ds:List D} {vs:List V} {a:Addr}:H a=some (.tup vs)->Rps K H ds vs->Rp K H (.tup ds) (.ref a)
 |lst {ds:List D} {vs:List V} {a:Addr}:H a=some (.lst vs)->Rps K H ds vs->Rp K H (.lst ds) (.ref a)
 |scr {ns:Yl} {a:Addr}:SqL K H a (ns.map V.int)->Rp K H (.scr ns) (.ref a)
 |dK {kvs:List (Key×V)} {a:Addr}:H a=some (.dK kvs)->Rp K H (.dK kvs) (.ref a)
 |dT {kvs:List (List Key×V)} {a:Addr}:H a=some (.dT kvs)->Rp K H (.dT kvs) (.ref a)
 |dF {kvs:List (List Key×V)} {o:Obj} {a:Addr}:H a=some (.frz o<|.dT kvs)->Rp K H (.dF kvs) (.ref a)
 |loc {d:D} {a:Addr}:Rp K H d (.ref a)->Rp K H (.loc a d) (.ref a)
 |err {C a:Addr}:H a=some (ExcR.Hz a C)->Rp K H (.err C) (.ref a)
 |ref (a:Addr):Rp K H (.ref a) (.ref a)
 |erM {C a dx l:Addr} {o:Obj} {r:Yl}:H a=some (ExcR.KY a C<|some dx)->H dx=some (.xd [("members",.ref l)])->H l=some (.frz o<|.lst<|r.map V.int)->Rp K H (.erM C r) (.ref a)
 |fL {a:Addr} {o:Obj} {ns:Yl}:H a=some (.frz o<|.lst<|ns.map V.int)->Rp K H (.fL ns) (.ref a)
 |ins {C a dx:Addr} {xs:Ys} {ds:List D} {vs:List V}:H a=some (.ins C dx<|xs.zip vs)->xs.length=vs.length->Rps K H ds vs->Rp K H (.ins C xs ds) (.ref a)
inductive Rps (K:Yj) (H:Hp):List D->List V->Prop
 |nil:Rps K H [] []
 |cons {d:D} {v:V} {ds:List D} {vs:List V}:Rp K H d v->Rps K H ds vs->Rps K H (d::ds) (v::vs)
end
section
variable {K:Yj}{H H':Hp}
def Rp.mono (S:Same H H') {d:D}{v:V}:Rp K H d v->Rp K H' d v:=
 Rp.rec (motive_1:=λd v _=>Rp K H' d v) (motive_2:=λds vs _=>Rps K H' ds vs) .int .bl .non .str .ty (λh _ r=>.tup (S _ _ h) r) (λh _ r=>.lst (S _ _ h) r) (λh=>.scr (S.seq h)) (λh=>.dK (S _ _ h)) (λh=>.dT (S _ _ h)) (λh=>.dF (S _ _ h)) (λ_ h=>.loc h) (λh=>.err (S _ _ h)) .ref (λa b c=>.erM (S _ _ a) (S _ _ b) (S _ _ c)) (λh=>.fL (S _ _ h)) (λh e _ r=>.ins (S _ _ h) e r) .nil λ_ _=>.cons
def Rps.mono (S:Same H H') {ds:List D}:∀{vs:List V},Rps K H ds vs->Rps K H' ds vs:=by
 induction ds with
 |nil=>intro _ h;cases h;exact .nil
 |cons _ _ ih=>intro _ h;cases h with|cons a b=>exact .cons (Rp.mono S a) (ih b)
def Rps.len:∀{ds}{vs:List V},Rps K H ds vs->vs.length=ds.length:=by
 intro ds
 induction ds with
 |nil=>
  intro _ h;cases h
  rfl
 |cons _ _ ih=>
  intro _ h;cases h with
  |cons h r=>
   exact Q2 (· + 1) (ih r)
def Rps.get:∀{ds vs}{i:Nat}{d:D},Rps K H ds vs->ds[i]?=some d->∃v,vs[i]?=some v/\Rp K H d v:=by
 intro ds
 induction ds with
 |nil=>
  intro _ i _ h e;simp at e
 |cons _ _ ih=>
  intro _ i d h e;cases h with
  |cons h r=>
   cases i with
   |zero=>
    simp at e;subst e;exact⟨_,rfl,h⟩
   |succ i=>
    obtain⟨v,h1,h2⟩:=ih r (by simpa using e);exact⟨v,by simpa using h1,h2⟩
def Rps.append:∀{ds es}{vs us:List V},Rps K H ds vs->Rps K H es us->Rps K H (ds++es) (vs++us):=by
 intro ds
 induction ds with
 |nil=>
  intro _ _ _ h s;cases h
  exact s
 |cons _ _ ih=>
  intro _ _ _ h s;cases h with
  |cons h r=>
   exact .cons h (ih r s)
theorem Rps.drop:∀{ds vs} n,Rps K H ds vs->Rps K H (ds.drop n) (vs.drop n)
 |_,_,0,r=>r
 |_,_,_+1,.nil=>.nil
 |_,_,n+1,.cons _ r=>Rps.drop n r
theorem Rps.take:∀{ds vs} n,Rps K H ds vs->Rps K H (ds.take n) (vs.take n)
 |_,_,0,_|_,_,_+1,.nil=>.nil
 |_,_,n+1,.cons h r=>.cons h (Rps.take n r)
end
mutual
noncomputable def imm:D->Bool
 | .tup ds=>KL ds
 | .lst _=>false
 | .scr _=>false
 | .dK _=>false
 | .dT _=>false
 | .loc _ _=>false
 | .err _=>false
 | .erM _ _=>false
 | .ins _ _ _=>false
 |_=>true
noncomputable def KL:List D->Bool
 |[]=>true
 |d::r=>imm d&&KL r
end
open Classical in
noncomputable def off(Z:Addr->Prop)(H:Hp):Hp:=λb=>if Z b then none else H b
section
variable {K:Yj}{H H':Hp}{Z Z':Addr->Prop}
def P9(h:off Z H b=some o):H b=some o/\¬Z b:=by
 unfold off at h;by_cases z:Z b
 ·grind
 ·grind
def XS(h:H b=some o)(z:¬Z b):off Z H b=some o:=by
 unfold off
 grind
def Xx(S:Same H H')(hz:∀b o,H b=some o->¬Z b->¬Z' b):Same (off Z H) (off Z' H'):=λb o h=>by
 obtain⟨h1,h2⟩:=P9 h;exact XS (S b o h1) (hz b o h1 h2)
def off_sub:Same (off Z H) H:=λ_ _ h=>(P9 h).1
def Rp.off (hm:∀b,Z b->Mut (H b)) {d:D}{v:V}:Rp K H d v->imm d=true->Rp K (off Z H) d v:=by
 have g:∀{a o},H a=some o->¬Mut (some o)->Pu.off Z H a=some o:=λh n=>XS h λz=>n (h▸hm _ z);have f:∀{d} {P:Prop},imm d=false->imm d=true->P:=λh e=>by rw[h]at e;cases e
 exact Rp.rec (motive_1:=λd v _=>imm d=true->Rp K (Pu.off Z H) d v) (motive_2:=λds vs _=>KL ds=true->Rps K (Pu.off Z H) ds vs) (λi _=>.int i) (λb _=>.bl b) (λ_=>.non) (λx _=>.str x) (λn _=>.ty n) (λh _ r e=>.tup (g h id) (r<|by unfold imm at e;exact e)) (λ_ _ _=>f (by unfold imm;rfl)) (λ_=>f (by unfold imm;rfl)) (λ_=>f (by unfold imm;rfl)) (λ_=>f (by unfold imm;rfl)) (λh _=>.dF (g h id)) (λ_ _=>f (by unfold imm;rfl)) (λ_=>f (by unfold imm;rfl)) (λa _=>.ref a) (λ_ _ _=>f (by unfold imm;rfl)) (λh _=>.fL (g h id)) (λ_ _ _ _=>f (by unfold imm;rfl)) (λ_=>.nil) (λ_ _ a b e=>by
  unfold KL at e;rw[Q4]at e;exact .cons (a e.1) (b e.2))
def Rps.off (hm:∀b,Z b->Mut (H b)) {ds:List D}:∀{vs:List V},Rps K H ds vs->KL ds=true->Rps K (off Z H) ds vs:=by
 induction ds with
 |nil=>intro _ h _;cases h;exact .nil
 |cons _ _ ih=>
  intro _ h e;unfold KL at e;rw[Q4]at e;cases h with|cons a b=>exact .cons (Rp.off hm a e.1) (ih b e.2)
end
inductive O where
 |lst (ds:List D)|dK (kvs:List (Key×V))|dT (kvs:List (List Key×V))|ins (a C:Addr) (xs:Ys) (cs:List (Addr×List D))|lsA (a:Addr) (ds:List D)|nst (cs:List (Addr×List D))|nsl (a:Addr) (cs:List (Addr×List D))
instance:Coe (List D) O:=⟨O.lst⟩
noncomputable def O.d:O->D
 | .lst ds=>.lst ds | .dK kvs=>.dK kvs | .dT kvs=>.dT kvs | .ins _ C xs cs=>.ins C xs (cs.map λc=>.lst c.2) | .lsA _ ds=>.lst ds | .nst cs=>.tup (cs.map λc=>.lst c.2) | .nsl _ cs=>.lst (cs.map λc=>.lst c.2)
def O.adr (a:Addr):O->Addr->Prop
 | .lst _=>λb=>b=a
 | .dK _=>λb=>b=a
 | .dT _=>λb=>b=a
 | .ins x _ _ cs=>λb=>b=x\/∃c∈cs,b=c.1
 | .lsA x _=>λb=>b=x
 | .nst cs=>λb=>∃c∈cs,b=c.1
 | .nsl x cs=>λb=>b=x\/∃c∈cs,b=c.1
def OR(K:Yj)(F H:Hp)(a:Addr):O->Prop
 | .lst ds=>∃vs,H a=some (.lst vs)/\Rps K F ds vs
 | .dK kvs=>H a=some (.dK kvs)
 | .dT kvs=>H a=some (.dT kvs)
 | .lsA x ds=>a=x/\∃vs,H a=some (.lst vs)/\Rps K F ds vs
 | .ins x C xs cs=>a=x/\xs.length=cs.length/\(∃dx,H a=some (.ins C dx<|xs.zip (cs.map λc=>V.ref c.1)))/\(∀c∈cs,∃vs,H c.1=some (.lst vs)/\Rps K F c.2 vs)/\(cs.map (·.1)).Nodup
 | .nsl x cs=>a=x/\H a=some (.lst (cs.map λc=>V.ref c.1))/\(∀c∈cs,∃vs,H c.1=some (.lst vs)/\Rps K F c.2 vs)/\(x::cs.map (·.1)).Nodup
 | .nst cs=>F a=some (.tup (cs.map λc=>V.ref c.1))/\(∀c∈cs,∃vs,H c.1=some (.lst vs)/\Rps K F c.2 vs)/\(cs.map (·.1)).Nodup
def OR.mono {K F F' H H'}{a o} (S1:Same F F') (S2:∀b,o.adr a b->∀x,H b=some x->H' b=some x) (h:OR K F H a o):OR K F' H' a o:=by
 cases o with
 |lst ds=>obtain⟨vs,h1,h2⟩:=h;exact⟨vs,S2 _ rfl _ h1,Rps.mono S1 h2⟩
 |lsA x ds=>obtain⟨rfl,vs,h1,h2⟩:=h;exact⟨rfl,vs,S2 _ rfl _ h1,Rps.mono S1 h2⟩
 |nsl x cs=>
  obtain⟨e,h1,h2,h3⟩:=h;exact⟨e,S2 _ (.inl e) _ h1,λc hc=>let ⟨vs,q1,q2⟩:=h2 c hc;⟨vs,S2 _ (.inr ⟨c,hc,rfl⟩) _ q1,Rps.mono S1 q2⟩,h3⟩
 |nst cs=>
  obtain⟨h1,h2,h3⟩:=h;exact⟨S1 _ _ h1,λc hc=>let ⟨vs,q1,q2⟩:=h2 c hc;⟨vs,S2 _ ⟨c,hc,rfl⟩ _ q1,Rps.mono S1 q2⟩,h3⟩
 |ins x C xs cs=>
  obtain⟨e,l,⟨dx,h1⟩,h2,h3⟩:=h;exact⟨e,l,⟨dx,S2 _ (.inl e) _ h1⟩,λc hc=>let ⟨vs,q1,q2⟩:=h2 c hc;⟨vs,S2 _ (.inr ⟨c,hc,rfl⟩) _ q1,Rps.mono S1 q2⟩,h3⟩
 |_=>exact S2 _ rfl _ h
theorem TN{K F}:∀{cs:List (Addr×List D)},(∀c∈cs,∃vs,F c.1=some (.lst vs)/\Rps K F c.2 vs)->Rps K F (cs.map λc=>.lst c.2) (cs.map λc=>V.ref c.1)
 |[],_=>.nil
 |c::cs,h=>let ⟨_,q1,q2⟩:=h c Qu;.cons (.lst q1 q2) (TN λc' hc=>h c' (Qe _ hc))
def OR.rpIn {K F F' H a o} (S1:Same F F') (S2:∀b,o.adr a b->∀x,H b=some x->F' b=some x) (h:OR K F H a o):Rp K F' o.d (.ref a):=by
 cases o with
 |lst ds=>obtain⟨vs,h1,h2⟩:=h;exact .lst (S2 _ rfl _ h1) (Rps.mono S1 h2)
 |dK kvs=>exact .dK (S2 _ rfl _ h)
 |dT kvs=>exact .dT (S2 _ rfl _ h)
 |lsA x ds=>obtain⟨rfl,vs,h1,h2⟩:=h;exact .lst (S2 _ rfl _ h1) (Rps.mono S1 h2)
 |nsl x cs=>
  obtain⟨e,h1,h2,h3⟩:=h;exact .lst (S2 _ (.inl e) _ h1) (TN λc hc=>let ⟨vs,q1,q2⟩:=h2 c hc;⟨vs,S2 _ (.inr ⟨c,hc,rfl⟩) _ q1,Rps.mono S1 q2⟩)
 |nst cs=>
  obtain⟨h1,h2,h3⟩:=h;exact .tup (S1 _ _ h1) (TN λc hc=>let ⟨vs,q1,q2⟩:=h2 c hc;⟨vs,S2 _ ⟨c,hc,rfl⟩ _ q1,Rps.mono S1 q2⟩)
 |ins x C xs cs=>
  obtain⟨e,l,⟨dx,h1⟩,h2,h3⟩:=h;exact .ins (S2 _ (.inl e) _ h1) (by grind) (TN λc hc=>let ⟨vs,q1,q2⟩:=h2 c hc;⟨vs,S2 _ (.inr ⟨c,hc,rfl⟩) _ q1,Rps.mono S1 q2⟩)
def OR.rp {K F H a o} (S1:Same F H) (h:OR K F H a o):Rp K H o.d (.ref a):=h.rpIn S1 λ_ _ _ e=>e
def OR.mut {K F H a o} (h:OR K F H a o):∀b,o.adr a b->Mut (H b):=by
 cases o with
 |lst ds=>obtain⟨vs,h1,h2⟩:=h;intro b e;rw[show b=a from e,h1];trivial
 |dK kvs=>intro b e;rw[show b=a from e,show H a=some (.dK kvs)from h];trivial
 |dT kvs=>intro b e;rw[show b=a from e,show H a=some (.dT kvs)from h];trivial
 |lsA x ds=>obtain⟨rfl,vs,h1,h2⟩:=h;intro b e;rw[show b=a from e,h1];trivial
 |nsl x cs=>
  obtain⟨e,h1,h2,h3⟩:=h;intro b hb;rcases hb with hb|⟨c,hc,hb⟩
  ·rw[show b=a from hb.trans e.symm,h1];trivial
  ·obtain⟨vs,q1,_⟩:=h2 c hc;rw[hb,q1];trivial
 |nst cs=>
  obtain⟨h1,h2,h3⟩:=h;rintro b ⟨c,hc,hb⟩;obtain⟨vs,q1,_⟩:=h2 c hc;rw[hb,q1];trivial
 |ins x C xs cs=>
  obtain⟨e,l,⟨dx,h1⟩,h2,h3⟩:=h;intro b hb;rcases hb with hb|⟨c,hc,hb⟩
  ·rw[show b=a from hb.trans e.symm,h1];trivial
  ·obtain⟨vs,q1,_⟩:=h2 c hc;rw[hb,q1];trivial
inductive S where
 |bor (d:D)|sh (d:D)|own (o:O)|view (o:O)|tmp (d:D)
abbrev Γ:=List (Option S)
noncomputable def D.strip:D->D
 | .loc _ d=>d|d=>d
def Rp.strip {K H d v} (h:Rp K H d v):Rp K H d.strip v:=by
 cases h with
 |loc h=>exact h
 |int i=>exact .int i
 |bl b=>exact .bl b
 |non=>exact .non
 |str x=>exact .str x
 |ty n=>exact .ty n
 |tup h r=>exact .tup h r
 |lst h r=>exact .lst h r
 |scr h=>exact .scr h
 |dK h=>exact .dK h
 |dT h=>exact .dT h
 |dF h=>exact .dF h
 |err h=>exact .err h
 |ref a=>exact .ref a
 |erM h1 h2 h3=>exact .erM h1 h2 h3
 |fL h=>exact .fL h
 |ins h e r=>exact .ins h e r
noncomputable def S.d:S->D
 | .bor d=>d.strip | .sh d=>d | .own o=>o.d | .view o=>o.d | .tmp d=>d
noncomputable def arg(d:D):S:=match imm d with|true=>.sh d|false=>.bor d
noncomputable def Pf(d:D):S:=match imm d with|true=>.sh d|false=>.tmp d
noncomputable def S.sub:S->D->S
 | .bor _,e=>arg e | .tmp _,e=>Pf e | .own (.nst _),e=>Pf e | .view (.nst _),e=>Pf e | .own (.nsl _ _),e=>Pf e | .view (.nsl _ _),e=>Pf e|_,e=>.sh e
noncomputable def S.shd:S->Option D
 | .sh d=>some d | .own o=>some o.d
 | .bor d=>match imm d with|true=>some d|false=>none
 | .tmp d=>match imm d with|true=>some d|false=>none
 | .view _=>none
noncomputable def S.slot:S->Option S
 | .view _=>none | .bor d=>some (.bor d) | .sh d=>some (.sh d) | .own ds=>some (.own ds)
 | .tmp d=>match imm d with|true=>some (.sh d)|false=>none
def Zbb(γ:Γ)(σ:L2.St)(b:Addr):Prop:=∃(i:Nat) (ds:O) (a:Addr),γ[i]?=some (some<|.own ds)/\σ[i]?=some (some<|.ref a)/\ds.adr a b
def zof(B:Addr->Prop)(γ:Γ)(σ:L2.St):Addr->Prop:=λb=>B b\/Zbb γ σ b
def SV(K:Yj)(Z:Addr->Prop)(H0 H:Hp):S->V->Prop
 | .bor d,v=>Rp K H0 d v
 | .sh d,v=>Rp K (off Z H) d v
 | .own o,v=>∃a,v=.ref a/\(∀b,o.adr a b->H0 b=none)/\OR K (off Z H) H a o
 |_,_=>False
def TV(K:Yj)(Z:Addr->Prop)(H0 H H':Hp):S->V->Prop
 | .bor d,v=>Rp K H0 d v
 | .sh d,v=>Rp K (off Z H') d v
 | .own o,v=>∃a,v=.ref a/\(∀b,o.adr a b->H b=none)/\OR K (off (λb=>Z b\/o.adr a b) H') H' a o
 | .view o,v=>∃a,v=.ref a/\OR K (off Z H') H' a o
 | .tmp d,v=>Rp K H' d v
structure Xo (K:Yj) (H0:Hp) (B:Addr->Prop) (H:Hp) (σ:L2.St) (γ:Γ):Prop where
 same:Same H0 H
 len:σ.length=γ.length
 bm:∀b,B b->Mut (H b)
 own:∀(i j:Nat) (a a':Addr) (ds es:O) (b:Addr),γ[i]?=some (some<|.own ds)->γ[j]?=some (some<|.own es)->σ[i]?=some (some<|.ref a)->σ[j]?=some (some<|.ref a')->ds.adr a b->es.adr a' b->i=j
 slot:∀(i:Nat) (s:S),γ[i]?=some (some s)->∃v,σ[i]?=some (some v)/\SV K (zof B γ σ) H0 H s v
section
variable {K:Yj}{H0 H H1 H':Hp}{B Z Z':Addr->Prop}{σ:L2.St}{γ:Γ}
def PZ(S:Same H H'){b}(h:Mut (H b)):Mut (H' b):=by
 cases e:H b with
 |none=>rw[e]at h;exact h.elim
 |some o=>rw[S b o e,←e];exact h
def Tt(h:Mut (H b)):∃o,H b=some o:=by
 cases e:H b with
 |none=>rw[e]at h;exact h.elim
 |some o=>grind
def Xo.grow (E:Xo K H0 B H σ γ) (S:Same H H'):Xo K H0 B H' σ γ where
 same:=E.same.trans S
 len:=E.len
 bm b h:=PZ S (E.bm b h)
 own:=E.own
 slot i s h:=by
  obtain⟨v,h1,h2⟩:=E.slot i s h;refine⟨v,h1,?_⟩;cases s with
  |bor d=>trivial
  |sh d=>exact Rp.mono (Xx S λ_ _ _ z=>z) h2
  |own ds=>
   obtain⟨a,e1,e3,e4⟩:=h2;exact⟨a,e1,e3,e4.mono (Xx S λ_ _ _ z=>z) λb _ x=>S b x⟩
  |_=>exact h2
def Xo.zm (E:Xo K H0 B H σ γ):∀b,zof B γ σ b->Mut (H b):=λb h=>by
 rcases h with h|⟨i,ds,x,h1,h2,hb⟩
 ·exact E.bm b h
 ·obtain⟨v,e1,a,e2,e3,e4⟩:=E.slot i _ h1;rw[h2]at e1;cases e1
  cases e2
  exact e4.mut b hb
def TV.rp (h0:Same H0 H') (h:TV K Z H0 H H' s v):Rp K H' s.d v:=by
 cases s with
 |bor d=>exact(Rp.mono h0 h).strip
 |sh d=>exact Rp.mono off_sub h
 |own ds=>
  obtain⟨a,rfl,_,r⟩:=h;exact r.rp off_sub
 |view ds=>
  obtain⟨a,rfl,r⟩:=h;exact r.rp off_sub
 |tmp d=>exact h
def TV.grow (S1:Same H' H1) (h:TV K Z H0 H H' s v):TV K Z H0 H H1 s v:=by
 cases s with
 |bor d=>exact h
 |sh d=>exact Rp.mono (Xx S1 λ_ _ _ z=>z) h
 |own ds=>
  obtain⟨a,rfl,e0,r⟩:=h;exact⟨a,rfl,e0,r.mono (Xx S1 λ_ _ _ z=>z) λb _ x=>S1 b x⟩
 |view ds=>
  obtain⟨a,rfl,r⟩:=h;exact⟨a,rfl,r.mono (Xx S1 λ_ _ _ z=>z) λb _ x=>S1 b x⟩
 |tmp d=>exact Rp.mono S1 h
def TV.weak (S1:Same H H1) (hz:∀b,Z b->Z' b) (h:TV K Z' H0 H1 H' s v):TV K Z H0 H H' s v:=by
 cases s with
 |sh d=>exact Rp.mono (Xx (Same.refl _) λb _ _ z y=>z (hz b y)) h
 |own ds=>
  obtain⟨a,rfl,e0,r⟩:=h;exact⟨a,rfl,λb hb=>S1.free (e0 b hb),r.mono (Xx (Same.refl _) λb _ _ z y=>z (y.imp (hz b) id)) λ_ _ _ q=>q⟩
 |view ds=>
  obtain⟨a,rfl,r⟩:=h;exact⟨a,rfl,r.mono (Xx (Same.refl _) λb _ _ z y=>z (hz b y)) λ_ _ _ q=>q⟩
 |_=>exact h
def TV.shd (h0:Same H0 H') (hm:∀b,Z b->Mut (H b)) (S1:Same H H') (h:TV K Z H0 H H' s v) (e:s.shd=some d):Rp K (off Z H') d v:=by
 have hm':=λb z=>PZ S1 (hm b z);cases s with
 |bor d'=>
  unfold S.shd at e;cases q:imm d' with
  |false=>simp_all
  |true=>
   simp[q]at e;subst e;exact Rp.off hm' (Rp.mono h0 h) q
 |sh d'=>cases e;exact h
 |own ds=>
  cases e
  obtain⟨a,rfl,e0,r⟩:=h;exact r.rpIn (Xx (Same.refl _) λb _ _ z y=>z (.inl y)) λb hb x e=>XS e λz=>by have:=hm _ z;rw[e0 b hb]at this;exact this
 |view ds=>cases e
 |tmp d'=>
  unfold S.shd at e;cases q:imm d' with
  |false=>simp[q]at e
  |true=>
   simp[q]at e;subst e;exact Rp.off hm' h q
def N3(hm:∀b,Z b->Mut (H' b))(h0:Same H0 H')(h:Rp K H0 d v):TV K Z H0 H H' (arg d) v:=by
 unfold arg;cases q:imm d with
 |true=>exact Rp.off hm (Rp.mono h0 h) q
 |false=>exact h
def PU(hm:∀b,Z b->Mut (H' b))(h:Rp K H' d v):TV K Z H0 H H' (Pf d) v:=by
 unfold Pf;cases q:imm d with
 |true=>exact Rp.off hm h q
 |false=>exact h
def Rp.lst_inv (h:Rp K H (.lst ds) v):∃a vs,v=.ref a/\H a=some (.lst vs)/\Rps K H ds vs:=by
 cases h with
 |lst h r=>grind
def Rp.tup_inv (h:Rp K H (.tup ds) v):∃a vs,v=.ref a/\H a=some (.tup vs)/\Rps K H ds vs:=by
 cases h with
 |tup h r=>grind
def TV.part (h0:Same H0 H') (hm:∀b,Z b->Mut (H b)) (S1:Same H H') (h:TV K Z H0 H H' s v) :
  (∀ds,s.d=.lst ds->∃a vs,v=.ref a/\H' a=some (.lst vs)/\vs.length=ds.length/\∀(i:Nat) d,ds[i]?=some d->∃u,vs[i]?=some u/\TV K Z H0 H H' (s.sub d) u)/\
  (∀ds,s.d=.tup ds->∃a vs,v=.ref a/\H' a=some (.tup vs)/\vs.length=ds.length/\∀(i:Nat) d,ds[i]?=some d->∃u,vs[i]?=some u/\TV K Z H0 H H' (s.sub d) u):=by
 have hm':=λb z=>PZ S1 (hm b z);cases s with
 |bor d=>
  have h:=Rp.strip h;refine⟨λds e=>?_,λds e=>?_⟩<;>rw[show d.strip=_ from e]at h
  ·obtain⟨a,vs,rfl,h,r⟩:=Rp.lst_inv h;exact⟨_,_,rfl,h0 _ _ h,r.len,λi d e=>let ⟨u,h1,h2⟩:=r.get e;⟨u,h1,N3 hm' h0 h2⟩⟩
  ·obtain⟨a,vs,rfl,h,r⟩:=Rp.tup_inv h;exact⟨_,_,rfl,h0 _ _ h,r.len,λi d e=>let ⟨u,h1,h2⟩:=r.get e;⟨u,h1,N3 hm' h0 h2⟩⟩
 |sh d=>
  refine⟨λds e=>?_,λds e=>?_⟩<;>(have e':=e;subst e')
  ·obtain⟨a,vs,rfl,h,r⟩:=Rp.lst_inv h;exact⟨_,_,rfl,off_sub _ _ h,r.len,λi d e=>r.get e⟩
  ·obtain⟨a,vs,rfl,h,r⟩:=Rp.tup_inv h;exact⟨_,_,rfl,off_sub _ _ h,r.len,λi d e=>r.get e⟩
 |own es=>
  cases es with
  |lst es=>
   refine⟨λds e=>?_,λds e=>by cases e⟩;cases e
   obtain⟨a,rfl,e0,vs,e,r⟩:=h;exact⟨a,vs,rfl,e,r.len,λi d e=>let ⟨u,h1,h2⟩:=r.get e;⟨u,h1,Rp.mono (Xx (Same.refl _) λb _ _ z y=>z (.inl y)) h2⟩⟩
  |lsA x es=>
   refine⟨λds e=>?_,λds e=>by cases e⟩;cases e
   obtain⟨a,rfl,e0,_,vs,e,r⟩:=h;exact⟨a,vs,rfl,e,r.len,λi d e=>let ⟨u,h1,h2⟩:=r.get e;⟨u,h1,Rp.mono (Xx (Same.refl _) λb _ _ z y=>z (.inl y)) h2⟩⟩
  |nsl x cs=>
   refine⟨λds e=>?_,λds e=>by cases e⟩;cases e
   obtain⟨a,rfl,e0,_,e1,e2,e3⟩:=h;have r:=TN λc hc=>let ⟨vs,q1,q2⟩:=e2 c hc;⟨vs,q1,Rps.mono off_sub q2⟩;exact⟨a,_,rfl,e1,r.len,λi d e=>let ⟨u,h1,h2⟩:=r.get e;⟨u,h1,PU hm' h2⟩⟩
  |nst cs=>
   refine⟨(λds e=>by cases e),λds e=>?_⟩;cases e
   obtain⟨a,rfl,e0,e1,e2,e3⟩:=h;have r:=TN λc hc=>let ⟨vs,q1,q2⟩:=e2 c hc;⟨vs,q1,Rps.mono off_sub q2⟩;exact⟨a,_,rfl,off_sub _ _ e1,r.len,λi d e=>let ⟨u,h1,h2⟩:=r.get e;⟨u,h1,PU hm' h2⟩⟩
  |_=>exact⟨(λds e=>by cases e),(λds e=>by cases e)⟩
 |view es=>
  cases es with
  |lst es=>
   refine⟨λds e=>?_,λds e=>by cases e⟩;cases e
   obtain⟨a,rfl,vs,e,r⟩:=h;exact⟨a,vs,rfl,e,r.len,λi d e=>r.get e⟩
  |lsA x es=>
   refine⟨λds e=>?_,λds e=>by cases e⟩;cases e
   obtain⟨a,rfl,_,vs,e,r⟩:=h;exact⟨a,vs,rfl,e,r.len,λi d e=>r.get e⟩
  |nsl x cs=>
   refine⟨λds e=>?_,λds e=>by cases e⟩;cases e
   obtain⟨a,rfl,_,e1,e2,e3⟩:=h;have r:=TN λc hc=>let ⟨vs,q1,q2⟩:=e2 c hc;⟨vs,q1,Rps.mono off_sub q2⟩;exact⟨a,_,rfl,e1,r.len,λi d e=>let ⟨u,h1,h2⟩:=r.get e;⟨u,h1,PU hm' h2⟩⟩
  |nst cs=>
   refine⟨(λds e=>by cases e),λds e=>?_⟩;cases e
   obtain⟨a,rfl,e1,e2,e3⟩:=h;have r:=TN λc hc=>let ⟨vs,q1,q2⟩:=e2 c hc;⟨vs,q1,Rps.mono off_sub q2⟩;exact⟨a,_,rfl,off_sub _ _ e1,r.len,λi d e=>let ⟨u,h1,h2⟩:=r.get e;⟨u,h1,PU hm' h2⟩⟩
  |_=>exact⟨(λds e=>by cases e),(λds e=>by cases e)⟩
 |tmp d=>
  refine⟨λds e=>?_,λds e=>?_⟩<;>(have e':=e;subst e')
  ·obtain⟨a,vs,rfl,h,r⟩:=Rp.lst_inv h;exact⟨_,_,rfl,h,r.len,λi d e=>let ⟨u,h1,h2⟩:=r.get e;⟨u,h1,PU hm' h2⟩⟩
  ·obtain⟨a,vs,rfl,h,r⟩:=Rp.tup_inv h;exact⟨_,_,rfl,h,r.len,λi d e=>let ⟨u,h1,h2⟩:=r.get e;⟨u,h1,PU hm' h2⟩⟩
def Fr(B:Addr->Prop)(H:Hp)(σ:L2.St)(γ:Γ)(H':Hp)(σ':L2.St)(γ':Γ):Prop:=∀b o,H b=some o->¬zof B γ σ b->H' b=some o/\¬zof B γ' σ' b
def Fr.refl:Fr B H σ γ H σ γ:=λ_ _ h z=>⟨h,z⟩
def Fr.trans {H1 H2 σ1 σ2 γ1 γ2} (a:Fr B H σ γ H1 σ1 γ1) (b:Fr B H1 σ1 γ1 H2 σ2 γ2):Fr B H σ γ H2 σ2 γ2:=λx o h z=>let ⟨h1,z1⟩:=a x o h z;b x o h1 z1
def Fr.grow (S1:Same H H'):Fr B H σ γ H' σ γ:=λ_ _ h z=>⟨S1 _ _ h,z⟩
def Fr.off {H'}{σ'}{γ'} (f:Fr B H σ γ H' σ' γ'):Same (off (zof B γ σ) H) (Pu.off (zof B γ' σ') H'):=λb o h=>by
 obtain⟨h1,h2⟩:=P9 h;obtain⟨h3,h4⟩:=f b o h1 h2;exact XS h3 h4
def XW{α:Type}{l:List α}{i j}{x y}(h:(l.set i x)[j]?=some y):(j=i/\x=y/\i<l.length)\/(j≠i/\l[j]?=some y):=by grind
def Fd{α:Type}{l:List α}{i}{x}(h:i<l.length):(l.set i x)[i]?=some x:=by grind
def Te{α:Type}{l:List α}{i j}{x}(h:j≠i):(l.set i x)[j]?=l[j]?:=by grind
def Xo.drop (E:Xo K H0 B H σ γ) (i:Nat):Xo K H0 B H σ (γ.set i none)/\Fr B H σ γ H σ (γ.set i none):=by
 have hz:∀b,zof B (γ.set i none) σ b->zof B γ σ b:=λb z=>z.imp id λ⟨j,ds,a,h1,h2,h3⟩=>by
  rcases XW h1 with⟨_,e,_⟩|⟨_,e⟩
  ·grind
  ·exact⟨j,ds,a,e,h2,h3⟩
 refine⟨⟨E.same,by rw[QK];exact E.len,E.bm,λk j a a' ds es b h1 h2=>?_,λk s h=>?_⟩,λb o h z=>⟨h,λy=>z (hz b y)⟩⟩
 ·rcases XW h1 with⟨_,e,_⟩|⟨_,e1⟩
  ·cases e
  ·rcases XW h2 with⟨_,e,_⟩|⟨_,e2⟩
   ·cases e
   ·exact E.own k j a a' ds es b e1 e2
 ·rcases XW h with⟨_,e,_⟩|⟨_,e⟩
  ·cases e
  ·obtain⟨v,h1,h2⟩:=E.slot k s e;refine⟨v,h1,?_⟩;have S1:Same (Pu.off (zof B γ σ) H) (Pu.off (zof B (γ.set i none) σ) H):=Xx (Same.refl _) λb _ _ z y=>z (hz b y);cases s with
   |sh d=>exact Rp.mono S1 h2
   |own ds=>
    obtain⟨a,e1,e3,e4⟩:=h2;exact⟨a,e1,e3,e4.mono S1 λ_ _ _ q=>q⟩
   |_=>exact h2
def Xo.put {s s'}{v} (E:Xo K H0 B H σ γ) (S1:Same H H') (h:TV K (zof B γ σ) H0 H H' s v) (e:s.slot=some s') (hi:i<γ.length) :
  Xo K H0 B H' (σ.set i<|some v) (γ.set i<|some s')/\Fr B H σ γ H' (σ.set i<|some v) (γ.set i<|some s'):=by
 have hiσ:i<σ.length:=by rw[E.len];exact hi
 have E':=E.grow S1
 have isown:∀ds,s'=.own ds->s=.own ds:=λds q=>by
  subst q;cases s with
  |own es=>cases e;rfl
  |tmp d=>unfold S.slot at e;cases q:imm d<;>simp[q]at e
  |_=>cases e
 have hown:∀b,zof B (γ.set i<|some s') (σ.set i<|some v) b->zof B γ σ b\/∃ds a,s=.own ds/\v=.ref a/\ds.adr a b:=λb z=>by
  rcases z with z|⟨j,ds,a,h1,h2,h3⟩
  ·exact .inl (.inl z)
  ·rcases XW h1 with⟨ej,e1,_⟩|⟨nj,e1⟩
   ·subst ej;rw[Fd hiσ]at h2
    have:=WW e1
    exact .inr ⟨ds,a,isown ds this,WW (WW h2),h3⟩
   ·rw[Te nj]at h2;exact .inl (.inr ⟨j,ds,a,e1,h2,h3⟩)
 have fresh:∀ds a b,s=.own ds->v=.ref a->ds.adr a b->H b=none:=λds a b es ev hb=>by
  subst es;obtain⟨a',e1,e0,_⟩:=h;rw[ev]at e1;cases e1
  exact e0 b hb
 have hz:∀b o,H b=some o->¬zof B γ σ b->¬zof B (γ.set i<|some s') (σ.set i<|some v) b:=λb o hb z y=>by
  rcases hown b y with y|⟨ds,a,y1,y2,y3⟩
  ·exact z y
  ·rw[fresh ds a b y1 y2 y3]at hb;cases hb
 have So:=Xx S1 hz;refine⟨⟨E'.same,by rw[QK,QK];exact E.len,E'.bm,λk j a a' ds es b h1 h2 h3 h4 h5 h6=>?_,λk u hk=>?_⟩,λb o hb z=>⟨S1 b o hb,hz b o hb z⟩⟩
 ·have old:∀(k:Nat) ds a b,γ[k]?=some (some<|.own ds)->σ[k]?=some (some<|.ref a)->ds.adr a b->∃o,H b=some o:=λk ds a b e1 e2 e3=>by
   obtain⟨u,q1,a',q2,_,q3⟩:=E.slot k _ e1;rw[e2]at q1;cases q1
   cases q2
   exact Tt (q3.mut b e3)
  rcases XW h1 with⟨ek,e1,_⟩|⟨nk,e1⟩
  ·rcases XW h2 with⟨ej,e2,_⟩|⟨nj,e2⟩
   ·rw[ek,ej]
   ·subst ek;rw[Fd hiσ]at h3;rw[Te nj]at h4;obtain⟨o,ho⟩:=old j es a' b e2 h4 h6;rw[fresh ds a b (isown ds<|WW e1) (WW<|WW h3) h5]at ho;cases ho
  ·rcases XW h2 with⟨ej,e2,_⟩|⟨nj,e2⟩
   ·subst ej;rw[Fd hiσ]at h4;rw[Te nk]at h3;obtain⟨o,ho⟩:=old k ds a b e1 h3 h5;rw[fresh es a' b (isown es<|WW e2) (WW<|WW h4) h6]at ho;cases ho
   ·rw[Te nk]at h3;rw[Te nj]at h4;exact E.own k j a a' ds es b e1 e2 h3 h4 h5 h6
 ·rcases XW hk with⟨ek,e1,_⟩|⟨nk,e1⟩
  ·subst ek
   have:=(WW e1).symm
   subst this;refine⟨v,Fd hiσ,?_⟩;cases s with
   |own ds=>
    cases e
    obtain⟨a,rfl,e0,r⟩:=h;refine⟨a,rfl,λb hb=>E.same.free (e0 b hb),r.mono (Xx (Same.refl _) λb o _ z y=>?_) λ_ _ _ q=>q⟩;rcases hown b y with y|⟨_,_,y1,y,y2⟩
    ·exact z (.inl y)
    ·cases y;cases y1;exact z (.inr y2)
   |sh d=>
    cases e
    refine Rp.mono (Xx (Same.refl _) λb o _ z y=>?_) h;rcases hown b y with y|⟨_,_,y,_⟩
    ·exact z y
    ·cases y
   |bor d=>cases e;exact h
   |view d=>cases e
   |tmp d=>
    unfold S.slot at e;cases q:imm d with
    |false=>simp[q]at e
    |true=>
     simp[q]at e;subst e;refine Rp.off (λb y=>?_) h q;rcases hown b y with y|⟨_,_,y,_⟩
     ·exact PZ S1 (E.zm b y)
     ·cases y
  ·obtain⟨w,q1,q2⟩:=E.slot k u e1;refine⟨w,by rw[Te nk];exact q1,?_⟩;cases u with
   |sh d=>exact Rp.mono So q2
   |own ds=>
    obtain⟨a,e1,e3,e4⟩:=q2;exact⟨a,e1,e3,e4.mono So λb _ x=>S1 b x⟩
   |_=>exact q2
noncomputable def frz(i:Nat)(γ:Γ):Γ:=match γ[i]? with
 |some (some<|.own o)=>γ.set i (some<|.sh o.d)
 |_=>γ
def Xo.frz (E:Xo K H0 B H σ γ) (hB:∀b,B b->∃o,H0 b=some o) (i:Nat):Xo K H0 B H σ (frz i γ)/\Fr B H σ γ H σ (Pu.frz i γ):=by
 unfold Pu.frz;split
 ·rename_i ds hi
  have hz:∀b,zof B (γ.set i<|some<|.sh ds.d) σ b->zof B γ σ b:=λb z=>z.imp id λ⟨j,es,a,h1,h2,h3⟩=>by
   rcases XW h1 with⟨_,e,_⟩|⟨_,e⟩
   ·cases e
   ·exact⟨j,es,a,e,h2,h3⟩
  have S1:Same (Pu.off (zof B γ σ) H) (Pu.off (zof B (γ.set i<|some<|.sh ds.d) σ) H):=Xx (Same.refl _) λb _ _ z y=>z (hz b y);refine⟨⟨E.same,by rw[QK];exact E.len,E.bm,λk j a a' es es' b h1 h2=>?_,λk s h=>?_⟩,λb o h z=>⟨h,λy=>z (hz b y)⟩⟩
  ·rcases XW h1 with⟨_,e,_⟩|⟨_,e1⟩
   ·cases e
   ·rcases XW h2 with⟨_,e,_⟩|⟨_,e2⟩
    ·cases e
    ·exact E.own k j a a' es es' b e1 e2
  ·rcases XW h with⟨ek,e,_⟩|⟨nk,e⟩
   ·subst ek
    have:=WW e
    subst this;obtain⟨v,h1,a,rfl,h3,h4⟩:=E.slot k _ hi;refine⟨_,h1,h4.rpIn S1 λb hb x h2=>XS h2 λz=>?_⟩;rcases z with z|⟨j,es,a',e1,e2,e3⟩
    ·grind
    ·rcases XW e1 with⟨_,q,_⟩|⟨nj,q⟩
     ·cases q
     ·exact nj (E.own j k a' a es ds b q hi e2 h1 e3 hb)
   ·obtain⟨v,h1,h2⟩:=E.slot k s e;refine⟨v,h1,?_⟩;cases s with
    |sh d=>exact Rp.mono S1 h2
    |own ds=>
     obtain⟨a,e1,e3,e4⟩:=h2;exact⟨a,e1,e3,e4.mono S1 λ_ _ _ q=>q⟩
    |_=>exact h2
 ·exact⟨E,Fr.refl⟩
def Xo.change {o o'} (E:Xo K H0 B H σ γ) (hi:γ[i]?=some (some<|.own o)) (ha:σ[i]?=some (some<|.ref a))
  (hH:∀b x,H b=some x->¬o.adr a b->H' b=some x) (hm:∀b,o.adr a b->Mut (H' b)) (hadr:∀b,o'.adr a b->o.adr a b\/H b=none) (r:OR K (Pu.off (zof B (γ.set i<|some<|.own o') σ) H') H' a o') :
  Xo K H0 B H' σ (γ.set i<|some<|.own o')/\Fr B H σ γ H' σ (γ.set i<|some<|.own o'):=by
 obtain⟨v,h1,a',rfl,h3,h4⟩:=E.slot i _ hi;rw[ha]at h1;cases h1
 have za:∀b,o.adr a b->zof B γ σ b:=λb hb=>.inr ⟨i,o,a,hi,ha,hb⟩
 have hz:∀b x,H b=some x->zof B (γ.set i<|some<|.own o') σ b->zof B γ σ b:=λb x hx z=>by
  rcases z with z|⟨j,fs,a',e1,e2,e3⟩
  ·exact .inl z
  ·rcases XW e1 with⟨ej,q,_⟩|⟨_,e⟩
   ·subst ej;cases q
    rw[ha]at e2;cases e2
    rcases hadr b e3 with k|k
    ·exact za b k
    ·rw[k]at hx;cases hx
   ·exact .inr ⟨j,fs,a',e,e2,e3⟩
 have S1:=λb x h=>by
  obtain⟨q1,q2⟩:=P9 h;exact XS (hH b x q1 λk=>q2 (za b k)) λz=>q2 (hz b x q1 z)
 have old:∀(k:Nat) ds a b,γ[k]?=some (some<|.own ds)->σ[k]?=some (some<|.ref a)->ds.adr a b->∃o,H b=some o:=λk ds a b e1 e2 e3=>by
  obtain⟨u,q1,a',q2,_,q3⟩:=E.slot k _ e1;rw[e2]at q1;cases q1
  cases q2
  exact Tt (q3.mut b e3)
 refine⟨⟨λb x h=>?_,by rw[QK];exact E.len,λb hb=>?_,λk j x x' fs fs' b e1 e2 e3 e4 e5 e6=>?_,λk s h=>?_⟩,λb x h z=>⟨?_,λy=>z (hz b x h y)⟩⟩
 ·exact hH b x (E.same b x h) λk=>by rw[h3 b k]at h;cases h
 ·by_cases k:o.adr a b
  ·exact hm b k
  ·have:=E.bm b hb
   obtain⟨x,hx⟩:=Tt this;rwa[hH b x hx k,←hx]
 ·rcases XW e1 with⟨ek,q1,_⟩|⟨nk,q1⟩
  ·rcases XW e2 with⟨ej,_,_⟩|⟨nj,q2⟩
   ·rw[ek,ej]
   ·subst ek;cases q1
    rw[ha]at e3;cases e3
    rcases hadr b e5 with w|w
    ·exact E.own k j _ _ _ _ b hi q2 ha e4 w e6
    ·obtain⟨u,hu⟩:=old j fs' x' b q2 e4 e6;rw[w]at hu;cases hu
  ·rcases XW e2 with⟨ej,q2,_⟩|⟨nj,q2⟩
   ·subst ej;cases q2
    rw[ha]at e4;cases e4
    rcases hadr b e6 with w|w
    ·exact E.own k j _ _ _ _ b q1 hi e3 ha e5 w
    ·obtain⟨u,hu⟩:=old k fs x b q1 e3 e5;rw[w]at hu;cases hu
   ·exact E.own k j x x' fs fs' b q1 q2 e3 e4 e5 e6
 ·rcases XW h with⟨ek,e,_⟩|⟨nk,e⟩
  ·subst ek
   have:=WW e
   subst this;exact⟨_,ha,a,rfl,λb hb=>(hadr b hb).elim (h3 b) λw=>E.same.free w,r⟩
  ·obtain⟨v,q1,q2⟩:=E.slot k s e;refine⟨v,q1,?_⟩;cases s with
   |sh d=>exact Rp.mono S1 q2
   |own fs=>
    obtain⟨x,rfl,e3,e4⟩:=q2;exact⟨x,rfl,e3,e4.mono S1 λb hb y e2=>hH b y e2 λw=>nk (E.own k i x a fs o b e hi q1 ha hb w)⟩
   |_=>exact q2
 ·exact hH b x h λk=>z (za b k)
def Xo.mutate {i:Nat}{a:Addr}{ds es:O}{us:HO} (E:Xo K H0 B H σ γ) (hi:γ[i]?=some (some<|.own ds)) (ha:σ[i]?=some (some<|.ref a)) (hu:Mut (some us)) (r:∀F H':Hp,Same (Pu.off (zof B γ σ) H) F->H' a=some us->OR K F H' a es)
  (k1:autoParam (ds.adr a=λb=>b=a) au_0) (k2:autoParam (es.adr a=λb=>b=a) au_0) :
  Xo K H0 B (upd H a us) σ (γ.set i<|some<|.own es)/\Fr B H σ γ (upd H a us) σ (γ.set i<|some<|.own es):=by
 refine E.change (o:=ds) (o':=es) hi ha (λb x h n=>by rw[Xr (λz=>n (by rw[k1];exact z))];exact h) (λb h=>by rw[k1]at h;rw[show b=a from h,X4];exact hu) (λb h=>.inl (by rw[k1];rw[k2]at h;exact h)) (r _ _ ?_ X4)
 intro b x h;obtain⟨q1,q2⟩:=P9 h;have nb:b≠a:=λz=>q2 (.inr ⟨i,ds,a,hi,ha,by rw[k1];exact z⟩);refine XS (by rw[Xr nb];exact q1) λz=>q2 ?_;rcases z with z|⟨j,fs,a',e1,e2,e3⟩
 ·exact .inl z
 ·rcases XW e1 with⟨ej,q,_⟩|⟨_,e⟩
  ·subst ej;cases q
   rw[ha]at e2;cases e2
   rw[k2]at e3;exact absurd e3 nb
  ·exact .inr ⟨j,fs,a',e,e2,e3⟩
end
end Pu
namespace Pu
open PySem PySem.Spec PyProof.Rows L2 Own
abbrev XR:=Str->Prop
noncomputable def eI:Int->Nat
 | .ofNat n=>2*n
 | .negSucc n=>2*n+1
noncomputable def dI(n:Nat):Int:=if n % 2=0 then .ofNat (n / 2)else .negSucc (n / 2)
def Ziq:∀i,dI (eI i)=i
 | .ofNat n=>by
  show dI (2*n)=_;unfold dI;simp
 | .negSucc n=>by
  show dI (2*n+1)=_;unfold dI;omega
noncomputable def PX(r:Yl):Str:=⟨(0::r.map eI).toArray⟩
noncomputable def Zld:Yq->Option (Yl)
 | 0::t=>some (t.map dI)
 |_=>none
noncomputable def TJ(x:Str):Option (Yl):=Zld x.cps.toList
def BC(r:Yl):TJ (PX r)=some r:=by
 show some ((r.map eI).map dI)=some r;rw[QA];congr 1
 conv=>rhs;rw[←List.map_id r]
 exact VW λi _=>Ziq i
def XE(mg:Yn)(E:XK)(c:Str)(H':Hp):Prop:=match TJ c with
 |none=>E (.ref<|ExcR.Xl mg c) none H'
 |some r=>∀(dx l:Addr) (o:Obj),H' dx=some (.xd [("members",.ref l)])->H' l=some (.frz o<|.lst<|r.map V.int)->E (.ref<|ExcR.Xl mg "Ringed") (some dx) H'
def XE.plain {c H'} (hc:TJ c=none) (h:XE mg E c H'):E (.ref<|ExcR.Xl mg c) none H':=by
 unfold XE at h;simp_all
def XE.of {E c H'} (hc:TJ c=none) (h:E (.ref<|ExcR.Xl mg c) none H'):XE mg E c H':=by
 unfold XE;simp_all
def XE.mem (h:XE mg E (PX r) H') {dx l o} (h1:H' dx=some (.xd [("members",.ref l)])) (h2:H' l=some (.frz o<|.lst<|r.map V.int)) :
  E (.ref<|ExcR.Xl mg "Ringed") (some dx) H':=by
 unfold XE at h;rw[BC]at h
 grind
def XE.ofM {E r H'} (h:∀dx l o,H' dx=some (.xd [("members",.ref l)])->H' l=some (.frz o<|.lst<|r.map V.int)->E (.ref<|ExcR.Xl mg "Ringed") (some dx) H'):XE mg E (PX r) H':=by
 unfold XE;rw[BC];omega
abbrev PTE:=Γ->(S->Prop)->XR->Prop
abbrev PTT:=Γ->(Bool->Prop)->XR->Prop
abbrev PTA:=Γ->(List S->Prop)->XR->Prop
abbrev PTO:=Γ->(Option Int->Prop)->XR->Prop
structure PP where
 nx:Γ->Prop
 rt:S->Prop
 ex:Γ->Str->Prop
 bk:Γ->Prop:=λ_=>False
 ct:Γ->Prop:=λ_=>False
 rv:Γ->D->Prop:=λ_ _=>False
abbrev PTS:=PP->Γ->Prop
abbrev PTG:=S->Γ->(Γ->Prop)->Prop
abbrev NK:=List S->Γ->(Γ->Prop)->Prop
inductive TVs (K:Yj) (Z:Addr->Prop) (H0 H H':Hp):List S->List V->Prop
 |nil:TVs K Z H0 H H' [] []
 |cons {s:S} {v:V} {ss:List S} {vs:List V}:TV K Z H0 H H' s v->TVs K Z H0 H H' ss vs->TVs K Z H0 H H' (s::ss) (v::vs)
section
variable (K:Yj) (mg:Yn) (E:L2.St->XK)
def Xj(t:TE)(p:PTE):Prop:=∀(H0:Hp) (B:Addr->Prop) (H:Hp) (σ:L2.St) (γ:Γ) (R:S->Prop) (X:XR) (Q:VK),Xo K H0 B H σ γ->p γ R X->
 (∀s v H',R s->Same H H'->TV K (zof B γ σ) H0 H H' s v->Q v H')->(∀c H',X c->Same H H'->XE mg (E σ) c H')->t σ H Q
def K6(t:TT)(p:PTT):Prop:=∀(H0:Hp) (B:Addr->Prop) (H:Hp) (σ:L2.St) (γ:Γ) (R:Bool->Prop) (X:XR) (Q:Bool->Hp->Prop),Xo K H0 B H σ γ->p γ R X->
 (∀b H',R b->Same H H'->Q b H')->(∀c H',X c->Same H H'->XE mg (E σ) c H')->t σ H Q
def X6(t:TA)(p:PTA):Prop:=∀(H0:Hp) (B:Addr->Prop) (H:Hp) (σ:L2.St) (γ:Γ) (R:List S->Prop) (X:XR) (Q:List V->Hp->Prop),Xo K H0 B H σ γ->p γ R X->
 (∀ss vs H',R ss->Same H H'->TVs K (zof B γ σ) H0 H H' ss vs->Q vs H')->(∀c H',X c->Same H H'->XE mg (E σ) c H')->t σ H Q
def Tx(t:TO)(p:PTO):Prop:=∀(H0:Hp) (B:Addr->Prop) (H:Hp) (σ:L2.St) (γ:Γ) (R:Option Int->Prop) (X:XR) (Q:Option Int->Hp->Prop),Xo K H0 B H σ γ->p γ R X->
 (∀o H',R o->Same H H'->Q o H')->(∀c H',X c->Same H H'->XE mg (E σ) c H')->t σ H Q
structure SR (H0:Hp) (B:Addr->Prop) (H:Hp) (σ:L2.St) (γ:Γ) (R:PP) (D:Ends):Prop where
 nx:∀σ' γ' H',R.nx γ'->Xo K H0 B H' σ' γ'->Fr B H σ γ H' σ' γ'->D.nx σ' H'
 rt:∀s v H',R.rt s->Same H0 H'->TV K B H0 H0 H' s v->D.rt v H'
 ex:∀σ' γ' c H',R.ex γ' c->Xo K H0 B H' σ' γ'->Fr B H σ γ H' σ' γ'->XE mg (E σ') c H'
 bk:∀σ' γ' H',R.bk γ'->Xo K H0 B H' σ' γ'->Fr B H σ γ H' σ' γ'->D.bk σ' H'
 ct:∀σ' γ' H',R.ct γ'->Xo K H0 B H' σ' γ'->Fr B H σ γ H' σ' γ'->D.ct σ' H'
 rv:∀σ' γ' d v H',R.rv γ' d->Xo K H0 B H' σ' γ'->Fr B H σ γ H' σ' γ'->Rp K (off (zof B γ' σ') H') d v->D.rt v H'
def Xy(t:TS)(p:PTS):Prop:=∀(H0:Hp) (B:Addr->Prop) (H:Hp) (σ:L2.St) (γ:Γ) (R:PP) (D:Ends),(∀b,B b->∃o,H0 b=some o)->Xo K H0 B H σ γ->p R γ->SR K mg E H0 B H σ γ R D->t D σ H
end
section
variable {K:Yj}{mg:Yn}{E:L2.St->XK}{H0 H H1 H':Hp}{B Z Z':Addr->Prop}{σ:L2.St}{γ:Γ}
def TVs.weakG {H1 H2}:∀{ss}{vs:List V},Same H H1->TVs K Z H0 H1 H2 ss vs->TVs K Z H0 H H2 ss vs:=by
 intro ss
 induction ss with
 |nil=>
  intro _ _ h;cases h
  exact .nil
 |cons _ _ ih=>
  intro _ S1 h;cases h with
  |cons h r=>
   exact .cons (TV.weak S1 (λ_ z=>z) h) (ih S1 r)
def TVs.rps (h0:Same H0 H'):∀{ss}{vs:List V},TVs K Z H0 H H' ss vs->Rps K H' (ss.map S.d) vs:=by
 intro ss
 induction ss with
 |nil=>
  intro _ h;cases h
  exact .nil
 |cons _ _ ih=>
  intro _ h;cases h with
  |cons h r=>
   exact .cons (h.rp h0) (ih r)
theorem TVs.shd {ds:List D} (h0:Same H0 H') (hm:∀b,Z b->Mut (H b)) (S1:Same H H'):∀{ss vs}{ds:List D},TVs K Z H0 H H' ss vs->ss.map S.shd=ds.map some->Rps K (off Z H') ds vs
 |_,_,[],.nil,_=>.nil
 |_,_,_::_,.nil,e|_,_,[],.cons _ _,e=>by cases e
 |_,_,d::ds,.cons h r,e=>by
  rw[Qn,Qn,JA]at e;exact .cons (h.shd h0 hm S1 e.1) (TVs.shd (ds:=ds) h0 hm S1 r e.2)
def Rp.int_inv (h:Rp K H (.int i) v):v=.int i:=by cases h;rfl
def Rp.bl_inv (h:Rp K H (.bl b) v):v=.bl b:=by cases h;rfl
def Rp.str_inv (h:Rp K H (.str x) v):v=.str x:=by cases h;rfl
def Rp.non_inv (h:Rp K H .non v):v=.non:=by cases h;rfl
def Rp.ty_inv (h:Rp K H (.ty n) v):v=.ty n:=by cases h;rfl
noncomputable def D2(i:Nat):PTE:=λγ R _=>match γ[i]? with
 |some (some<|.own ds)=>R (.view ds)
 |some (some s)=>R s
 |_=>False
def Xi(i:Nat):Xj K mg E (Kz i) (D2 i):=by
 intro H0 B H σ γ R X Q env h q _;unfold D2 at h;split at h
 ·rename_i ds e;obtain⟨v,h1,a,rfl,h3,h4⟩:=env.slot i _ e;exact⟨_,h1,q _ _ H h (Same.refl _) ⟨a,rfl,h4⟩⟩
 ·rename_i s ns e;obtain⟨v,h1,h2⟩:=env.slot i _ e;refine⟨v,h1,q _ _ H h (Same.refl _) ?_⟩;cases s with
  |bor d|sh d=>exact h2
  |own ds=>grind
  |_=>exact h2.elim
 ·grind
noncomputable def pC(d:D):PTE:=λ_ R _=>R (.sh d)
def Bb(h:∀H,Rp K H d v):Xj K mg E (tC v) (pC d):=by
 intro H0 B H σ γ R X Q env p q _;exact q _ _ H p (Same.refl _) (h _)
def Xq:Xj K mg E (tC<|.int i) (pC<|.int i):=Bb λ_=>.int i
def Pz:Xj K mg E (tC<|.bl b) (pC<|.bl b):=Bb λ_=>.bl b
def Nl:Xj K mg E (tC<|.str x) (pC<|.str x):=Bb λ_=>.str x
def T4:Xj K mg E (tC<|.ty n) (pC<|.ty n):=Bb λ_=>.ty n
noncomputable def p2(a b:PTE)(f:S->S->(S->Prop)->Prop):PTE:=λγ R X=>a γ (λx=>b γ (λy=>f x y R) X) X
def Pv{ta tb a b f}(ha:Xj K mg E ta a)(hb:Xj K mg E tb b)(hr:∀H0 H H2 Z x y v u R Q,Same H0 H2->Same H H2->(∀b,Z b->Mut (H b))->TV K Z H0 H H2 x v->TV K Z H0 H H2 y u->f x y R->(∀s z H',R s->Same H2 H'->TV K Z H0 H H' s z->Q z H')->r v u H2 Q) :
  Xj K mg E (tOp r ta tb) (p2 a b f):=by
 intro H0 B H σ γ R X Q env p q qx;refine ha H0 B H σ γ _ X _ env p (λx v H1 h1 S1 t1=>?_) qx;have env1:=env.grow S1;refine hb H0 B H1 σ γ _ X _ env1 h1 (λy u H2 h2 S2 t2=>?_) λc H' hc S'=>qx c H' hc (S1.trans S');exact hr H0 H H2 _ x y v u R Q (env1.same.trans S2) (S1.trans S2) env.zm (t1.grow S2) (TV.weak S1 (λ_ z=>z) t2) h2 λs z H' hs S3 t3=>q s z H' hs ((S1.trans S2).trans S3) t3
def fI0(g:Int->Int->D):S->S->(S->Prop)->Prop:=λx y R=>match x.d,y.d with
 | .int i,.int j=>R (.sh<|g i j)
 |_,_=>False
def fI(C:Int->Int->Prop)(g:Int->Int->D):S->S->(S->Prop)->Prop:=λx y R=>match x.d,y.d with
 | .int i,.int j=>C i j/\R (.sh<|g i j)
 |_,_=>False
def B5{g'}{ta tb a b}(hg:∀H i j,Rp K H (g' i j) (g i j))(ha:Xj K mg E ta a)(hb:Xj K mg E tb b):Xj K mg E (tOp (rI0 g) ta tb) (p2 a b<|fI0 g'):=by
 refine Pv ha hb λH0 H H2 Z x y v u R Q s0 s1 hm tx ty h q=>?_;unfold fI0 at h;have rx:=tx.rp s0;have ry:=ty.rp s0;split at h
 ·rename_i i j e1 e2;rw[e1]at rx;rw[e2]at ry;exact⟨i,j,rx.int_inv,ry.int_inv,q _ _ H2 h (Same.refl _) (hg _ i j)⟩
 ·grind
def B9{g g'}{ta tb a b}(hg:∀H i j,Rp K H (g' i j) (g i j))(ha:Xj K mg E ta a)(hb:Xj K mg E tb b):Xj K mg E (tOp (rI C g) ta tb) (p2 a b<|fI C g'):=by
 refine Pv ha hb λH0 H H2 Z x y v u R Q s0 s1 hm tx ty h q=>?_;unfold fI at h;have rx:=tx.rp s0;have ry:=ty.rp s0;split at h
 ·rename_i i j e1 e2;rw[e1]at rx;rw[e2]at ry;exact⟨i,j,rx.int_inv,ry.int_inv,h.1,q _ _ H2 h.2 (Same.refl _) (hg _ i j)⟩
 ·grind
section
variable {ta tb tc:TE}{a b c:PTE}
def XC(ha:Xj K mg E ta a)(hb:Xj K mg E tb b):Xj K mg E (tOp (rI0 λi j=>.int (i+j)) ta tb) (p2 a b (fI0 λi j=>.int (i+j))):=B5 (λ_ _ _=>.int _) ha hb
def K4(ha:Xj K mg E ta a)(hb:Xj K mg E tb b):Xj K mg E (tOp (rI0 λi j=>.int (i-j)) ta tb) (p2 a b (fI0 λi j=>.int (i-j))):=B5 (λ_ _ _=>.int _) ha hb
def T9(ha:Xj K mg E ta a)(hb:Xj K mg E tb b):Xj K mg E (tOp (rI CMul λi j=>.int (i*j)) ta tb) (p2 a b (fI CMul λi j=>.int (i*j))):=B9 (λ_ _ _=>.int _) ha hb
def XH(ha:Xj K mg E ta a)(hb:Xj K mg E tb b):Xj K mg E (tOp (rI AZ λi j=>.int (i / j)) ta tb) (p2 a b (fI AZ λi j=>.int (i / j))):=B9 (λ_ _ _=>.int _) ha hb
def X3(ha:Xj K mg E ta a)(hb:Xj K mg E tb b):Xj K mg E (tOp (rI (λ_ j=>0<j) λi j=>.int (i % j)) ta tb) (p2 a b (fI (λ_ j=>0<j) λi j=>.int (i % j))):=B9 (λ_ _ _=>.int _) ha hb
def DN(ha:Xj K mg E ta a)(hb:Xj K mg E tb b):Xj K mg E (tOp (rI DO λi j=>.int (i ^ j.toNat)) ta tb) (p2 a b (fI DO λi j=>.int (i ^ j.toNat))):=B9 (λ_ _ _=>.int _) ha hb
def KN(ha:Xj K mg E ta a)(hb:Xj K mg E tb b):Xj K mg E (tOp (rI0 λi j=>.bl (decide (i<j))) ta tb) (p2 a b (fI0 λi j=>.bl (decide (i<j)))):=B5 (λ_ _ _=>.bl _) ha hb
def KA(ha:Xj K mg E ta a)(hb:Xj K mg E tb b):Xj K mg E (tOp (rI0 λi j=>.bl (decide (j<i))) ta tb) (p2 a b (fI0 λi j=>.bl (decide (j<i)))):=B5 (λ_ _ _=>.bl _) ha hb
def NS(ha:Xj K mg E ta a)(hb:Xj K mg E tb b):Xj K mg E (tOp (rI0 λi j=>.bl (decide (j<=i))) ta tb) (p2 a b (fI0 λi j=>.bl (decide (j<=i)))):=B5 (λ_ _ _=>.bl _) ha hb
def fEq(neg:Bool):S->S->(S->Prop)->Prop:=λx y R=>match x.d,y.d with
 | .int i,.int j=>R (.sh<|.bl (if neg then !decide (i=j)else decide (i=j)))
 | .str i,.str j=>R (.sh<|.bl (if neg then !decide (i=j)else decide (i=j)))
 | .bl i,.bl j=>R (.sh<|.bl (if neg then !decide (i=j)else decide (i=j)))
 |_,_=>False
def Sj{α β:Type}[DecidableEq α][DecidableEq β]{f:α->β}(hf:∀a b,f a=f b->a=b)(a b:α):decide (f a=f b)=decide (a=b):=by grind
def fIx:S->S->(S->Prop)->Prop:=λx y R=>match x.d,y.d with
 | .lst ds,.int k=>∃d,atI ds k=some d/\R (x.sub d)
 | .tup ds,.int k=>∃d,atI ds k=some d/\R (x.sub d)
 | .scr ns,.int k=>∃i,atI ns k=some i/\R (.sh<|.int i)
 | .fL ns,.int k=>∃i,atI ns k=some i/\R (.sh<|.int i)
 |_,_=>False
def Og{P:D->V->Prop}(hl:vs.length=ds.length)(h:∀(i:Nat) d,ds[i]?=some d->∃u,vs[i]?=some u/\P d u)(e:atI ds k=some d):∃u,atI vs k=some u/\P d u:=by
 unfold atI at e ⊢;cases q:ixN ds.length k with
 |_=>grind
def XM(ha:Xj K mg E ta a)(hb:Xj K mg E tb b):Xj K mg E (tOp (λx y H Q=>SX K x y H Q\/SW K x y H Q) ta tb) (p2 a b fIx):=by
 refine Pv ha hb λH0 H H2 Z x y v u R Q s0 s1 hm tx ty h q=>?_;unfold fIx at h;have ry:=ty.rp s0;obtain⟨pl,pt⟩:=tx.part s0 hm s1;split at h
 ·rename_i ds k e1 e2;rw[e2]at ry;obtain⟨d,hd,hR⟩:=h;obtain⟨l,vs,rfl,hl,hn,hp⟩:=pl ds e1;obtain⟨z,hz,tz⟩:=Og hn hp hd;exact .inl ⟨l,vs,k,z,rfl,ry.int_inv,SqL.of hl,hz,q _ _ H2 hR (Same.refl _) tz⟩
 ·rename_i ds k e1 e2;rw[e2]at ry;obtain⟨d,hd,hR⟩:=h;obtain⟨l,vs,rfl,hl,hn,hp⟩:=pt ds e1;obtain⟨z,hz,tz⟩:=Og hn hp hd;exact .inr ⟨l,vs,k,z,rfl,ry.int_inv,SqT.of hl,hz,q _ _ H2 hR (Same.refl _) tz⟩
 ·rename_i ns k e1 e2;rw[e2]at ry;obtain⟨i,hi,hR⟩:=h;have rx:=tx.rp s0;rw[e1]at rx;cases rx with
  |scr hs=>exact .inl ⟨_,_,k,.int i,rfl,ry.int_inv,hs,T5 hi,q _ _ H2 hR (Same.refl _) (.int i)⟩
 ·rename_i ns k e1 e2;rw[e2]at ry;obtain⟨i,hi,hR⟩:=h;have rx:=tx.rp s0;rw[e1]at rx;cases rx with
  |fL hs=>exact .inl ⟨_,_,k,.int i,rfl,ry.int_inv,.inl (.inr ⟨_,hs⟩),T5 hi,q _ _ H2 hR (Same.refl _) (.int i)⟩
 ·exact h.elim
noncomputable def Zee(a b:PTE):PTE:=λγ R X=>a γ (λx=>match x.d with | .bl c=>if c=true then b γ R X else R (.sh<|.bl false)|_=>False) X
noncomputable def LB(a:PTE):PTE:=λγ R X=>a γ (λx=>match x.d with | .bl c=>R (.sh<|.bl (!c))|_=>False) X
def Et(ha:Xj K mg E ta a)(hb:Xj K mg E tb b):Xj K mg E (LU ta tb) (Zee a b):=by
 intro H0 B H σ γ R X Q env p q qx;refine ha H0 B H σ γ _ X _ env p (λx v H1 h1 S1 t1=>?_) qx;have env1:=env.grow S1;have rx:=t1.rp env1.same;split at h1
 ·rename_i c e1;rw[e1]at rx;refine⟨c,rx.bl_inv,?_⟩;split at h1
  ·rename_i hc;rw[WO hc];exact hb H0 B H1 σ γ _ X _ env1 h1 (λy u H2 h2 S2 t2=>q y u H2 h2 (S1.trans S2) (TV.weak S1 (λ_ z=>z) t2)) λc H' hc S'=>qx c H' hc (S1.trans S')
  ·rename_i hc;rw[WN hc];exact q _ _ H1 h1 S1 (.bl _)
 ·grind
def EW(ha:Xj K mg E ta a):Xj K mg E (Lh ta) (LB a):=by
 intro H0 B H σ γ R X Q env p q qx;refine ha H0 B H σ γ _ X _ env p (λx v H1 h1 S1 t1=>?_) qx;have rx:=t1.rp (env.grow S1).same;split at h1
 ·rename_i c e1;rw[e1]at rx;exact⟨c,rx.bl_inv,q _ _ H1 h1 S1 (.bl _)⟩
 ·grind
noncomputable def Zbn(a:PTE):PTE:=λγ R X=>a γ (λx=>match x.d with | .int i=>R (.sh<|.int (-i))|_=>False) X
def KR(ha:Xj K mg E ta a):Xj K mg E (tUn (rU λi=>.int (-i)) ta) (Zbn a):=by
 intro H0 B H σ γ R X Q env p q qx;refine ha H0 B H σ γ _ X _ env p (λx v H1 h1 S1 t1=>?_) qx;have rx:=t1.rp (env.grow S1).same;split at h1
 ·rename_i c e1;rw[e1]at rx;exact⟨c,rx.int_inv,q _ _ H1 h1 S1 (.int _)⟩
 ·grind
noncomputable def ND(a:PTE):PTT:=λγ R X=>a γ (λx=>match x.d with | .bl c=>R c|_=>False) X
def KH(ha:Xj K mg E ta a):K6 K mg E (Fk ta) (ND a):=by
 intro H0 B H σ γ R X Q env p q qx;refine ha H0 B H σ γ _ X _ env p (λx v H1 h1 S1 t1=>?_) qx;have rx:=t1.rp (env.grow S1).same;split at h1
 ·rename_i c e1;rw[e1]at rx;exact⟨c,rx.bl_inv,q _ H1 h1 S1⟩
 ·grind
def Zf9(ha:Xj K mg E ta a):K6 K mg E (tB ta) (ND a):=KH ha
variable {sa sb:TT}{pa pb:PTT}
noncomputable def OE(a b:PTT):PTT:=λγ R X=>a γ (λc=>if c=true then b γ R X else R false) X
noncomputable def pOr(a b:PTT):PTT:=λγ R X=>a γ (λc=>if c=true then R true else b γ R X) X
noncomputable def GQ(a:PTT):PTT:=λγ R X=>a γ (λc=>R (!c)) X
def Zn6(ha:K6 K mg E sa pa)(hb:K6 K mg E sb pb):K6 K mg E (HH sa sb) (OE pa pb):=by
 intro H0 B H σ γ R X Q env p q qx;refine ha H0 B H σ γ _ X _ env p (λc H1 h1 S1=>?_) qx;split at h1
 ·rename_i hc;rw[WO hc];exact hb H0 B H1 σ γ _ X _ (env.grow S1) h1 (λy H2 h2 S2=>q y H2 h2 (S1.trans S2)) λc H' hc S'=>qx c H' hc (S1.trans S')
 ·grind
def Zi5(ha:K6 K mg E sa pa)(hb:K6 K mg E sb pb):K6 K mg E (tOr sa sb) (pOr pa pb):=by
 intro H0 B H σ γ R X Q env p q qx;refine ha H0 B H σ γ _ X _ env p (λc H1 h1 S1=>?_) qx;split at h1
 ·grind
 ·rename_i hc;rw[WN hc];exact hb H0 B H1 σ γ _ X _ (env.grow S1) h1 (λy H2 h2 S2=>q y H2 h2 (S1.trans S2)) λc H' hc S'=>qx c H' hc (S1.trans S')
def RB(ha:K6 K mg E sa pa):K6 K mg E (DT sa) (GQ pa):=by
 intro H0 B H σ γ R X Q env p q qx;exact ha H0 B H σ γ _ X _ env p (λc H1 h1 S1=>q _ H1 h1 S1) qx
end
noncomputable def T3:PTA:=λ_ R _=>R []
noncomputable def Ph(a:PTE)(r:PTA):PTA:=λγ R X=>a γ (λs=>r γ (λss=>R (s::ss)) X) X
def X9:X6 K mg E KO T3:=by
 intro H0 B H σ γ R X Q env p q _;exact q _ _ H p (Same.refl _) .nil
def XN{a r}(ha:Xj K mg E te a)(hr:X6 K mg E ta r):X6 K mg E (Kl te ta) (Ph a r):=by
 intro H0 B H σ γ R X Q env p q qx;refine ha H0 B H σ γ _ X _ env p (λs v H1 h1 S1 t1=>?_) qx;refine hr H0 B H1 σ γ _ X _ (env.grow S1) h1 (λss vs H2 h2 S2 t2=>?_) λc H' hc S'=>qx c H' hc (S1.trans S');exact q _ _ H2 h2 (S1.trans S2) (.cons (t1.grow S2)<|TVs.weakG S1 t2)
noncomputable def SJ:List S->Option (List D)
 |[]=>some []
 |s::r=>match s.shd,SJ r with
  |some d,some ds=>some (d::ds)
  |_,_=>none
theorem Aj:∀{ss}{ds:List D},SJ ss=some ds->ss.map S.shd=ds.map some
 |[],ds,h=>by cases h;rfl
 |s::r,ds,h=>by
  unfold SJ at h;split at h
  ·rename_i d es e1 e2;cases h
   rw[Qn,Qn,e1,Aj e2]
  ·grind
noncomputable def L3(r:PTA):PTE:=λγ R X=>r γ (λss=>match SJ ss with|some ds=>ds.length<=1000/\R (.sh<|.tup ds)|none=>False) X
noncomputable def Os(r:PTA):PTE:=λγ R X=>r γ (λss=>match SJ ss with|some ds=>ds.length<=1000/\R (.own ds)|none=>False) X
def Ce(h:n<=1000):n<=sizeLine:=VZ (Zj0 h)
def P0(hr:X6 K mg E ta r):Xj K mg E (Oe ta) (L3 r):=by
 intro H0 B H σ γ R X Q env p q qx;refine hr H0 B H σ γ _ X _ env p (λss vs H1 h1 S1 t1=>?_) qx;split at h1
 ·rename_i ds e;have env1:=env.grow S1;have rp:=t1.shd (ds:=ds) env1.same env.zm S1 (Aj e);refine⟨by rw[rp.len];exact Ce h1.1,λl nl=>?_⟩;have S2:=Kb (o:=.tup vs) nl;refine q _ _ _ h1.2 (S1.trans S2) (.tup (XS X4 λz=>?_)<|Rps.mono (Xx S2 λ_ _ _ z=>z) rp)
  have:=env1.zm l z
  rw[nl]at this;exact this
 ·grind
def N5{H H1 l vs ds}(S1:Same H H1)(nl:H1 l=none)(rp:Rps K (off Z H1) ds vs):TV K Z H0 H (upd H1 l<|.lst vs) (.own ds) (.ref l):=
 ⟨l,rfl,(λ_ e=>e▸S1.free nl),vs,X4,Rps.mono (Xx (Kb nl) λb o hb z y=>y.elim z λe=>by rw[e,nl]at hb;cases hb) rp⟩
def KC(hr:X6 K mg E ta r):Xj K mg E (Lb ta) (Os r):=by
 intro H0 B H σ γ R X Q env p q qx;refine hr H0 B H σ γ _ X _ env p (λss vs H1 h1 S1 t1=>?_) qx;split at h1
 ·rename_i ds e;have rp:=t1.shd (ds:=ds) (env.grow S1).same env.zm S1 (Aj e);refine⟨by rw[rp.len];exact Ce h1.1,λl nl=>?_⟩;exact q _ _ _ h1.2 (S1.trans<|Kb nl) (N5 S1 nl rp)
 ·grind
abbrev Pc:=List D->(S->Prop)->XR->Prop
noncomputable def Xs(mg:Yn)(c:Pc)(K:Yj):Sp:=λvs H Q E=>∃ds R X,Rps K H ds vs/\c ds R X/\(∀s v H',R s->Same H H'->TV K (λb=>Mut (H b)) H H H' s v->Q v H')/\∀e H',X e->Same H H'->XE mg E e H'
noncomputable def S.back:S->S
 | .bor d=>Pf d | .view o=>.tmp o.d|s=>s
def TV.back (env:Xo K H0 B H1 σ γ) (S1:Same H H1) (S2:Same H1 H') (h:TV K (λb=>Mut (H1 b)) H1 H1 H' s v):TV K (zof B γ σ) H0 H H' s.back v:=by
 cases s with
 |bor d=>exact PU (λb z=>PZ S2 (env.zm b z)) (Rp.mono S2 h)
 |sh d=>exact Rp.mono (Xx (Same.refl _) λb _ _ z y=>z (env.zm b y)) h
 |own ds=>
  obtain⟨a,rfl,e0,r⟩:=h;exact⟨a,rfl,(λb hb=>S1.free (e0 b hb)),r.mono (Xx (Same.refl _) λb _ _ z y=>z (y.imp (env.zm b) id)) λ_ _ _ q=>q⟩
 |view ds=>
  obtain⟨a,rfl,r⟩:=h;exact r.rp off_sub
 |tmp d=>exact h
noncomputable def Mo(c:Pc)(r:PTA):PTE:=λγ R X=>r γ (λss=>c (ss.map S.d) (λs=>R s.back) λ_=>False) X
noncomputable def MG(c:Pc)(r:PTA):PTE:=λγ R X=>r γ (λss=>c (ss.map S.d) (λs=>R s.back) X) X
def Nc{ta r}(hr:X6 K mg E ta r):Xj K mg E (TK (Xs mg c K) [] E0 ta) (Mo c r):=by
 intro H0 B H σ γ R X Q env p q qx;refine hr H0 B H σ γ _ X _ env p (λss vs H1 h1 S1 t1=>?_) qx;rw[QB];have env1:=env.grow S1;exact⟨_,_,_,t1.rps env1.same,h1,λs v H' hs S2 tv=>q _ _ H' hs (S1.trans S2) (tv.back env1 S1 S2),λ_ _ z=>z.elim⟩
def Zkt{ta r Ec}(hr:X6 K mg (λ_=>Ec) ta r):Xj K mg (λ_=>Ec) (TK (Xs mg c K) [] Ec ta) (MG c r):=by
 intro H0 B H σ γ R X Q env p q qx;refine hr H0 B H σ γ _ X _ env p (λss vs H1 h1 S1 t1=>?_) qx;rw[QB];have env1:=env.grow S1;exact⟨_,_,X,t1.rps env1.same,h1,λs v H' hs S2 tv=>q _ _ H' hs (S1.trans S2) (tv.back env1 S1 S2),λe H' he S2=>qx e H' he (S1.trans S2)⟩
def Xo.set {s s'}{v} (Ev:Xo K H0 B H σ γ) (S1:Same H H') (h:TV K (zof B γ σ) H0 H H' s v) (e:s.slot=some s') :
  Xo K H0 B H' (σ.set i<|some v) (γ.set i<|some s')/\Fr B H σ γ H' (σ.set i<|some v) (γ.set i<|some s'):=by
 by_cases hi:i<γ.length
 ·exact Ev.put S1 h e hi
 ·rw[List.set_eq_of_length_le (by rw[Ev.len];omega),List.set_eq_of_length_le (by omega)];exact⟨Ev.grow S1,Fr.grow S1⟩
def Upd(is:Yq)(σ σ':L2.St):Prop:=(∀j,j∉is->σ'[j]?=σ[j]?)/\σ'.length=σ.length
def Ng(K:Yj)(is:Yq)(t:TG)(p:PTG):Prop:=∀(H0:Hp) (B:Addr->Prop) (H H':Hp) (σ:L2.St) (γ:Γ) (s:S) (v:V) (R:Γ->Prop) (Q:L2.St->Hp->Prop),Xo K H0 B H σ γ->Same H H'->TV K (zof B γ σ) H0 H H' s v->p s γ R->
 (∀σ' γ',R γ'->Xo K H0 B H' σ' γ'->Fr B H σ γ H' σ' γ'->Upd is σ σ'->Q σ' H')->t v σ H' Q
noncomputable def Bt(i:Nat):PTG:=λs γ R=>match s.slot with|some s'=>R (γ.set i<|some s')|none=>False
def Kt(i:Nat):Ng K [i] (Sm i) (Bt i):=by
 intro H0 B H H' σ γ s v R Q env S1 tv p q;unfold Bt at p;split at p
 ·rename_i s' e;obtain⟨e1,f1⟩:=env.set S1 tv e;exact q _ _ p e1 f1 ⟨λj hj=>Te λz=>hj (by grind),QK⟩
 ·grind
noncomputable def Lq:NK:=λss γ R=>match ss with|[]=>R γ|_=>False
noncomputable def L4(g:PTG)(r:NK):NK:=λss γ R=>match ss with|s::t=>g s γ λγ'=>r t γ' R|[]=>False
def TV.notown {σ'}{γ'}{Hb} (f:Fr B H σ γ H' σ' γ') (hb:Same H H') (n:∀ds,s≠.own ds) (nv:∀ds,s≠.view ds) (h:TV K (zof B γ σ) H0 Hb H s v):TV K (zof B γ' σ') H0 H' H' s v:=by
 cases s with
 |bor d=>exact h
 |sh d=>exact Rp.mono f.off h
 |tmp d=>exact Rp.mono hb h
 |_=>grind
def TVs.notown (f:Fr B H σ γ H σ' γ'):∀{ss}{vs:List V},(∀s∈ss,∀ds,s≠.own ds/\s≠.view ds)->TVs K (zof B γ σ) H0 Hb H ss vs->TVs K (zof B γ' σ') H0 H H ss vs:=by
 intro ss
 induction ss with
 |nil=>
  intro _ _ h;cases h
  exact .nil
 |cons _ _ ih=>
  intro _ n h;cases h with
  |cons h r=>
   exact .cons (h.notown f (Same.refl _) (λds=>(n _ Qu ds).1) λds=>(n _ Qu ds).2) (ih (λs hs=>n s (Qe _ hs)) r)
def Er(d:D):arg d=.sh d\/arg d=.bor d:=by unfold arg;cases imm d<;>simp
def Oo(d:D):Pf d=.sh d\/Pf d=.tmp d:=by unfold Pf;cases imm d<;>simp
def Lg(s:S)(d:D):∀ds,s.sub d≠.own ds/\s.sub d≠.view ds:=λds=>by
 cases s with
 |bor b=>rcases Er d with e|e<;>(show arg d≠_/\arg d≠_;rw[e];exact⟨(λz=>by cases z),(λz=>by cases z)⟩)
 |tmp b=>rcases Oo d with e|e<;>(show Pf d≠_/\Pf d≠_;rw[e];exact⟨(λz=>by cases z),(λz=>by cases z)⟩)
 |sh b=>exact⟨(λz=>by cases z),(λz=>by cases z)⟩
 |own b|view b=>
  cases b with
  |nst cs|nsl a cs=>rcases Oo d with e|e<;>(show Pf d≠_/\Pf d≠_;rw[e];exact⟨(λz=>by cases z),(λz=>by cases z)⟩)
  |_=>exact⟨(λz=>by cases z),(λz=>by cases z)⟩
def B0(K:Yj)(is:Yq)(t:TGs)(p:NK):Prop:=∀(H0:Hp) (B:Addr->Prop) (H:Hp) (σ:L2.St) (γ:Γ) (ss:List S) (vs:List V) (R:Γ->Prop) (Q:L2.St->Hp->Prop),Xo K H0 B H σ γ->TVs K (zof B γ σ) H0 H H ss vs->(∀s∈ss,∀ds,s≠.own ds/\s≠.view ds)->p ss γ R->
 (∀σ' γ',R γ'->Xo K H0 B H σ' γ'->Fr B H σ γ H σ' γ'->Upd is σ σ'->Q σ' H)->t vs σ H Q
def Ir:B0 K [] Rj Lq:=by
 intro H0 B H σ γ ss vs R Q env tv no p q;cases tv with
 |nil=>exact⟨rfl,q _ _ p env Fr.refl ⟨λ_ _=>rfl,rfl⟩⟩
 |cons _ _=>exact p.elim
def CH{g r pg pr}(hg:Ng K is g pg)(hr:B0 K js r pr):B0 K (is++js) (Lc g r) (L4 pg pr):=by
 intro H0 B H σ γ ss vs R Q env tv no p q;cases tv with
 |nil=>exact p.elim
 |cons h t=>
  refine⟨_,_,rfl,hg H0 B H H σ γ _ _ _ _ env (Same.refl _) h p λσ1 γ1 p1 e1 f1 k1=>?_⟩;refine hr H0 B H σ1 γ1 _ _ _ _ e1 (TVs.notown f1 (λs hs=>no s (Qe _ hs)) t) (λs hs=>no s (Qe _ hs)) p1 λσ2 γ2 p2 e2 f2 k2=>?_;exact q σ2 γ2 p2 e2 (f1.trans f2) ⟨λj hj=>(k2.1 j λz=>hj (Ql _ z)).trans (k1.1 j λz=>hj (Q9 _ z)),k2.2.trans k1.2⟩
noncomputable def D8(n:Nat)(r:NK):PTG:=λs γ R=>match s.d with | .tup ds=>ds.length=n/\r (ds.map s.sub) γ R|_=>False
theorem TVs.of_part {ds:List D}{s:S}:∀{vs}{ds:List D},vs.length=ds.length->(∀(i:Nat) d,ds[i]?=some d->∃u,vs[i]?=some u/\TV K Z H0 H H' (s.sub d) u)->TVs K Z H0 H H' (ds.map s.sub) vs
 |[],[],_,_=>.nil
 |[],_::_,e,_|_::_,[],e,_=>by cases e
 |v::vs,d::ds,e,h=>by
  obtain⟨u,h1,h2⟩:=h 0 d rfl;cases h1
  exact .cons h2 (TVs.of_part (ds:=ds) (by grind) λi d' hd=>by simpa using h (i+1) d' (by grind))
def EM{is r pr}(hr:B0 K is r pr):Ng K is (A6 K n r) (D8 n pr):=by
 intro H0 B H H' σ γ s v R Q env S1 tv p q;unfold D8 at p;have env1:=env.grow S1;obtain⟨_,pt⟩:=tv.part env1.same env.zm S1;split at p
 ·rename_i ds e;obtain⟨a,vs,rfl,ha,hn,hp⟩:=pt ds e;refine⟨a,vs,rfl,SqT.of ha,hn.trans p.1,?_⟩;refine hr H0 B H' σ γ _ vs R Q env1 (TVs.notown (Fr.refl) (λs' hs ds=>?_)<|TVs.of_part (ds:=ds) hn hp) (λs' hs ds=>?_) p.2 λσ' γ' hR e1 f1 k1=>q σ' γ' hR e1 (Fr.trans (Fr.grow S1) f1) k1
  ·obtain⟨d,_,rfl⟩:=Qp.mp hs;exact Lg s d ds
  ·obtain⟨d,_,rfl⟩:=Qp.mp hs;exact Lg s d ds
 ·grind
def SR.from {D σ1 γ1} (e:SR K mg E H0 B H σ γ R D) (f:Fr B H σ γ H1 σ1 γ1):SR K mg E H0 B H1 σ1 γ1 R D:=
 ⟨λσ' γ' H' h1 h2 h3=>e.nx σ' γ' H' h1 h2 (f.trans h3),e.rt,λσ' γ' c H' h1 h2 h3=>e.ex σ' γ' c H' h1 h2 (f.trans h3),λσ' γ' H' h1 h2 h3=>e.bk σ' γ' H' h1 h2 (f.trans h3),λσ' γ' H' h1 h2 h3=>e.ct σ' γ' H' h1 h2 (f.trans h3),λσ' γ' d v H' h1 h2 h3=>e.rv σ' γ' d v H' h1 h2 (f.trans h3)⟩
variable {te:TE}{a:PTE}{tt:TT}{c:PTT}{t u:TS}{p q:PTS}
noncomputable def Mq:PTS:=λR γ=>R.nx γ
def An:Xy K mg E HL Mq:=λ_ _ _ _ _ _ _ _ env h e=>e.nx _ _ _ h env Fr.refl
noncomputable def GR(p q:PTS):PTS:=λR γ=>p {R with nx:=q R} γ
def Ra(hp:Xy K mg E t p)(hq:Xy K mg E u q):Xy K mg E (HZ t u) (GR p q):=by
 intro H0 B H σ γ R D hB env h e;refine hp H0 B H σ γ _ _ hB env h ⟨λσ' γ' H' h1 e1 f1=>?_,e.rt,e.ex,e.bk,e.ct,e.rv⟩;exact hq H0 B H' σ' γ' R D hB e1 h1 (e.from f1)
structure LC (p q:PTS) (R:PP) (γ:Γ):Prop where
 w:∃J:Γ->Prop,p {R with nx:=J} γ/\∀γ',J γ'->q R γ'
noncomputable def LS(p q:PTS):PTS:=λR γ=>LC p q R γ
def Zpu(hp:Xy K mg E t p)(hq:Xy K mg E u q):Xy K mg E (Ge t u) (LS p q):=by
 intro H0 B H σ γ R D hB env h e;obtain⟨J,h,k⟩:=h.w;refine⟨λσ' H'=>∃γ',J γ'/\Xo K H0 B H' σ' γ'/\Fr B H σ γ H' σ' γ',hp H0 B H σ γ _ _ hB env h ⟨λσ' γ' H' h1 e1 f1=>⟨γ',h1,e1,f1⟩,e.rt,e.ex,e.bk,e.ct,e.rv⟩,?_⟩;rintro σ' H' ⟨γ',h1,e1,f1⟩;exact hq H0 B H' σ' γ' R D hB e1 (k γ' h1) (e.from f1)
noncomputable def EV(i:Nat)(p:PTS):PTS:=λR γ=>p R (frz i γ)
def Zi8(i:Nat)(hp:Xy K mg E t p):Xy K mg E t (EV i p):=by
 intro H0 B H σ γ R D hB env h e;obtain⟨e1,f1⟩:=env.frz hB i;exact hp H0 B H σ _ R D hB e1 h (e.from f1)
noncomputable def Eo(a:PTE)(g:PTG):PTS:=λR γ=>a γ (λs=>g s γ R.nx) (R.ex γ)
def Tr(ha:Xj K mg E te a)(hg:Ng K is g pg):Xy K mg E (N2 te g) (Eo a pg):=by
 intro H0 B H σ γ R D hB env h e;refine ha H0 B H σ γ _ _ _ env h (λs v H1 h1 S1 t1=>?_) λc H' hc S'=>e.ex σ γ c H' hc (env.grow S') (Fr.grow S');exact hg H0 B H H1 σ γ s v _ _ env S1 t1 h1 λσ' γ' h2 e2 f2 _=>e.nx σ' γ' H1 h2 e2 f2
noncomputable def E2(i:Nat)(f:Int->Int->Int)(a:PTE):PTS:=λR γ=>match γ[i]? with
 |some (some<|.sh<|.int x)=>a γ (λy=>match y.d with | .int j=>R.nx (γ.set i<|some<|.sh<|.int<|f x j)|_=>False) (R.ex γ)
 |_=>False
def Zh7(ha:Xj K mg E te a):Xy K mg E (Gc i te<|ipI f) (E2 i f a):=by
 intro H0 B H σ γ R D hB env h e;unfold E2 at h;split at h
 ·rename_i x hx;obtain⟨v,h1,h2⟩:=env.slot i _ hx;refine⟨v,h1,ha H0 B H σ γ _ _ _ env h (λy u H1 h3 S1 t1=>?_) λc H' hc S'=>e.ex σ γ c H' hc (env.grow S') (Fr.grow S')⟩;have rx:=t1.rp (env.grow S1).same;split at h3
  ·rename_i j ej;rw[ej]at rx;refine⟨x,j,Rp.int_inv h2,rx.int_inv,?_⟩;obtain⟨e1,f1⟩:=env.set (s:=.sh (.int<|f x j)) S1 (.int _) rfl;exact e.nx _ _ H1 h3 e1 f1
  ·grind
 ·grind
noncomputable def Gs(a:PTE):PTS:=λR γ=>a γ R.rt (R.ex γ)
def E4(ha:Xj K mg E te a):Xy K mg E (Sd te) (Gs a):=by
 intro H0 B H σ γ R D hB env h e;refine ha H0 B H σ γ _ _ _ env h (λs v H1 h1 S1 t1=>?_) λc H' hc S'=>e.ex σ γ c H' hc (env.grow S') (Fr.grow S');exact e.rt s v H1 h1 (env.same.trans S1) (TV.weak env.same (λb z=>.inl z) t1)
noncomputable def DW(i:Nat):PTS:=λR γ=>match γ[i]? with|some (some s)=>R.rt s|_=>False
def Zgi(i:Nat):Xy K mg E (Sd<|Kz i) (DW i):=by
 intro H0 B H σ γ R D hB env h e;unfold DW at h;split at h
 ·rename_i s hs;obtain⟨v,h1,h2⟩:=env.slot i _ hs;refine⟨v,h1,e.rt s v H h env.same ?_⟩;cases s with
  |bor d=>exact h2
  |sh d=>exact Rp.mono (Xx (Same.refl _) λb _ _ z y=>z (.inl y)) h2
  |own ds=>
   obtain⟨l,rfl,e2,e3⟩:=h2;exact⟨l,rfl,e2,e3.mono (Xx (Same.refl _) λb _ _ z y=>z (y.elim .inl λw=>.inr ⟨i,ds,l,hs,h1,w⟩)) λ_ _ _ q=>q⟩
  |view ds=>exact h2.elim
  |tmp d=>trivial
 ·grind
noncomputable def Ox(c:PTT)(p q:PTS):PTS:=λR γ=>c γ (λb=>if b=true then p R γ else q R γ) (R.ex γ)
def Zo0(hc:K6 K mg E tt c)(hp:Xy K mg E t p)(hq:Xy K mg E u q):Xy K mg E (AL tt t u) (Ox c p q):=by
 intro H0 B H σ γ R D hB env h e;refine hc H0 B H σ γ _ _ _ env h (λb H1 h1 S1=>?_) λc H' hc S'=>e.ex σ γ c H' hc (env.grow S') (Fr.grow S');split at h1
 ·rename_i hb;rw[WO hb];exact hp H0 B H1 σ γ R D hB (env.grow S1) h1 (e.from<|Fr.grow S1)
 ·rename_i hb;rw[WN hb];exact hq H0 B H1 σ γ R D hB (env.grow S1) h1 (e.from<|Fr.grow S1)
noncomputable def Mm(a:PTE):PTS:=λR γ=>a γ (λ_=>R.nx γ) (R.ex γ)
def NN(ha:Xj K mg E te a):Xy K mg E (Be te) (Mm a):=by
 intro H0 B H σ γ R D hB env h e;exact ha H0 B H σ γ _ _ _ env h (λs v H1 h1 S1 t1=>e.nx σ γ H1 h1 (env.grow S1) (Fr.grow S1)) λc H' hc S'=>e.ex σ γ c H' hc (env.grow S') (Fr.grow S')
noncomputable def HQ(x:Str)(r:PTA):PTS:=λR γ=>r γ (λss=>ss.length<=1000/\R.ex γ x) (R.ex γ)
def TVs.len:∀{ss}{vs:List V},TVs K Z H0 H H' ss vs->vs.length=ss.length:=by
 intro ss
 induction ss with
 |nil=>
  intro _ h;cases h
  rfl
 |cons _ _ ih=>
  intro _ h;cases h with
  |cons h r=>
   exact Q2 (· + 1) (ih r)
def Zmn{ta r Ec}(hr:X6 K mg (λ_=>Ec) ta r)(hx:autoParam (TJ x=none) au_0):Xy K mg (λ_=>Ec) (ExcR.OF (ExcR.Xl mg x) Ec ta) (HQ x r):=by
 intro H0 B H σ γ R D hB env h e;refine hr H0 B H σ γ _ _ _ env h (λss vs H1 h1 S1 t1=>⟨?_,?_⟩) λc H' hc S'=>e.ex σ γ c H' hc (env.grow S') (Fr.grow S')
 ·rw[t1.len];exact Ce h1.1
 ·exact(e.ex σ γ x H1 h1.2 (env.grow S1)<|Fr.grow S1).plain hx
def Zp6(i j:Nat)(γ:Γ)(R:Γ->Prop):List S->Prop
 |[.sh d,.sh e]=>R ((γ.set i<|some<|.sh d).set j (some<|.sh e))
 |_=>False
noncomputable def clr:Yq->Γ->Γ
 |[],γ=>γ
 |i::r,γ=>clr r (γ.set i none)
theorem Xo.clr:∀is {γ:Γ},Xo K H0 B H σ γ->Xo K H0 B H σ (clr is γ)/\Fr B H σ γ H σ (Pu.clr is γ)
 |[],_,e=>⟨e,Fr.refl⟩
 |i::r,γ,e=>by
  obtain⟨e1,f1⟩:=e.drop i;obtain⟨e2,f2⟩:=Xo.clr r e1;exact⟨e2,f1.trans f2⟩
def Later(H0:Hp)(Z:Addr->Prop)(H1:Hp)(Z':Addr->Prop)(H':Hp):Prop:=Same H0 H'/\(∀b,Z' b->Mut (H' b))/\∀b o,H1 b=some o->¬Z b->H' b=some o/\¬Z' b
def Later.of (e:Xo K H0 B H' σ' γ') (f:Fr B H1 σ γ H' σ' γ'):Later H0 (zof B γ σ) H1 (zof B γ' σ') H':=⟨e.same,e.zm,f⟩
def Later.off (l:Later H0 Z H1 Z' H'):Same (off Z H1) (Pu.off Z' H'):=λb o h=>by
 obtain⟨h1,h2⟩:=P9 h;obtain⟨h3,h4⟩:=l.2.2 b o h1 h2;exact XS h3 h4
structure Lw (K:Yj) (H0:Hp) (B:Addr->Prop) (H1:Hp) (σ:L2.St) (γ:Γ) (J:It) (n:Nat) (item:Nat->S):Prop where
 go:∀(i:Nat) (H':Hp) (Z':Addr->Prop),i<n->Later H0 (zof B γ σ) H1 Z' H'->J.go i H'/\∀x H'',J.yld i H' x H''->Same H' H''/\TV K Z' H0 H' H'' (item i) x
 stop:∀(H':Hp) (Z':Addr->Prop),Later H0 (zof B γ σ) H1 Z' H'->J.stop n H'
abbrev PTI:=Γ->(Nat->(Nat->S)->Prop)->XR->Prop
def SndI(K:Yj)(mg:Yn)(E:L2.St->XK)(wi:TI)(it:PTI):Prop:=∀(H0:Hp) (B:Addr->Prop) (H:Hp) (σ:L2.St) (γ:Γ) (R:Nat->(Nat->S)->Prop) (X:XR) (Q:It->Hp->Prop),Xo K H0 B H σ γ->it γ R X->
 (∀n item J H1,R n item->Same H H1->Lw K H0 B H1 σ γ J n item->Q J H1)->(∀c H',X c->Same H H'->XE mg (E σ) c H')->wi σ H Q
structure Dq (js:Yq) (γ:Γ) (g:PTG) (body:PTS) (R:PP) (n:Nat) (item:Nat->S):Prop where
 w:∃inv:Nat->Γ->Prop,inv 0 (clr js γ)/\
 (∀i γ',i<n->inv i γ'->g (item i) γ' λγ2=>body {R with nx:=λγ3=>inv (i+1) (clr js γ3),ct:=λγ3=>inv (i+1) (clr js γ3),bk:=R.nx} γ2)/\∀γ',inv n γ'->R.nx γ'
noncomputable def Hl(js:Yq)(it:PTI)(g:PTG)(body:PTS):PTS:=λR γ=>it γ (λn item=>Dq js γ g body R n item) (R.ex γ)
def Zfx{wi g it pg}(js:Yq)(hi:SndI K mg E wi it)(hg:Ng K is g pg)(hb:Xy K mg E t p):Xy K mg E (Rm wi g t) (Hl js it pg p):=by
 intro H0 B H σ γ R D hB env h e;refine hi H0 B H σ γ _ _ _ env h (λn item J H1 h1 S1 ok=>?_) λc H' hc S'=>e.ex σ γ c H' hc (env.grow S') (Fr.grow S');obtain⟨inv,h0,hs,hd⟩:=h1.w;have env1:=env.grow S1;refine⟨λi m σ' H'=>m=n-i/\i<=n/\∃γ',inv i γ'/\Xo K H0 B H' σ' γ'/\Fr B H1 σ γ H' σ' γ',⟨n,by simp,QY _,_,h0,(env1.clr js).1,(env1.clr js).2⟩,?_⟩;rintro i m σ' H' ⟨rfl,hin,γ',hi',e',f'⟩;by_cases hlt:i<n
 ·obtain⟨go,yl⟩:=ok.go i H' _ hlt (Later.of e' f');refine .inr ⟨go,λσ2 H2=>∃γ2,inv (i+1) γ2/\Xo K H0 B H2 σ2 γ2/\Fr B H1 σ γ H2 σ2 γ2,λσ2 H2 ⟨γ2,a1,a2,a3⟩=>⟨n-(i+1),by omega,rfl,hlt,γ2,a1,a2,a3⟩,λx H'' y=>?_⟩;obtain⟨S2,tv⟩:=yl x H'' y;refine hg H0 B H' H'' σ' γ' _ _ _ _ e' S2 tv (hs i γ' hlt hi') λσ2 γ2 q2 e2 f2 _=>?_;have fall:=f'.trans f2;refine hb H0 B H'' σ2 γ2 _ _ hB e2 q2 ⟨λσ3 γ3 H3 q3 e3 f3=>?_,e.rt,λσ3 γ3 c H3 q3 e3 f3=>e.ex σ3 γ3 c H3 q3 e3 ((Fr.grow S1).trans (fall.trans f3)),λσ3 γ3 H3 q3 e3 f3=>e.nx σ3 γ3 H3 q3 e3 ((Fr.grow S1).trans (fall.trans f3)),λσ3 γ3 H3 q3 e3 f3=>?_,λσ3 γ3 d v H3 q3 e3 f3=>e.rv σ3 γ3 d v H3 q3 e3 ((Fr.grow S1).trans (fall.trans f3))⟩
  ·exact⟨_,q3,(e3.clr js).1,(fall.trans f3).trans (e3.clr js).2⟩
  ·exact⟨_,q3,(e3.clr js).1,(fall.trans f3).trans (e3.clr js).2⟩
 ·have:i=n:=by omega
  subst this;exact .inl ⟨ok.stop H' _ (Later.of e' f'),e.nx σ' γ' H' (hd γ' hi') e' ((Fr.grow S1).trans f')⟩
noncomputable def S.fix:S->Bool
 | .bor _=>true | .sh _=>true | .own (.nsl _ _)=>false | .own _=>true|_=>false
noncomputable def pIL(a:PTE):PTI:=λγ R X=>a γ (λs=>match s.d with
 | .lst ds=>s.fix=true/\R ds.length λi=>s.sub (ds.getD i .non)
 | .scr ns=>s.fix=true/\R ns.length λi=>.sh (.int<|ns.getD i 0)
 |_=>False) X
def TV.last (env:Xo K H0 B H σ γ) (S1:Same H H1) (tv:TV K (zof B γ σ) H0 H H1 s v) (hf:s.fix=true) (hd:s.d=.lst ds):∃l vs,v=.ref l/\vs.length=ds.length/\
  ∀H' Z',Later H0 (zof B γ σ) H1 Z' H'->H' l=some (.lst vs)/\∀(i:Nat) d,ds[i]?=some d->∃u,vs[i]?=some u/\TV K Z' H0 H' H' (s.sub d) u:=by
 have key:∀{s:S},(∀d,s.sub d=.sh d)->Rp K (Pu.off (zof B γ σ) H1) (.lst ds) v->∃l vs,v=.ref l/\vs.length=ds.length/\
   ∀H' Z',Later H0 (zof B γ σ) H1 Z' H'->H' l=some (.lst vs)/\∀i d,ds[i]?=some d->∃u,vs[i]?=some u/\TV K Z' H0 H' H' (s.sub d) u:=λhs h=>by
  obtain⟨l,vs,rfl,h1,h2⟩:=Rp.lst_inv h;refine⟨l,vs,rfl,h2.len,λH' Z' lt=>⟨off_sub _ _ (lt.off _ _ h1),λi d hi=>?_⟩⟩;obtain⟨u,h3,h4⟩:=h2.get hi;refine⟨u,h3,?_⟩;rw[hs];exact Rp.mono lt.off h4
 cases s with
 |bor d=>
  have tv:=Rp.strip tv;rw[show d.strip=.lst ds from hd]at tv
  obtain⟨l,vs,rfl,h1,h2⟩:=Rp.lst_inv tv;refine⟨l,vs,rfl,h2.len,λH' Z' lt=>⟨lt.1 _ _ h1,λi d hi=>?_⟩⟩;obtain⟨u,h3,h4⟩:=h2.get hi;exact⟨u,h3,N3 lt.2.1 lt.1 h4⟩
 |sh d=>
  have:=hd
  subst this;exact key (λ_=>rfl) tv
 |own es=>
  cases es with
  |dK es|dT es|ins x C xs cs|nst cs=>cases hd
  |nsl a cs=>cases hf
  |_=>
   cases hd
   exact key (λ_=>rfl) (tv.shd (env.grow S1).same env.zm S1 rfl)
 |_=>cases hf
def Ziz(ha:Xj K mg E te a):SndI K mg E (SC K te) (pIL a):=by
 intro H0 B H σ γ R X Q env h q qx;refine ha H0 B H σ γ _ X _ env h (λs v H1 h1 S1 t1=>?_) qx;have env1:=env.grow S1;split at h1
 ·rename_i ds ed;obtain⟨l,vs,rfl,hn,hl⟩:=t1.last env S1 h1.1 ed;obtain⟨hl1,_⟩:=hl H1 _ (Later.of env1 Fr.refl);refine⟨l,rfl,⟨vs,SqL.of hl1⟩,q _ _ _ H1 h1.2 S1 ⟨λi H' Z' hi lt=>?_,λH' Z' lt=>?_⟩⟩
  ·obtain⟨k1,k2⟩:=hl H' Z' lt;have hd:ds[i]?=some (ds.getD i .non):=by rw[Qb,WH hi];rfl
   obtain⟨u,hu,tu⟩:=k2 i _ hd;refine⟨⟨vs,u,SqL.of k1,hu⟩,λx H'' y=>?_⟩;obtain⟨rfl,y⟩:=y
   have:=y vs (SqL.of k1)
   rw[hu]at this;cases this
   exact⟨Same.refl _,tu⟩
  ·exact⟨vs,SqL.of (hl H' Z' lt).1,by omega⟩
 ·rename_i ns ed
  have hs:∃l,v=.ref l/\∀H' Z',Later H0 (zof B γ σ) H1 Z' H'->SqL K H' l (ns.map V.int):=by
   cases s with
   |bor d=>
    have t1:=Rp.strip t1;rw[show d.strip=.scr ns from ed]at t1
    cases t1 with
    |scr hs=>exact⟨_,rfl,λH' Z' lt=>lt.1.seq hs⟩
   |sh d=>
    have:=ed
    subst this;cases t1 with
    |scr hs=>exact⟨_,rfl,λH' Z' lt=>off_sub.seq (lt.off.seq hs)⟩
   |own es|view es=>cases es<;>cases ed
   |tmp d=>cases h1.1
  obtain⟨l,rfl,hl⟩:=hs;refine⟨l,rfl,⟨_,hl H1 _ (Later.of env1 Fr.refl)⟩,q _ _ _ H1 h1.2 S1 ⟨λi H' Z' hi lt=>?_,λH' Z' lt=>?_⟩⟩
  ·have k1:=hl H' Z' lt
   have hu:(ns.map V.int)[i]?=some (.int<|ns.getD i 0):=by
    rw[WS,WH hi,Qb,WH hi];rfl
   refine⟨⟨_,_,k1,hu⟩,λx H'' y=>?_⟩;obtain⟨rfl,y⟩:=y
   have:=y _ k1
   rw[hu]at this;cases this
   exact⟨Same.refl _,.int _⟩
  ·exact⟨_,hl H' Z' lt,by rw[WG];exact WQ _⟩
 ·exact h1.elim
def fR1(R:Nat->(Nat->S)->Prop):List D->Prop
 |[.int j]=>(-(2 ^ 62)<=j/\j<2 ^ 62)/\R j.toNat λi=>.sh (.int (0+(i:Int)))
 |_=>False
def fR2(R:Nat->(Nat->S)->Prop):List D->Prop
 |[.int i,.int j]=>(-(2 ^ 62)<=i/\i<2 ^ 62/\-(2 ^ 62)<=j/\j<2 ^ 62)/\R (j-i).toNat λk=>.sh (.int (i+(k:Int)))
 |_=>False
noncomputable def Lu(r:PTA):PTI:=λγ R X=>r γ (λss=>fR1 R (ss.map S.d)) X
noncomputable def IC(r:PTA):PTI:=λγ R X=>r γ (λss=>fR2 R (ss.map S.d)) X
def Rps.one_inv (h:Rps K H [d] vs):∃v,vs=[v]/\Rp K H d v:=by
 cases h with
 |cons h r=>cases r;exact⟨_,rfl,h⟩
def Rps.two_inv (h:Rps K H [d,e] vs):∃v u,vs=[v,u]/\Rp K H d v/\Rp K H e u:=by
 cases h with
 |cons h r=>cases r with|cons h2 r=>cases r;exact⟨_,_,rfl,h,h2⟩
def O0{lo n}:Lw K H0 B H1 σ γ (Itr lo n) n λi=>.sh (.int (lo+(i:Int))):=by
 refine⟨λi H' Z' hi lt=>⟨hi,λx H'' y=>?_⟩,λH' Z' lt=>WQ _⟩;obtain⟨e,y⟩:=y;subst e y;exact⟨Same.refl _,.int _⟩
def Zjv(hr:X6 K mg E ta r):SndI K mg E (IE ta) (Lu r):=by
 intro H0 B H σ γ R X Q env h q qx;refine hr H0 B H σ γ _ X _ env h (λss vs H1 h1 S1 t1=>?_) qx;have rv:=t1.rps (env.grow S1).same;unfold fR1 at h1;split at h1
 ·rename_i j ej;rw[ej]at rv;obtain⟨v,rfl,r1⟩:=rv.one_inv;rw[r1.int_inv];exact⟨j,rfl,h1.1.1,h1.1.2,q _ _ _ H1 h1.2 S1 O0⟩
 ·grind
def Zix(hr:X6 K mg E ta r):SndI K mg E (Hq ta) (IC r):=by
 intro H0 B H σ γ R X Q env h q qx;refine hr H0 B H σ γ _ X _ env h (λss vs H1 h1 S1 t1=>?_) qx;have rv:=t1.rps (env.grow S1).same;unfold fR2 at h1;split at h1
 ·rename_i i j ej;rw[ej]at rv;obtain⟨v,u,rfl,r1,r2⟩:=rv.two_inv;rw[r1.int_inv,r2.int_inv];exact⟨i,j,rfl,h1.1,q _ _ _ H1 h1.2 S1 O0⟩
 ·grind
structure Me (js:Yq) (γ:Γ) (c:PTT) (body:PTS) (R:PP):Prop where
 w:∃(inv:Γ->Prop) (μ:Γ->Nat),inv (clr js γ)/\∀γ',inv γ'->c γ' (λb=>if b=true then
  body {R with nx:=λγ3=>inv (clr js γ3)/\μ (clr js γ3)<μ γ',ct:=λγ3=>inv (clr js γ3)/\μ (clr js γ3)<μ γ',bk:=R.nx} γ' else R.nx γ') (R.ex γ')
noncomputable def Gd(js:Yq)(c:PTT)(body:PTS):PTS:=λR γ=>Me js γ c body R
def Zal(js:Yq)(hc:K6 K mg E tt c)(hb:Xy K mg E t p):Xy K mg E (O8 tt t) (Gd js c p):=by
 intro H0 B H σ γ R D hB env h e;obtain⟨inv,μ,h0,hs⟩:=h.w;refine⟨λm σ' H'=>∃γ',m=μ γ'/\inv γ'/\Xo K H0 B H' σ' γ'/\Fr B H σ γ H' σ' γ',⟨_,_,rfl,h0,(env.clr js).1,(env.clr js).2⟩,?_⟩;rintro m σ' H' ⟨γ',rfl,hi,e',f'⟩;refine hc H0 B H' σ' γ' _ _ _ e' (hs γ' hi) (λb H1 h1 S1=>?_) λc H'' hc S'=>e.ex σ' γ' c H'' hc (e'.grow S') (f'.trans<|Fr.grow S');have e1:=e'.grow S1;have f1:=f'.trans (Fr.grow S1);cases b with
 |false=>
  exact e.nx σ' γ' H1 h1 e1 f1
 |true=>
  refine⟨λσ2 H2=>∃γ2,μ γ2<μ γ'/\inv γ2/\Xo K H0 B H2 σ2 γ2/\Fr B H σ γ H2 σ2 γ2,λσ2 H2 ⟨γ2,k,a1,a2,a3⟩=>⟨_,k,γ2,rfl,a1,a2,a3⟩,?_⟩;refine hb H0 B H1 σ' γ' _ _ hB e1 h1 ⟨λσ3 γ3 H3 q3 e3 f3=>?_,e.rt,λσ3 γ3 c H3 q3 e3 f3=>e.ex σ3 γ3 c H3 q3 e3 (f1.trans f3),λσ3 γ3 H3 q3 e3 f3=>e.nx σ3 γ3 H3 q3 e3 (f1.trans f3),λσ3 γ3 H3 q3 e3 f3=>?_,λσ3 γ3 d v H3 q3 e3 f3=>e.rv σ3 γ3 d v H3 q3 e3 (f1.trans f3)⟩
  ·exact⟨_,q3.2,q3.1,(e3.clr js).1,(f1.trans f3).trans (e3.clr js).2⟩
  ·exact⟨_,q3.2,q3.1,(e3.clr js).1,(f1.trans f3).trans (e3.clr js).2⟩
end
section
variable {K:Yj}{mg:Yn}{E:L2.St->XK}{H0 H H1 H':Hp}{B Z Z':Addr->Prop}{σ:L2.St}{γ:Γ}
noncomputable def PD(N:Ys)(ds:List D):Γ:=ds.map (λd=>some (arg d))++List.replicate (N.length-ds.length) none
def Ziv{ds vs}(r:Rps K H ds vs)(hn:ds.length<=N.length):Xo K H (λb=>Mut (H b)) H (start N vs) (PD N ds):=by
 have get:∀i s,(PD N ds)[i]?=some (some s)->∃d,ds[i]?=some d/\s=arg d:=λi s h=>by
  unfold PD at h;by_cases hi:i<ds.length
  ·rw[Qs (by rw[WG];exact hi),WS,WH hi]at h;exact⟨_,WH hi,(WW<|WW h).symm⟩
  ·rw[Q1 (by rw[WG];omega),VA]at h;split at h<;>cases h
 have noown:∀(i:Nat) es,(PD N ds)[i]?≠some (some<|.own es):=λi es h=>by
  obtain⟨d,_,e⟩:=get i _ h;rcases Er d with q|q<;>rw[q]at e<;>cases e
 refine⟨Same.refl _,?_,λb h=>h,λi j a a' es es' b h=>absurd h (noown i es),λi s h=>?_⟩
 ·unfold L2.start PD;simp[r.len]
 ·obtain⟨d,hd,rfl⟩:=get i s h;obtain⟨v,hv,rv⟩:=r.get hd;refine⟨v,?_,?_⟩
  ·unfold L2.start;rw[Qs (by rw[WG];exact(WZ.mp hv).1),WS,hv];rfl
  ·have tv:=N3 (Z:=zof (λb=>Mut (H b)) (PD N ds) (start N vs)) (H:=H) (λb z=>z.elim id λ⟨k,es,_,k1,_⟩=>absurd k1 (noown k es)) (Same.refl _) rv;rcases Er d with q|q<;>rw[q]at tv ⊢<;>exact tv
def R7{t p vs Q Ec n}(h:Xs mg c K vs H Q Ec)(snd:Xy K mg (λ_=>Ec) t p)(hn:n<=N.length)(hp:∀ds R X,c ds R X->ds.length=n/\p {nx:=λ_=>R (.sh .non),rt:=R,ex:=λ_ e=>X e} (PD N ds)):t {nx:=λ_ H'=>Q .non H',rt:=Q} (start N vs) H:=by
 obtain⟨ds,R,X,r,hc,hQ,hX⟩:=h;obtain⟨e,hp⟩:=hp ds R X hc;refine snd H (λb=>Mut (H b)) H _ _ _ _ (λb z=>Tt z) (Ziv r<|by omega) hp ⟨λσ' γ' H' h1 e1 f1=>hQ _ _ H' h1 e1.same .non,λs v H' h1 S1 tv=>hQ s v H' h1 S1 tv,λσ' γ' c H' h1 e1 f1=>hX c H' h1 e1.same,λ_ _ _ z=>z.elim,λ_ _ _ z=>z.elim,λ_ _ _ _ _ z=>z.elim⟩
def Zpt(h:Xs mg c K vs H Q Ec)(hn:∀ds R X,c ds R X->ds.length=n):vs.length=n:=by
 obtain⟨ds,R,X,r,hc,_⟩:=h;rw[r.len]
 grind
noncomputable def atP(φ:Yp)(γ:Γ):Γ:=φ.map λo=>o.bind λj=>(γ[j]?).join
structure Sw (φ:Yp) (γ:Γ) (g:PTG) (c:PTT) (e:PTE) (n:Nat) (item:Nat->S) (R:S->Prop):Prop where
 w:n<=100000/\∃f:Nat->Option D,(∀i,i<n->g (item i) (atP φ γ) λγ2=>c γ2 (λb=>if b=true then e γ2 (λs=>∃d,s.shd=some d/\f i=some d) (λ_=>False)else f i=none) (λ_=>False))/\R (.own ((List.range n).filterMap f))
noncomputable def AV(φ:Yp)(it:PTI)(g:PTG)(c:PTT)(e:PTE):PTE:=λγ R X=>it γ (λn item=>Sw φ γ g c e n item R) X
def BV{i:Nat}{s}(h:(atP φ γ)[i]?=some (some s)):∃j,φ[i]?=some (some j)/\γ[j]?=some (some s):=by
 unfold atP at h;cases e:φ[i]? with
 |none=>grind
 |some o=>
  cases o with
  |_=>grind
theorem Az:∀{φ:Yp},(φ.filterMap id).Nodup->∀(i j k:Nat),φ[i]?=some (some k)->φ[j]?=some (some k)->i=j
 |[],_,i,_,_,h,_=>by simp at h
 |none::r,hn,i,j,k,h1,h2=>by
  cases i with
  |zero=>simp at h1
  |succ i=>
   cases j with
   |zero=>simp at h2
   |succ j=>exact Q2 (· + 1) (Az (by simpa using hn) i j k (by simpa using h1)<|by simpa using h2)
 |some m::r,hn,i,j,k,h1,h2=>by
  have hn':m∉r.filterMap id/\(r.filterMap id).Nodup:=by simpa using hn
  have mem:∀{j:Nat},r[j]?=some (some k)->k∈r.filterMap id:=λh=>JJ.mpr ⟨some k,Qg h,rfl⟩;cases i with
  |zero=>
   cases j with
   |zero=>rfl
   |succ j=>simp_all
  |succ i=>
   cases j with
   |zero=>simp_all
   |succ j=>exact Q2 (· + 1) (Az hn'.2 i j k (by simpa using h1)<|by simpa using h2)
def BJ{i j:Nat}(h1:φ[i]?=some (some j)){v}(h2:σ[j]?=some (some v)):(atStart φ σ)[i]?=some (some v):=by
 unfold atStart
 grind
def IM{L}(env:Xo K H0 B H σ γ)(nL:H L=none):∀b o,H b=some o->¬zof B γ σ b->¬zof (λb=>zof B γ σ b\/b=L) (atP φ γ) (atStart φ σ) b:=λb o hb z y=>by
 rcases y with(y|y)|⟨i',ds,x,y1,y2,y3⟩
 ·grind
 ·grind
 ·obtain⟨m,m1,m2⟩:=BV y1;obtain⟨w,w1,_⟩:=env.slot m _ m2;rw[BJ m1 w1]at y2;exact z (.inr ⟨m,ds,x,m2,by rw[w1];exact Q2 some (WW y2),y3⟩)
def Znh{L}(env:Xo K H0 B H σ γ)(S1:Same H H')(nL:H L=none)(hL:∃ys,H' L=some (.lst ys))(hφ:(φ.filterMap id).Nodup) :
  Xo K H0 (λb=>zof B γ σ b\/b=L) H' (atStart φ σ) (atP φ γ):=by
 refine⟨env.same.trans S1,by unfold atStart atP;simp,λb z=>?_,λi j a a' ds es b h1 h2 h3 h4 h5 h6=>?_,λi s h=>?_⟩
 ·rcases z with z|rfl
  ·exact PZ S1 (env.zm b z)
  ·obtain⟨ys,e⟩:=hL;rw[e];trivial
 ·obtain⟨k,k1,k2⟩:=BV h1;obtain⟨l,l1,l2⟩:=BV h2;obtain⟨v,v1,_⟩:=env.slot k _ k2;obtain⟨u,u1,_⟩:=env.slot l _ l2;rw[BJ k1 v1]at h3;rw[BJ l1 u1]at h4
  have:=env.own k l a a' ds es b k2 l2 (by grind) (by rw[u1];exact Q2 some (WW h4)) h5 h6
  subst this;exact Az hφ i j k k1 l1
 ·obtain⟨k,k1,k2⟩:=BV h;obtain⟨v,v1,v2⟩:=env.slot k _ k2;have So:Same (off (zof B γ σ) H) (off (zof (λb=>zof B γ σ b\/b=L) (atP φ γ)<|atStart φ σ) H'):=Xx S1 (IM env nL);refine⟨v,BJ k1 v1,?_⟩;cases s with
  |sh d=>exact Rp.mono So v2
  |own ds=>
   obtain⟨a,e1,e3,e4⟩:=v2;exact⟨a,e1,e3,e4.mono So λb _ x=>S1 b x⟩
  |_=>exact v2
def Sub.of {is:Yq} (hl:σ'.length=σ.length) (h1:∀j,j∉is->σ'[j]?=σ[j]?) (h2:∀j∈is,∀v,σ[j]?≠some (some v)):Sub σ σ':=⟨hl,λi v e=>by
 by_cases hi:i∈is
 ·grind
 ·rw[h1 i hi];exact e⟩
structure Za8 (K:Yj) (H0:Hp) (B:Addr->Prop) (H1:Hp) (σ:L2.St) (γ:Γ) (J:It) (n:Nat) (item:Nat->S):Prop where
 go:∀(i:Nat) (H':Hp) (Z':Addr->Prop),i<n->Same H1 H'->Later H0 (zof B γ σ) H1 Z' H'->J.go i H'/\∀x H'',J.yld i H' x H''->Same H' H''/\TV K Z' H0 H' H'' (item i) x
 stop:∀(H':Hp) (Z':Addr->Prop),Same H1 H'->Later H0 (zof B γ σ) H1 Z' H'->J.stop n H'
def NQ(K:Yj)(mg:Yn)(E:L2.St->XK)(wi:TI)(it:PTI):Prop:=∀(H0:Hp) (B:Addr->Prop) (H:Hp) (σ:L2.St) (γ:Γ) (R:Nat->(Nat->S)->Prop) (X:XR) (Q:It->Hp->Prop),Xo K H0 B H σ γ->it γ R X->
 (∀n item J H1,R n item->Same H H1->Za8 K H0 B H1 σ γ J n item->Q J H1)->(∀c H',X c->Same H H'->XE mg (E σ) c H')->wi σ H Q
def SndI.c (h:SndI K mg E wi it):NQ K mg E wi it:=λH0 B H σ γ R X Q env p q qx=>
 h H0 B H σ γ R X Q env p (λn item J H1 hR S1 ok=>q n item J H1 hR S1 ⟨λi H' Z' hi _ lt=>ok.go i H' Z' hi lt,λH' Z' _ lt=>ok.stop H' Z' lt⟩) qx
noncomputable def Gu(a:PTE):PTI:=λγ R X=>a γ (λs=>match s.d with
 | .lst ds=>R ds.length λi=>s.sub (ds.getD i .non)
 | .tup ds=>False
 | .scr ns=>R ns.length λi=>.sh (.int<|ns.getD i 0)
 |_=>False) X
def Sa(ha:Xj K mg E te a):NQ K mg E (SC K te) (Gu a):=by
 intro H0 B H σ γ R X Q env h q qx;refine ha H0 B H σ γ _ X _ env h (λs v H1 h1 S1 t1=>?_) qx;have env1:=env.grow S1;split at h1
 ·rename_i ds ed;have rv:=t1.rp env1.same;rw[ed]at rv;obtain⟨l,vs,rfl,hl1,r1⟩:=rv.lst_inv;refine⟨l,rfl,⟨vs,SqL.of hl1⟩,q _ _ _ H1 h1 S1 ⟨λi H' Z' hi S2 lt=>?_,λH' Z' S2 lt=>⟨vs,SqL.of (S2 _ _ hl1),by rw[r1.len];exact WQ _⟩⟩⟩;have hd:ds[i]?=some (ds.getD i .non):=by rw[Qb,WH hi];rfl
  have hi':∃u,vs[i]?=some u/\TV K Z' H0 H' H' (s.sub<|ds.getD i .non) u:=by
   cases s with
   |bor d=>
    have t1:=Rp.strip t1;rw[show d.strip=.lst ds from ed]at t1
    obtain⟨l',vs',e',h3,r3⟩:=Rp.lst_inv t1;cases e'
    rw[env1.same _ _ h3]at hl1;cases hl1
    obtain⟨u,h4,h5⟩:=r3.get hd;exact⟨u,h4,N3 lt.2.1 lt.1 h5⟩
   |sh d=>
    have:=ed
    subst this;obtain⟨l',vs',e',h3,r3⟩:=Rp.lst_inv t1;cases e'
    rw[off_sub _ _ h3]at hl1;cases hl1
    obtain⟨u,h4,h5⟩:=r3.get hd;exact⟨u,h4,Rp.mono lt.off h5⟩
   |own es=>
    cases es with
    |dK es|dT es|ins x C xs cs|nst cs=>cases ed
    |nsl x cs=>
     obtain⟨u,h4,h5⟩:=r1.get hd;exact⟨u,h4,PU lt.2.1 (Rp.mono S2 h5)⟩
    |lsA x es=>
     cases ed
     obtain⟨l',e',h0,_,vs',h3,r3⟩:=t1;cases e'
     rw[h3]at hl1;cases hl1
     obtain⟨u,h4,h5⟩:=r3.get hd;exact⟨u,h4,Rp.mono lt.off (Rp.mono (Xx (Same.refl _) λb _ _ z y=>z (.inl y)) h5)⟩
    |lst es=>
    cases ed
    obtain⟨l',e',h0,vs',h3,r3⟩:=t1;cases e'
    rw[h3]at hl1;cases hl1
    obtain⟨u,h4,h5⟩:=r3.get hd;exact⟨u,h4,Rp.mono lt.off (Rp.mono (Xx (Same.refl _) λb _ _ z y=>z (.inl y)) h5)⟩
   |view es=>
    cases es with
    |dK es|dT es|ins x C xs cs|nst cs=>cases ed
    |nsl x cs=>
     obtain⟨u,h4,h5⟩:=r1.get hd;exact⟨u,h4,PU lt.2.1 (Rp.mono S2 h5)⟩
    |lsA x es=>
     cases ed
     obtain⟨l',e',_,vs',h3,r3⟩:=t1;cases e'
     rw[h3]at hl1;cases hl1
     obtain⟨u,h4,h5⟩:=r3.get hd;exact⟨u,h4,Rp.mono lt.off h5⟩
    |lst es=>
    cases ed
    obtain⟨l',e',vs',h3,r3⟩:=t1;cases e'
    rw[h3]at hl1;cases hl1
    obtain⟨u,h4,h5⟩:=r3.get hd;exact⟨u,h4,Rp.mono lt.off h5⟩
   |tmp d=>
    have:=ed
    subst this;obtain⟨l',vs',e',h3,r3⟩:=Rp.lst_inv t1;cases e'
    rw[h3]at hl1;cases hl1
    obtain⟨u,h4,h5⟩:=r3.get hd;exact⟨u,h4,PU lt.2.1 (Rp.mono S2 h5)⟩
  obtain⟨u,hu,tu⟩:=hi';refine⟨⟨vs,u,SqL.of (S2 _ _ hl1),hu⟩,λx H'' y=>?_⟩;obtain⟨rfl,y⟩:=y
  have:=y vs (SqL.of<|S2 _ _ hl1)
  rw[hu]at this;cases this
  exact⟨Same.refl _,tu⟩
 ·exact h1.elim
 ·rename_i ns ed;have rv:=t1.rp env1.same;rw[ed]at rv;cases rv with
  |scr hs=>
   refine⟨_,rfl,⟨_,hs⟩,q _ _ _ H1 h1 S1 ⟨λi H' Z' hi S2 lt=>?_,λH' Z' S2 lt=>⟨_,S2.seq hs,by rw[WG];exact WQ _⟩⟩⟩
   have hu:(ns.map V.int)[i]?=some (.int<|ns.getD i 0):=by
    rw[WS,WH hi,Qb,WH hi];rfl
   refine⟨⟨_,_,S2.seq hs,hu⟩,λx H'' y=>?_⟩;obtain⟨rfl,y⟩:=y
   have:=y _ (S2.seq hs)
   rw[hu]at this;cases this
   exact⟨Same.refl _,.int _⟩
 ·exact h1.elim
def To{φ is wi g tc te it pg c a}(hi:NQ K mg E wi it)(hg:Ng K is g pg)(hc:K6 K mg E tc c)(he:Xj K mg E te a)(h1:autoParam ((φ.filterMap id).Nodup) au_1)(h2:autoParam (∀j∈is,φ[j]?=some none) au_1):Xj K mg E (Ba φ wi g tc te) (AV φ it pg c a):=by
 intro H0 B H σ γ R X Q env h q qx;refine hi H0 B H σ γ _ X _ env h (λn item J H1 h1' S1 ok=>?_) qx;obtain⟨hn,f,hf,hR⟩:=h1'.w;have env1:=env.grow S1;have hbig:n<=sizeLine:=WU hn (by decide);intro L nL;refine⟨λi m ys H2=>m=n-i/\i<=n/\Same H1 H2/\H2 L=some (.lst ys)/\Rps K (off (λb=>zof B γ σ b\/b=L) H2) ((List.range i).filterMap f) ys,⟨n,by simp,QY _,Kb nL,X4,.nil⟩,?_⟩;rintro i m ys H2 ⟨rfl,hin,S2,hL,hys⟩;have env2:=env1.grow S2;by_cases hlt:i<n
 ·have envI2:=Znh env1 S2 nL ⟨ys,hL⟩ h1;obtain⟨go,yl⟩:=ok.go i H2 _ hlt S2 ⟨env2.same,envI2.zm,λb o hb z=>⟨S2 _ _ hb,IM env1 nL b o hb z⟩⟩;refine .inr ⟨go,λx H3 y=>?_⟩;obtain⟨S3,tv⟩:=yl x H3 y;refine hg H0 _ H2 H3 _ _ _ _ _ _ envI2 S3 tv (hf i hlt) λσ2 γ2 p2 e2 f2 k2=>⟨?_,?_⟩
  ·refine Sub.of k2.2 k2.1 λj hj v z=>?_;obtain⟨k,k1,_⟩:=GG z;rw[h2 j hj]at k1;cases k1
  ·refine hc H0 _ H3 σ2 γ2 _ _ _ e2 p2 (λb H5 q5 S5=>?_) λ_ _ z=>z.elim;have e5:=e2.grow S5;cases b with
   |false=>
    rw[WN Qh]at q5 ⊢;refine⟨n-(i+1),by omega,rfl,hlt,(S2.trans S3).trans S5,(S3.trans S5) _ _ hL,?_⟩;rw[List.range_succ,VM];simp only[QU,q5,List.filterMap_nil,QB];exact Rps.mono (Xx (S3.trans S5) λ_ _ _ z=>z) hys
   |true=>
    refine he H0 _ H5 σ2 γ2 _ _ _ e5 q5 (λs v H6 q6 S6 t6=>?_) λ_ _ z=>z.elim;obtain⟨d,hd,hfd⟩:=q6;have S26:=(S3.trans S5).trans S6
    have hlen:ys.length<=i:=by
     rw[hys.len];exact WU (List.length_filterMap_le _ _) (by rw[List.length_range];exact WQ _)
    refine⟨S26 _ _ hL,by omega,n-(i+1),by omega,rfl,hlt,λb o hb=>?_,X4,?_⟩
    ·rw[Xr (Kw hb nL)];exact S26 _ _ (S2 _ _ hb)
    ·rw[List.range_succ,VM];have ef:[i].filterMap f=[d]:=by simp[hfd]
     rw[ef]
     have So:Same (off (λb=>zof B γ σ b\/b=L) H6) (off (λb=>zof B γ σ b\/b=L)<|upd H6 L<|.lst (ys++[v])):=λb o h=>by
      obtain⟨a1,a2⟩:=P9 h;refine XS ?_ a2;rwa[Xr λz=>a2 (.inr z)]
     refine Rps.append (Rps.mono So<|Rps.mono (Xx S26 λ_ _ _ z=>z) hys) (.cons (Rp.mono So<|Rp.mono (Xx (Same.refl _) λb _ _ z y=>z (.inl y)) (t6.shd (e5.grow S6).same e5.zm S6 hd)) .nil)
 ·have:i=n:=by omega
  subst this;exact .inl ⟨ok.stop H2 _ S2 (Later.of env2<|Fr.grow S2),q _ _ H2 hR (S1.trans S2) ⟨L,rfl,(λ_ e=>e▸S1.free nL),ys,hL,hys⟩⟩
noncomputable def OH:PTT:=λ_ R _=>R true
def NV:K6 K mg E EO OH:=λ_ _ H _ _ _ _ _ _ p q _=>q _ H p (Same.refl _)
def Zkj{α β:Type}(xs:List α)(f:α->Option β):(List.range xs.length).filterMap (λi=>(xs[i]?).bind f)=xs.filterMap f:=by
 induction xs with
 |nil=>rfl
 |cons x r ih=>
  rw[Qi,List.range_succ_eq_map,QU,List.filterMap_map,QU];have e:(λi=>((x::r)[i]?).bind f)∘Nat.succ=λi=>(r[i]?).bind f:=rfl;rw[e,ih];rfl
end
open M
section
variable {K:Yj}{mg:Yn}{E:L2.St->XK}{H0 H H1 H':Hp}{B Z Z':Addr->Prop}{σ:L2.St}{γ:Γ}
noncomputable def pCB(f:List S->(S->Prop)->Prop)(r:PTA):PTE:=λγ R X=>r γ (λss=>f ss R) X
def Pt{f ta r}(hr:X6 K mg E ta r)(h:∀H0 H H1 Z ss vs R Q,Same H0 H1->Same H H1->(∀b,Z b->Mut (H b))->TVs K Z H0 H H1 ss vs->f ss R->(∀s z H',R s->Same H1 H'->TV K Z H0 H H' s z->Q z H')->rr vs H1 Q) :
  Xj K mg E (tCB rr ta) (pCB f r):=by
 intro H0 B H σ γ R X Q env p q qx;refine hr H0 B H σ γ _ X _ env p (λss vs H1 h1 S1 t1=>?_) qx;exact h H0 H H1 _ ss vs R Q (env.grow S1).same S1 env.zm t1 h1 λs z H' hs S2 tv=>q s z H' hs (S1.trans S2) tv
noncomputable def S.free:S->List D->Bool
 | .bor _,ds=>KL ds | .tmp _,ds=>KL ds | .view (.nst _),ds=>KL ds | .view (.nsl _ _),ds=>KL ds|_,_=>true
def TVs.one_inv (h:TVs K Z H0 H H' [s] vs):∃v,vs=[v]/\TV K Z H0 H H' s v:=by
 cases h with
 |cons h r=>cases r;exact⟨_,rfl,h⟩
def TVs.two_inv (h:TVs K Z H0 H H' [s,t] vs):∃v u,vs=[v,u]/\TV K Z H0 H H' s v/\TV K Z H0 H H' t u:=by
 cases h with
 |cons h r=>cases r with|cons h2 r=>cases r;exact⟨_,_,rfl,h,h2⟩
def TV.items (h0:Same H0 H') (hm:∀b,Z b->Mut (H b)) (S1:Same H H') (h:TV K Z H0 H H' s v) (hf:s.free ds=true) :
  (s.d=.lst ds->∃a vs,v=.ref a/\H' a=some (.lst vs)/\Rps K (off Z H') ds vs)/\(s.d=.tup ds->∃a vs,v=.ref a/\H' a=some (.tup vs)/\Rps K (off Z H') ds vs):=by
 have hm':=λb z=>PZ S1 (hm b z);cases s with
 |bor d=>
  have h:=Rp.strip h;refine⟨λe=>?_,λe=>?_⟩<;>rw[show d.strip=_ from e]at h
  ·obtain⟨a,vs,rfl,h1,r⟩:=Rp.lst_inv h;exact⟨a,vs,rfl,h0 _ _ h1,Rps.off hm' (Rps.mono h0 r) hf⟩
  ·obtain⟨a,vs,rfl,h1,r⟩:=Rp.tup_inv h;exact⟨a,vs,rfl,h0 _ _ h1,Rps.off hm' (Rps.mono h0 r) hf⟩
 |sh d=>
  refine⟨λe=>?_,λe=>?_⟩<;>(have e':=e;subst e')
  ·obtain⟨a,vs,rfl,h1,r⟩:=Rp.lst_inv h;exact⟨a,vs,rfl,off_sub _ _ h1,r⟩
  ·obtain⟨a,vs,rfl,h1,r⟩:=Rp.tup_inv h;exact⟨a,vs,rfl,off_sub _ _ h1,r⟩
 |own es=>
  cases es with
  |nsl x cs=>
   refine⟨λe=>?_,λe=>by cases e⟩;have h2:=h.shd h0 hm S1 rfl;cases e
   obtain⟨a,vs,rfl,h1,r⟩:=Rp.lst_inv h2;exact⟨a,vs,rfl,off_sub _ _ h1,r⟩
  |nst cs=>
   refine⟨(λe=>by cases e),λe=>?_⟩;have h2:=h.shd h0 hm S1 rfl;cases e
   obtain⟨a,vs,rfl,h1,r⟩:=Rp.tup_inv h2;exact⟨a,vs,rfl,off_sub _ _ h1,r⟩
  |lst es=>
   refine⟨λe=>?_,λe=>by cases e⟩;cases e
   obtain⟨a,rfl,e0,vs,e,r⟩:=h;exact⟨a,vs,rfl,e,Rps.mono (Xx (Same.refl _) λb _ _ z y=>z (.inl y)) r⟩
  |lsA x es=>
   refine⟨λe=>?_,λe=>by cases e⟩;cases e
   obtain⟨a,rfl,e0,_,vs,e,r⟩:=h;exact⟨a,vs,rfl,e,Rps.mono (Xx (Same.refl _) λb _ _ z y=>z (.inl y)) r⟩
  |_=>exact⟨(λe=>by cases e),(λe=>by cases e)⟩
 |view es=>
  cases es with
  |nsl x cs=>
   refine⟨λe=>?_,λe=>by cases e⟩;have h2:=h.rp h0;rw[e]at h2;obtain⟨a,vs,rfl,h1,r⟩:=Rp.lst_inv h2;exact⟨a,vs,rfl,h1,Rps.off hm' r hf⟩
  |nst cs=>
   refine⟨(λe=>by cases e),λe=>?_⟩;have h2:=h.rp h0;rw[e]at h2;obtain⟨a,vs,rfl,h1,r⟩:=Rp.tup_inv h2;exact⟨a,vs,rfl,h1,Rps.off hm' r hf⟩
  |lst es=>
   refine⟨λe=>?_,λe=>by cases e⟩;cases e
   obtain⟨a,rfl,vs,e,r⟩:=h;exact⟨a,vs,rfl,e,r⟩
  |lsA x es=>
   refine⟨λe=>?_,λe=>by cases e⟩;cases e
   obtain⟨a,rfl,_,vs,e,r⟩:=h;exact⟨a,vs,rfl,e,r⟩
  |_=>exact⟨(λe=>by cases e),(λe=>by cases e)⟩
 |tmp d=>
  refine⟨λe=>?_,λe=>?_⟩<;>(have e':=e;subst e')
  ·obtain⟨a,vs,rfl,h1,r⟩:=Rp.lst_inv h;exact⟨a,vs,rfl,h1,Rps.off hm' r hf⟩
  ·obtain⟨a,vs,rfl,h1,r⟩:=Rp.tup_inv h;exact⟨a,vs,rfl,h1,Rps.off hm' r hf⟩
def Dw:List S->(S->Prop)->Prop
 |[s],R=>(match s.d with
  | .lst ds=>R (.sh<|.int ds.length) | .tup ds=>R (.sh<|.int ds.length) | .scr ns=>R (.sh<|.int ns.length) | .fL ns=>R (.sh<|.int ns.length) | .str x=>x.length<=sizeLine/\R (.sh<|.int x.length)|_=>False)
 |_,_=>False
def B3(hr:X6 K mg E ta r):Xj K mg E (tCB (λxs H Q=>∃x n,xs=[x]/\F6 K x H n/\Q (.int n) H) ta) (pCB Dw r):=by
 refine Pt hr λH0 H H1 Z ss vs R Q s0 s1 hm tv h q=>?_;unfold Dw at h;split at h
 ·rename_i s;obtain⟨v,rfl,t1⟩:=tv.one_inv;have rv:=t1.rp s0;split at h
  ·rename_i ds e;rw[e]at rv;obtain⟨a,us,rfl,h1,r1⟩:=rv.lst_inv;exact⟨_,_,rfl,.inl ⟨us,SqL.of h1,rfl⟩,by rw[r1.len];exact q _ _ H1 h (Same.refl _) (.int _)⟩
  ·rename_i ds e;rw[e]at rv;obtain⟨a,us,rfl,h1,r1⟩:=rv.tup_inv;exact⟨_,_,rfl,.inr ⟨us,SqT.of h1,rfl⟩,by rw[r1.len];exact q _ _ H1 h (Same.refl _) (.int _)⟩
  ·rename_i ns e;rw[e]at rv;cases rv with
   |scr hs=>exact⟨_,_,rfl,.inl ⟨_,hs,rfl⟩,by rw[WG];exact q _ _ H1 h (Same.refl _) (.int _)⟩
  ·rename_i ns e;rw[e]at rv;cases rv with
   |fL hs=>exact⟨_,_,rfl,.inl ⟨_,.inl (.inr ⟨_,hs⟩),rfl⟩,by rw[WG];exact q _ _ H1 h (Same.refl _) (.int _)⟩
  ·rename_i x e;rw[e]at rv;rw[rv.str_inv];exact⟨_,_,rfl,⟨h.1,rfl⟩,q _ _ H1 h.2 (Same.refl _) (.int _)⟩
  ·exact h.elim
 ·exact h.elim
def Gw:List S->(S->Prop)->Prop
 |[s],R=>(match s.d with
  | .lst ds=>s.free ds=true/\R (.own ds) | .tup ds=>s.free ds=true/\R (.own ds)|_=>False)
 |_,_=>False
def Sr(hr:X6 K mg E ta r):Xj K mg E (tCB (λxs H Q=>∃p ys,xs=[.ref p]/\(SqL K H p ys\/SqT K H p ys)/\∀l,H l=none->Q (.ref l) (upd H l<|.lst ys)) ta) (pCB Gw r):=by
 refine Pt hr λH0 H H1 Z ss vs R Q s0 s1 hm tv h q=>?_;unfold Gw at h;split at h
 ·rename_i s;obtain⟨v,rfl,t1⟩:=tv.one_inv;split at h
  ·rename_i ds e;obtain⟨a,us,rfl,h1,r1⟩:=(t1.items s0 hm s1 h.1).1 e;exact⟨a,us,rfl,.inl (SqL.of h1),λl nl=>q _ _ _ h.2 (Kb nl) (N5 s1 nl r1)⟩
  ·rename_i ds e;obtain⟨a,us,rfl,h1,r1⟩:=(t1.items s0 hm s1 h.1).2 e;exact⟨a,us,rfl,.inr (SqT.of h1),λl nl=>q _ _ _ h.2 (Kb nl) (N5 s1 nl r1)⟩
  ·grind
 ·grind
def MD:List S->(S->Prop)->Prop
 |[s],R=>(match s.d with
  | .lst ds=>s.free ds=true/\R (.sh<|.tup ds) | .tup ds=>s.free ds=true/\R (.sh<|.tup ds)|_=>False)
 |_,_=>False
def Ze5(hr:X6 K mg E ta r):Xj K mg E (tCB (λxs H Q=>∃p ys,xs=[.ref p]/\((SqL K H p ys/\∀l,H l=none->Q (.ref l) (upd H l<|.tup ys))\/(SqT K H p ys/\Q (.ref p) H))) ta) (pCB MD r):=by
 refine Pt hr λH0 H H1 Z ss vs R Q s0 s1 hm tv h q=>?_;have hm':=λb z=>PZ s1 (hm b z);unfold MD at h;split at h
 ·rename_i s;obtain⟨v,rfl,t1⟩:=tv.one_inv;split at h
  ·rename_i ds e;obtain⟨a,us,rfl,h1,r1⟩:=(t1.items s0 hm s1 h.1).1 e;refine⟨a,us,rfl,.inl ⟨SqL.of h1,λl nl=>q _ _ _ h.2 (Kb nl) (.tup (XS X4 λz=>?_)<|Rps.mono (Xx (Kb nl) λ_ _ _ z=>z) r1)⟩⟩
   have:=hm' l z
   rw[nl]at this;exact this
  ·rename_i ds e;obtain⟨a,us,rfl,h1,r1⟩:=(t1.items s0 hm s1 h.1).2 e;refine⟨a,us,rfl,.inr ⟨SqT.of h1,q _ _ _ h.2 (Same.refl _) (.tup (XS h1 λz=>?_) r1)⟩⟩
   have:=hm' a z
   rw[h1]at this;exact this
  ·grind
 ·exact h.elim
theorem Rps.ints:∀{js:Yl}{vs:List V},Rps K H (js.map D.int) vs->vs=js.map V.int
 |[],_,.nil=>rfl
 |j::r,_,.cons h t=>by rw[Rp.int_inv h,Rps.ints t];rfl
theorem Rps.of_ints:∀(js:Yl),Rps K H (js.map D.int) (js.map V.int)
 |[]=>.nil
 |j::r=>.cons (.int j) (Rps.of_ints r)
def ME:List S->(S->Prop)->Prop
 |[s],R=>∃js:Yl,s.d=.lst (js.map D.int)/\js.length<64/\∀ns:Yl,ns.Perm js->ns.Pairwise (·<=·)->R (.own<|ns.map D.int)
 |_,_=>False
def FL{ta r}(hr:X6 K mg E ta r):Xj K mg E (tCB (λxs H Q=>∃p js,xs=[.ref p]/\js.length<64/\(SqL K H p (js.map V.int)\/H p=some (NB w p js))/\
  ∀l (ns:Yl),H l=none->ns.Perm js->ns.Pairwise (·<=·)->Q (.ref l) (upd H l<|.lst<|ns.map V.int)) ta) (pCB ME r):=by
 refine Pt hr λH0 H H1 Z ss vs R Q s0 s1 hm tv h q=>?_;unfold ME at h;split at h
 ·rename_i s;obtain⟨v,rfl,t1⟩:=tv.one_inv;obtain⟨js,e,hz,k⟩:=h;have rv:=t1.rp s0;rw[e]at rv;obtain⟨a,us,rfl,h1,r1⟩:=rv.lst_inv;rw[r1.ints]at h1;exact⟨a,js,rfl,hz,.inl (SqL.of h1),λl ns nl hp hs=>q _ _ _ (k ns hp hs) (Kb nl) (N5 s1 nl<|Rps.of_ints ns)⟩
 ·grind
def Iy:List S->(S->Prop)->Prop
 |[s,t],R=>(match s.d,t.d with | .int i,.int j=>R (.sh<|.int (if j>i then j else i))|_,_=>False)
 |_,_=>False
def D1(hr:X6 K mg E ta r):Xj K mg E (tCB (λxs H Q=>∃i j,xs=[.int i,.int j]/\Q (.int (if j>i then j else i)) H) ta) (pCB Iy r):=by
 refine Pt hr λH0 H H1 Z ss vs R Q s0 s1 hm tv h q=>?_;unfold Iy at h;split at h
 ·obtain⟨v,u,rfl,t1,t2⟩:=tv.two_inv;have r1:=t1.rp s0;have r2:=t2.rp s0;split at h
  ·rename_i i j e1 e2;rw[e1]at r1;rw[e2]at r2;rw[r1.int_inv,r2.int_inv];exact⟨i,j,rfl,q _ _ H1 h (Same.refl _) (.int _)⟩
  ·grind
 ·grind
def Zp7:List S->(S->Prop)->Prop
 |[s],R=>(match s.d with | .int i=>R (.sh<|.int (if i<0 then -i else i))|_=>False)
 |_,_=>False
noncomputable def tyD:D->Option String
 | .int _=>some "int" | .bl _=>some "bool" | .non=>some "NoneType" | .str _=>some "str" | .tup _=>some "tuple" | .lst _=>some "list" | .fL _=>some "list" | .dK _=>some "dict" | .dT _=>some "dict" |_=>none
inductive K5:String->String->Bool->Prop
 |same (n:String):K5 n n true
 |ib:K5 "int" "bool" false
 |bi:K5 "bool" "int" true
 |tl:K5 "tuple" "list" false
 |lt:K5 "list" "tuple" false
 |it:K5 "int" "tuple" false
 |il:K5 "int" "list" false
 |bt:K5 "bool" "tuple" false
 |bL:K5 "bool" "list" false
 |ti:K5 "tuple" "int" false
 |li:K5 "list" "int" false
 |si:K5 "str" "int" false
 |is:K5 "int" "str" false
 |ni:K5 "NoneType" "int" false
 |nl:K5 "NoneType" "list" false
 |nt:K5 "NoneType" "tuple" false
def K5.kit (h:K5 m n b):PySem.W.kitOne K (.type m) (.type n)=some b:=by
 cases h with
 |same=>exact Zct K _
 |_=>rfl
def OJ:List S->(S->Prop)->Prop
 |[s,t],R=>(match tyD s.d,t.d with|some m,.ty n=>∃b,K5 m n b/\R (.sh<|.bl b)|_,_=>False)
 |_,_=>False
def Zox(h:Rp K H d v)(e:tyD d=some m):KQ K H v (.type m):=by
 cases h with
 |int i=>cases e;exact .int i
 |bl b=>cases e;exact .bl b
 |non=>cases e;exact .non
 |str x=>cases e;exact .str x
 |tup h r=>cases e;exact .tup h
 |lst h r=>cases e;exact .lst h
 |dK h=>cases e;exact .dK h
 |dT h=>cases e;exact .dT h
 |fL h=>cases e;exact .frz h
 |_=>cases e
def Nb(hr:X6 K mg E ta r):Xj K mg E (tCB (λxs H Q=>∃x n t b,xs=[x,.ty n]/\KQ K H x t/\PySem.W.kitOne K t (.type n)=some b/\Q (.bl b) H) ta) (pCB OJ r):=by
 refine Pt hr λH0 H H1 Z ss vs R Q s0 s1 hm tv h q=>?_;unfold OJ at h;split at h
 ·obtain⟨v,u,rfl,t1,t2⟩:=tv.two_inv;have r2:=t2.rp s0;split at h
  ·rename_i m n e1 e2;rw[e2]at r2;rw[r2.ty_inv];obtain⟨b,k,hR⟩:=h;exact⟨v,n,_,b,rfl,Zox (t1.rp s0) e1,k.kit,q _ _ H1 hR (Same.refl _) (.bl _)⟩
  ·grind
 ·grind
noncomputable def pBM(f:S->List S->(S->Prop)->Prop)(a:PTE)(r:PTA):PTE:=λγ R X=>a γ (λs=>(∃ds,s.d=.lst ds)/\r γ (λss=>f s ss R) X) X
def Zaw{f te ta a r}(ha:Xj K mg E te a)(hr:X6 K mg E ta r)(h:∀H0 H H1 Z s v ss vs R Q,Same H0 H1->Same H H1->(∀b,Z b->Mut (H b))->TV K Z H0 H H1 s v->TVs K Z H0 H H1 ss vs->f s ss R->(∀s z H',R s->Same H1 H'->TV K Z H0 H H' s z->Q z H')->rr v vs H1 Q) :
  Xj K mg E (tBM K "list" rr te ta) (pBM f a r):=by
 intro H0 B H σ γ R X Q env p q qx;refine ha H0 B H σ γ _ X _ env p (λs v H1 h1 S1 t1=>?_) qx;have env1:=env.grow S1;obtain⟨⟨ds,ed⟩,h1⟩:=h1;have rv:=t1.rp env1.same;rw[ed]at rv;obtain⟨l,us,rfl,hl,_⟩:=rv.lst_inv;refine⟨.inl ⟨rfl,us,SqL.of hl⟩,hr H0 B H1 σ γ _ X _ env1 h1 (λss vs H2 h2 S2 t2=>?_) λc H' hc S'=>qx c H' hc (S1.trans S')⟩;exact h H0 H H2 _ s _ ss vs R Q (env1.grow S2).same (S1.trans S2) env.zm (t1.grow S2) (TVs.weakG S1 t2) h2 λs z H' hs S3 tv=>q s z H' hs ((S1.trans S2).trans S3) tv
def EJ:S->List S->(S->Prop)->Prop:=λs ss R=>match ss with
 |[t]=>(match t.d with | .int z=>∃xs:Yl,s.d=.lst (xs.map D.int)/\z∈xs/\R (.sh<|.int (xs.idxOf z:Nat))|_=>False)
 |_=>False
def As{a r}(ha:Xj K mg E te a)(hr:X6 K mg E ta r):Xj K mg E (tBM K "list" (Ay K) te ta) (pBM EJ a r):=by
 refine Zaw ha hr λH0 H H1 Z s v ss vs R Q s0 s1 hm t1 t2 h q=>?_;unfold EJ at h;split at h
 ·obtain⟨u,rfl,t2'⟩:=t2.one_inv;have r2:=t2'.rp s0;split at h
  ·rename_i z e;rw[e]at r2;obtain⟨xs,ex,hz,hR⟩:=h;have r1:=t1.rp s0;rw[ex]at r1;obtain⟨l,us,rfl,hl,r1⟩:=r1.lst_inv;rw[r1.ints]at hl;exact⟨l,xs,z,rfl,by rw[r2.int_inv],SqL.of hl,hz,q _ _ H1 hR (Same.refl _) (.int _)⟩
  ·grind
 ·exact h.elim
noncomputable def prD(p:Int×Int):D:=.tup [.int p.1,.int p.2]
inductive InR:D->D->Bool->Prop
 |li (i:Int) (hs:Yl):InR (.int i) (.lst<|hs.map D.int) (decide (i∈hs))
 |ti (i:Int) (hs:Yl):InR (.int i) (.tup<|hs.map D.int) (decide (i∈hs))
 |lp (q:Int×Int) (ps:Yk):InR (prD q) (.lst<|ps.map prD) (decide (q∈ps))
def fIn(neg:Bool):S->S->(S->Prop)->Prop:=λx y R=>∃b,InR x.d y.d b/\R (.sh<|.bl (if neg then !b else b))
def Rp.pair (h:Rp K H (prD q) v):Po H v q:=by
 obtain⟨a,vs,rfl,h1,r⟩:=Rp.tup_inv h;obtain⟨x,y,rfl,r1,r2⟩:=r.two_inv;rw[r1.int_inv,r2.int_inv]at h1;exact⟨a,rfl,h1⟩
def Rps.lv {vs} (h:Rps K H (ps.map prD) vs):LV Po H vs ps:=by
 refine⟨by rw[h.len,WG],λi p hp=>?_⟩;obtain⟨v,h1,h2⟩:=h.get (by rw[WS,hp];rfl);exact⟨v,h1,h2.pair⟩
def FM{ta tb a b}(ha:Xj K mg E ta a)(hb:Xj K mg E tb b):Xj K mg E (tOp (λx y H Q=>rIn K neg x y H Q\/SQ neg x y H Q) ta tb) (p2 a b<|fIn neg):=by
 refine Pv ha hb λH0 H H2 Z x y v u R Q s0 s1 hm tx ty h q=>?_;obtain⟨k,hk,hR⟩:=h;have rx:=tx.rp s0;have ry:=ty.rp s0;generalize ex:x.d=dx at hk rx;generalize ey:y.d=dy at hk ry;cases hk with
 |li i hs=>
  obtain⟨l,us,rfl,hl,r⟩:=ry.lst_inv;rw[r.ints]at hl;rw[rx.int_inv];refine .inl ⟨l,_,rfl,.inl (SqL.of hl),rfl,TL _,?_⟩;rw[GP];exact q _ _ H2 hR (Same.refl _) (.bl _)
 |ti i hs=>
  obtain⟨l,us,rfl,hl,r⟩:=ry.tup_inv;rw[r.ints]at hl;rw[rx.int_inv];refine .inl ⟨l,_,rfl,.inr (SqT.of hl),rfl,TL _,?_⟩;rw[GP];exact q _ _ H2 hR (Same.refl _) (.bl _)
 |lp p ps=>
  obtain⟨l,us,rfl,hl,r⟩:=ry.lst_inv;exact .inr ⟨l,ps,p,rfl,rx.pair,⟨us,hl,r.lv⟩,q _ _ H2 hR (Same.refl _) (.bl _)⟩
def NT(neg:Bool):S->S->(S->Prop)->Prop:=λx y R=>match x.d,y.d with
 | .lst ds,.lst es=>∃xs ys:Yl,ds=xs.map D.int/\es=ys.map D.int/\R (.sh<|.bl (if neg then !decide (xs=ys)else decide (xs=ys)))
 |_,_=>fEq neg x y R
def Nu{a b}(ha:Xj K mg E ta a)(hb:Xj K mg E tb b):Xj K mg E (tOp (λx y H Q=>rEq x y H Q\/Tp K false x y H Q) ta tb) (p2 a b<|NT false):=by
 refine Pv ha hb λH0 H H2 Z x y v u R Q s0 s1 hm tx ty h q=>?_;have rx:=tx.rp s0;have ry:=ty.rp s0;unfold NT at h;split at h
 ·rename_i ds es e1 e2;obtain⟨xs,ys,rfl,rfl,hR⟩:=h;rw[e1]at rx;rw[e2]at ry;obtain⟨l,us,rfl,hl,r⟩:=rx.lst_inv;obtain⟨m,ws,rfl,hm,r'⟩:=ry.lst_inv;rw[r.ints]at hl;rw[r'.ints]at hm;refine .inr ⟨l,m,_,_,rfl,rfl,SqL.of hl,SqL.of hm,TL _,TL _,?_⟩;rw[Ds];exact q _ _ H2 hR (Same.refl _) (.bl _)
 ·refine .inl ?_;unfold fEq at h;split at h
  ·rename_i i j e1 e2;rw[e1]at rx;rw[e2]at ry;rw[rx.int_inv,ry.int_inv];refine⟨rfl,?_⟩;rw[Sj λ_ _ z=>V.int.inj z];exact q _ _ H2 h (Same.refl _) (.bl _)
  ·rename_i i j e1 e2;rw[e1]at rx;rw[e2]at ry;rw[rx.str_inv,ry.str_inv];refine⟨rfl,?_⟩;rw[Sj λ_ _ z=>V.str.inj z];exact q _ _ H2 h (Same.refl _) (.bl _)
  ·rename_i i j e1 e2;rw[e1]at rx;rw[e2]at ry;rw[rx.bl_inv,ry.bl_inv];refine⟨rfl,?_⟩;rw[Sj λ_ _ z=>V.bl.inj z];exact q _ _ H2 h (Same.refl _) (.bl _)
  ·exact h.elim
def HF{a b}(ha:Xj K mg E ta a)(hb:Xj K mg E tb b):Xj K mg E (tOp (λx y H Q=>rNe x y H Q\/Tp K true x y H Q) ta tb) (p2 a b<|NT true):=by
 refine Pv ha hb λH0 H H2 Z x y v u R Q s0 s1 hm tx ty h q=>?_;have rx:=tx.rp s0;have ry:=ty.rp s0;unfold NT at h;split at h
 ·rename_i ds es e1 e2;obtain⟨xs,ys,rfl,rfl,hR⟩:=h;rw[e1]at rx;rw[e2]at ry;obtain⟨l,us,rfl,hl,r⟩:=rx.lst_inv;obtain⟨m,ws,rfl,hm,r'⟩:=ry.lst_inv;rw[r.ints]at hl;rw[r'.ints]at hm;refine .inr ⟨l,m,_,_,rfl,rfl,SqL.of hl,SqL.of hm,TL _,TL _,?_⟩;rw[Ds];exact q _ _ H2 hR (Same.refl _) (.bl _)
 ·refine .inl ?_;unfold fEq at h;split at h
  ·rename_i i j e1 e2;rw[e1]at rx;rw[e2]at ry;rw[rx.int_inv,ry.int_inv];refine⟨rfl,?_⟩;rw[Sj λ_ _ z=>V.int.inj z];exact q _ _ H2 h (Same.refl _) (.bl _)
  ·rename_i i j e1 e2;rw[e1]at rx;rw[e2]at ry;rw[rx.str_inv,ry.str_inv];refine⟨rfl,?_⟩;rw[Sj λ_ _ z=>V.str.inj z];exact q _ _ H2 h (Same.refl _) (.bl _)
  ·rename_i i j e1 e2;rw[e1]at rx;rw[e2]at ry;rw[rx.bl_inv,ry.bl_inv];refine⟨rfl,?_⟩;rw[Sj λ_ _ z=>V.bl.inj z];exact q _ _ H2 h (Same.refl _) (.bl _)
  ·exact h.elim
noncomputable abbrev AA(K:Yj)(ta:TE):TT:=λσ H Q=>ta σ H λx H'=>∃k,Dp K x H' k/\Q k H'
noncomputable def Om(a:PTE):PTT:=λγ R X=>a γ (λx=>match x.d with
 | .bl b=>R b | .lst ds=>R (!ds.isEmpty) | .tup ds=>R (!ds.isEmpty) | .int i=>R (i != 0) | .non=>R false|_=>False) X
def Al{α β:Type}{l:List α}{m:List β}(h:l.length=m.length):l.isEmpty=m.isEmpty:=by
 cases l<;>cases m<;>simp at h ⊢
def Zbf(ha:Xj K mg E te a):K6 K mg E (AA K te) (Om a):=by
 intro H0 B H σ γ R X Q env p q qx;refine ha H0 B H σ γ _ X _ env p (λx v H1 h1 S1 t1=>?_) qx;have rx:=t1.rp (env.grow S1).same;split at h1
 ·rename_i b e;rw[e]at rx;rw[rx.bl_inv];exact⟨b,rfl,q _ H1 h1 S1⟩
 ·rename_i ds e;rw[e]at rx;obtain⟨l,us,rfl,hl,r⟩:=rx.lst_inv;exact⟨!us.isEmpty,.inl ⟨us,SqL.of hl,rfl⟩,by rw[Al r.len];exact q _ H1 h1 S1⟩
 ·rename_i ds e;rw[e]at rx;obtain⟨l,us,rfl,hl,r⟩:=rx.tup_inv;exact⟨!us.isEmpty,.inr (.inl ⟨us,SqT.of hl,rfl⟩),by rw[Al r.len];exact q _ H1 h1 S1⟩
 ·rename_i i e;rw[e]at rx;rw[rx.int_inv];exact⟨_,rfl,q _ H1 h1 S1⟩
 ·rename_i e;rw[e]at rx;rw[rx.non_inv];exact⟨_,rfl,q _ H1 h1 S1⟩
 ·exact h1.elim
noncomputable def cutD{α:Type}(xs:List α)(lo hi:Option Int):List α:=(xs.drop<|HT.sIx xs.length 0 lo).take (HT.sIx xs.length xs.length hi-HT.sIx xs.length 0 lo)
noncomputable def LM:PTO:=λ_ R _=>R none
noncomputable def LX(a:PTE):PTO:=λγ R X=>a γ (λs=>match s.d with | .int i=>R (some i)|_=>False) X
def MB:Tx K mg E My LM:=λ_ _ H _ _ _ _ _ _ p q _=>q _ H p (Same.refl _)
def BX(ha:Xj K mg E te a):Tx K mg E (Iw te) (LX a):=by
 intro H0 B H σ γ R X Q env p q qx;refine ha H0 B H σ γ _ X _ env p (λx v H1 h1 S1 t1=>?_) qx;have rx:=t1.rp (env.grow S1).same;split at h1
 ·rename_i i e;rw[e]at rx;exact⟨i,rx.int_inv,q _ H1 h1 S1⟩
 ·grind
noncomputable def pSl(a:PTE)(l u:PTO):PTE:=λγ R X=>a γ (λs=>l γ (λlo=>u γ (λhi=>match s.d with | .lst ds=>s.free ds=true/\R (.own<|cutD ds lo hi)|_=>False) X) X) X
def Rps.cut {lo hi} (r:Rps K H ds vs):Rps K H (cutD ds lo hi) (Ts vs lo hi):=by
 unfold cutD Ts;rw[r.len];exact Rps.take _ (Rps.drop _ r)
def Zbc{a l u}(ha:Xj K mg E te a)(hl:Tx K mg E tl l)(hu:Tx K mg E th u):Xj K mg E (tSl (SY K) te tl th) (pSl a l u):=by
 intro H0 B H σ γ R X Q env p q qx;refine ha H0 B H σ γ _ X _ env p (λx v H1 h1 S1 t1=>?_) qx;refine hl H0 B H1 σ γ _ X _ (env.grow S1) h1 (λlo H2 h2 S2=>?_) λc H' hc S'=>qx c H' hc (S1.trans S');refine hu H0 B H2 σ γ _ X _ ((env.grow S1).grow S2) h2 (λhi H3 h3 S3=>?_) λc H' hc S'=>qx c H' hc ((S1.trans S2).trans S');have S13:=(S1.trans S2).trans S3;split at h3
 ·rename_i ds e;obtain⟨b,us,rfl,hb,r⟩:=((t1.grow<|S2.trans S3).items (env.grow S13).same env.zm S13 h3.1).1 e;exact⟨b,us,rfl,SqL.of hb,λm nm=>q _ _ _ h3.2 (S13.trans<|Kb nm) (N5 S13 nm r.cut)⟩
 ·grind
def OS:S->S->(S->Prop)->Prop:=λx y R=>match x.d,y.d with
 | .lst ds,.lst es=>x.free ds=true/\y.free es=true/\ds.length+es.length<=100000/\R (.own (ds++es))
 |_,_=>False
def Ky{a b}(ha:Xj K mg E ta a)(hb:Xj K mg E tb b):Xj K mg E (tOp Ml ta tb) (p2 a b OS):=by
 refine Pv ha hb λH0 H H2 Z x y v u R Q s0 s1 hm tx ty h q=>?_;unfold OS at h;split at h
 ·rename_i ds es e1 e2;obtain⟨l,us,rfl,hl,r⟩:=(tx.items s0 hm s1 h.1).1 e1;obtain⟨m,ws,rfl,hm',r'⟩:=(ty.items s0 hm s1 h.2.1).1 e2;have hz:us.length+ws.length<=sizeLine:=by rw[r.len,r'.len];exact WU h.2.2.1 (by decide)
  exact⟨l,m,us,ws,rfl,rfl,hl,hm',hz,λp np=>q _ _ _ h.2.2.2 (Kb np) (N5 s1 np<|r.append r')⟩
 ·grind
noncomputable def D6(i:Nat)(a:PTE):PTS:=λR γ=>match γ[i]? with
 |some (some<|.own<|.lst ds)=>a γ (λs=>match s.shd with
  |some d=>ds.length<10000000/\R.nx (γ.set i<|some<|.own (ds++[d]))
  |none=>False) (R.ex γ)
 |some (some<|.own<|.lsA x ds)=>a γ (λs=>match s.shd with
  |some d=>ds.length<10000000/\R.nx (γ.set i<|some<|.own<|.lsA x (ds++[d]))
  |none=>False) (R.ex γ)
 |_=>False
def Zhv(i:Nat){te a}(ha:Xj K mg E te a):Xy K mg E (Be<|tBM K "list" E8 (Kz i)<|Kl te KO) (D6 i a):=by
 intro H0 B H σ γ R D hB env h e;unfold D6 at h;split at h
 ·rename_i ds hi;obtain⟨v,hv,b,rfl,hb0,us,hb,rb⟩:=env.slot i _ hi;refine⟨_,hv,.inl ⟨rfl,us,SqL.of hb⟩,ha H0 B H σ γ _ _ _ env h (λs u H1 h1 S1 t1=>?_) λc H' hc S'=>e.ex σ γ c H' hc (env.grow S') (Fr.grow S')⟩;have env1:=env.grow S1;split at h1
  ·rename_i d e2;refine⟨b,us,u,rfl,rfl,S1 _ _ hb,by rw[rb.len];exact VL h1.1 (by decide),?_⟩;obtain⟨e2,f2⟩:=env1.mutate (es:=.lst (ds++[d])) (us:=.lst (us++[u])) hi hv trivial λF H' SF hF=>⟨_,hF,Rps.mono SF (Rps.append (Rps.mono (Xx S1 λ_ _ _ z=>z) rb)<|.cons (t1.shd env1.same env.zm S1 e2) .nil)⟩;exact e.nx _ _ _ h1.2 e2 ((Fr.grow S1).trans f2)
  ·exact h1.elim
 ·rename_i x ds hi;obtain⟨v,hv,b,rfl,hb0,rfl,us,hb,rb⟩:=env.slot i _ hi;refine⟨_,hv,.inl ⟨rfl,us,SqL.of hb⟩,ha H0 B H σ γ _ _ _ env h (λs u H1 h1 S1 t1=>?_) λc H' hc S'=>e.ex σ γ c H' hc (env.grow S') (Fr.grow S')⟩;have env1:=env.grow S1;split at h1
  ·rename_i d e2;refine⟨b,us,u,rfl,rfl,S1 _ _ hb,by rw[rb.len];exact VL h1.1 (by decide),?_⟩;obtain⟨e2,f2⟩:=env1.mutate (es:=.lsA b (ds++[d])) (us:=.lst (us++[u])) hi hv trivial λF H' SF hF=>⟨rfl,_,hF,Rps.mono SF (Rps.append (Rps.mono (Xx S1 λ_ _ _ z=>z) rb)<|.cons (t1.shd env1.same env.zm S1 e2) .nil)⟩;exact e.nx _ _ _ h1.2 e2 ((Fr.grow S1).trans f2)
  ·exact h1.elim
 ·exact h.elim
end
section
variable {X:Cx}{K:Yj}
def Mh(hu:X.A.in1.units<cLine)(hK:autoParam (X.K=K) au_0):OpR X (compareOp .In) (λx y H Q=>rIn K false x y H Q\/SQ false x y H Q):=(Zcn hK).or (Zei hu)
def Ho(hu:X.A.in1.units<cLine)(hK:autoParam (X.K=K) au_0):OpR X (compareOp .NotIn) (λx y H Q=>rIn K true x y H Q\/SQ true x y H Q):=(Zlj hK).or (Zbi hu)
def NA(hu:X.A.units<cLine)(hK:autoParam (X.K=K) au_0):OpR X (compareOp .Eq) (λx y H Q=>rEq x y H Q\/Tp K false x y H Q):=by subst hK;exact op_eq.or (Zeo hu)
def Zhd(hu:X.A.units<cLine)(hK:autoParam (X.K=K) au_0):OpR X (compareOp .NotEq) (λx y H Q=>rNe x y H Q\/Tp K true x y H Q):=by subst hK;exact op_ne.or (Lm hu)
def Ee(ha:PE X e te)(hK:autoParam (X.K=K) au_0)(he:autoParam (∀whole,isTrue e X.env whole=(do let v ←whole;standAt e.pos;holding [v] (truthy v))) au_3):PT X e (AA K te):=by
 subst hK;exact Zgf ha he
def B6(hK:autoParam (X.K=K) au_0):Kh X (.type "list") (λxs H Q=>∃p ys,xs=[.ref p]/\(SqL K H p ys\/SqT K H p ys)/\∀l,H l=none->Q (.ref l) (upd H l<|.lst ys)):=by subst hK;exact OU
def Zmi(hK:autoParam (X.K=K) au_0):Kh X (.type "tuple") (λxs H Q=>∃p ys,xs=[.ref p]/\((SqL K H p ys/\∀l,H l=none->Q (.ref l) (upd H l<|.tup ys))\/(SqT K H p ys/\Q (.ref p) H))):=by subst hK;exact Zmx
def TY(hK:autoParam (X.K=K) au_0):Kh X (.builtin "isinstance") (λxs H Q=>∃x n t b,xs=[x,.ty n]/\KQ K H x t/\PySem.W.kitOne K t (.type n)=some b/\Q (.bl b) H):=by subst hK;exact RJ
def Cm(hK:autoParam (X.K=K) au_0):SlR X (SY K):=by subst hK;exact Zcc
def F3(hc:X.calm=true){w}(hK:autoParam (X.K=K) au_0)(hw:autoParam (X.w=w) au_0):Kh X (.builtin "sorted") (λxs H Q=>∃p js,xs=[.ref p]/\js.length<64/\(SqL K H p (js.map V.int)\/H p=some (NB w p js))/\
  ∀l (ns:Yl),H l=none->ns.Perm js->ns.Pairwise (·<=·)->Q (.ref l) (upd H l<|.lst<|ns.map V.int)):=by subst hK;subst hw;exact GJ hc
def TB{tg l tl}(hl:PE X l tl)(hK:autoParam (X.K=K) au_0):PI X tg l (SC K tl):=by subst hK;exact OG hl
end
section
variable {P:Program}{w:World}{K:Yj}{mg:Yn}{base:Heap}{H H':Hp}
def Zor(C:Callee P w K mg base CX k x ps sp)(h:∀ds R X vs H Q E,Rps K H ds vs->c ds R X->(∀s v H',R s->Same H H'->TV K (λb=>Mut (H b)) H H H' s v->Q v H')->(∀e H',X e->Same H H'->XE mg E e H')->sp vs H Q E) :
  Callee P w K mg base CX k x ps (Xs mg c K):=by
 obtain⟨f,fd,F,rest⟩:=C.ex;exact⟨f,fd,F.imp λvs H Q E ⟨ds,R,X,r,hc,hQ,hX⟩=>h ds R X vs H Q E r hc hQ hX,rest⟩
def Rp.scr_inv (h:Rp K H (.scr ns) v):∃a,v=.ref a/\SqL K H a (ns.map V.int):=by
 cases h with
 |scr h=>grind
def Rp.ints_inv {ns:Yl}{v} (h:Rp K H (.lst<|ns.map D.int) v):∃a,v=.ref a/\H a=some (.lst<|ns.map V.int):=by
 obtain⟨a,vs,rfl,h1,r⟩:=h.lst_inv;rw[r.ints]at h1
 grind
def Rp.pairs_inv {v} (h:Rp K H (.lst<|ps.map prD) v):∃a,v=.ref a/\LAt Po H a ps:=by
 obtain⟨a,vs,rfl,h1,r⟩:=h.lst_inv;exact⟨a,rfl,vs,h1,r.lv⟩
def Zk7{ns:Yl}(n:H a=none)(h:H' a=some (.lst<|ns.map V.int)):TV K (λb=>Mut (H b)) H H H' (.own<|ns.map D.int) (.ref a):=⟨a,rfl,(λ_ e=>e▸n),_,h,Rps.of_ints ns⟩
theorem FS:∀(ns:Yl),KL (ns.map D.int)=true
 |[]=>rfl
 |n::r=>by rw[Qn];unfold KL;rw[FS r];unfold imm;rfl
def Zfy(p:Int×Int):imm (prD p)=true:=rfl
theorem Ti:∀(ps:Yk),KL (ps.map prD)=true
 |[]=>rfl
 |p::r=>by rw[Qn];unfold KL;rw[Ti r,Zfy];rfl
def Zp8{α:Type}{f:α->D}{xs:List α}{i}(h:i<xs.length):(xs.map f).getD i .non=f xs[i]:=by grind
def N7{α:Type}{f:α->D}{xs:List α}{i}(h0:0<=i)(h:i<(xs.length:Int)):atI (xs.map f) i=some (f (xs[i.toNat]'(by omega))):=by
 have h':i.toNat<xs.length:=by omega
 exact T5 (Sg h0<|WH h')
def B7{α:Type}{f:α->D}{xs:List α}{i}(h:i<xs.length):atI (xs.map f) (i:Int)=some (f xs[i]):=T5 (NM<|WH h)
def KM{α:Type}{φ}{γ}{g}{c}{e}{s:S}{R}{xs:List α}{emb}(f:α->Option D)(hz:xs.length<=100000)(turn:∀x∈xs,g (s.sub<|emb x) (atP φ γ) λγ2=>c γ2 (λb=>if b=true then e γ2 (λs=>∃d,s.shd=some d/\f x=some d) (λ_=>False)else f x=none) λ_=>False)(done:R (.own<|xs.filterMap f)) :
  Sw φ γ g c e (xs.map emb).length (λi=>s.sub ((xs.map emb).getD i .non)) R:=by
 rw[WG];refine⟨⟨hz,λi=>(xs[i]?).bind f,λi hi=>?_,by rw[Zkj];exact done⟩⟩;simp_all
def Hh{g c e item R n}(f:Nat->Option D)(hz:n<=100000)(turn:∀i,i<n->g (item i) (atP φ γ) λγ2=>c γ2 (λb=>if b=true then e γ2 (λs=>∃d,s.shd=some d/\f i=some d) (λ_=>False)else f i=none) λ_=>False)(done:R (.own ((List.range n).filterMap f))) :
  Sw φ γ g c e n item R:=⟨⟨hz,f,turn,done⟩⟩
def K7{α:Type}{js}{γ}{g}{body}{s:S}{R}{xs:List α}{emb}(inv:Nat->Γ->Prop)(h0:inv 0 (clr js γ))(turn:∀i hi γ',inv i γ'->g (s.sub (emb xs[i])) γ' λγ2=>body {R with nx:=λγ3=>inv (i+1) (clr js γ3),ct:=λγ3=>inv (i+1) (clr js γ3),bk:=R.nx} γ2)(done:∀γ',inv xs.length γ'->R.nx γ') :
  Dq js γ g body R (xs.map emb).length (λi=>s.sub ((xs.map emb).getD i .non)):=by
 refine⟨⟨inv,h0,λi γ' hi h=>?_,λγ' h=>?_⟩⟩
 ·grind
 ·grind
def P1{n item}(inv:Nat->Γ->Prop)(h0:inv 0 (clr js γ))(turn:∀i γ',i<n->inv i γ'->g (item i) γ' λγ2=>body {R with nx:=λγ3=>inv (i+1) (clr js γ3),ct:=λγ3=>inv (i+1) (clr js γ3),bk:=R.nx} γ2)(done:∀γ',inv n γ'->R.nx γ'):Dq js γ g body R n item:=⟨⟨inv,h0,turn,done⟩⟩
def MN(inv:Γ->Prop)(μ:Γ->Nat)(h0:inv (clr js γ))(turn:∀γ',inv γ'->c γ' (λb=>if b=true then body {R with nx:=λγ3=>inv (clr js γ3)/\μ (clr js γ3)<μ γ',ct:=λγ3=>inv (clr js γ3)/\μ (clr js γ3)<μ γ',bk:=R.nx} γ' else R.nx γ') (R.ex γ')):Me js γ c body R:=⟨⟨inv,μ,h0,turn⟩⟩
def TQ(J:Γ->Prop)(h1:p {R with nx:=J} γ)(h2:∀γ',J γ'->q R γ'):LC p q R γ:=⟨⟨J,h1,h2⟩⟩
theorem Tg{α:Type}(c:α->Bool)(emb:α->D):∀ws:List α,ws.filterMap (λq=>if c q=true then some (emb q)else none)=(ws.filter c).map emb
 |[]=>rfl
 |q::r=>by
  by_cases h:c q=true
  ·rw[List.filterMap_cons_some (by rw[WO h]),Jm h,Qn,Tg c emb r]
  ·rw[List.filterMap_cons_none (by grind),List.filter_cons_of_neg h,Tg c emb r]
def Nw{α:Type}(emb:α->D)(ws:List α):ws.filterMap (λq=>some (emb q))=ws.map emb:=by simp
def Nt(f:α->D)(xs:List α)(lo hi:Option Int):cutD (xs.map f) lo hi=(cutD xs lo hi).map f:=by
 unfold cutD;simp
def DG(xs:List α){n}(h:0<=n):cutD xs none (some n)=xs.take n.toNat:=by
 unfold cutD;have e:n=(n.toNat:Int):=by omega
 rw[HT.GD,e,HT.BQ,List.drop_zero,Nat.sub_zero,QD];by_cases c:n.toNat<=xs.length
 ·simp
 ·simp
def Bg(xs:List α){n}(h:0<=n):cutD xs (some n) none=xs.drop n.toNat:=by
 unfold cutD;have e:n=(n.toNat:Int):=by omega
 rw[HT.GD,e,HT.BQ,QD];by_cases c:n.toNat<=xs.length
 ·grind
 ·rw[Nat.min_eq_right (by omega),List.drop_of_length_le (WQ _),List.drop_of_length_le (by omega)];simp
noncomputable def Eb(K:Yj):Sp:=λvs H Q _=>∃(a:Addr) (ns:Yl),vs=[.ref a]/\SqL K H a (ns.map V.int)/\∀H',Q (.bl true) H'
noncomputable def MO:Pc:=λds R _=>∃ns:Yl,ds=[.scr ns]/\R (.sh<|.bl true)
def Zjo(h:Eb K vs H Q Ec):Xs mg MO K vs H Q Ec:=by
 obtain⟨a,ns,rfl,hS,q⟩:=h;refine⟨[.scr ns],λs=>s=.sh (.bl true),λ_=>False,.cons (.scr hS) .nil,⟨ns,rfl,rfl⟩,λs v H' e S1 tv=>?_,λ_ _ z=>z.elim⟩;subst e;cases tv
 grind
end
section
variable {K:Yj}{mg:Yn}{E:L2.St->XK}{H0 H H1 H':Hp}{B Z Z':Addr->Prop}{σ:L2.St}{γ:Γ}
noncomputable def SU:D->Option V
 | .int i=>some (.int i) | .bl b=>some (.bl b) | .non=>some .non | .str x=>some (.str x)|_=>none
noncomputable def vD:V->D
 | .int i=>.int i | .bl b=>.bl b | .str x=>.str x|_=>.non
noncomputable def F9:V->Bool
 | .int _=>true | .bl _=>true | .str _=>true | .non=>true|_=>false
def Ek(h:F9 v=true):Rp K H (vD v) v:=by
 cases v with
 |int i=>exact .int i
 |bl b=>exact .bl b
 |str x=>exact .str x
 |non=>exact .non
 |_=>cases h
def BY(h:Rp K H d v)(e:SU d=some u):v=u:=by
 cases h with
 |int i|bl b|non|str x=>cases e;rfl
 |_=>cases e
noncomputable def SN:D->Option Key
 | .int i=>some (.inl i) | .str x=>some (.inr x)|_=>none
noncomputable def Si:List D->Option (List Key)
 |[]=>some []
 |d::r=>match SN d,Si r with
  |some k,some ks=>some (k::ks)
  |_,_=>none
noncomputable def NP:D->Option (List Key)
 | .tup ds=>Si ds
 |_=>none
def FE(h:Rp K H d v)(e:SN d=some k):v=kV k:=by
 cases h with
 |int i|str x=>cases e;rfl
 |_=>cases e
def Ziu:∀{ds vs}{ks:List Key},Rps K H ds vs->Si ds=some ks->vs=ks.map kV:=by
 intro ds
 induction ds with
 |nil=>
  intro _ _ h e;cases h
  cases e
  rfl
 |cons _ _ ih=>
  intro _ ks h e;cases h with
  |cons h r=>
   unfold Si at e;split at e
   ·rename_i k js e1 e2;cases e
    rw[FE h e1,ih r e2];rfl
   ·grind
def BA(h:Rp K H d v)(e:NP d=some ks):∃b,v=.ref b/\H b=some (.tup<|ks.map kV):=by
 cases h with
 |tup h r=>
  rw[Ziu r e]at h
  grind
 |_=>cases e
def Rp.dK_inv (h:Rp K H (.dK kvs) v):∃a,v=.ref a/\H a=some (.dK kvs):=by
 cases h with
 |dK h=>grind
def Rp.dT_inv (h:Rp K H (.dT kvs) v):∃a,v=.ref a/\H a=some (.dT kvs):=by
 cases h with
 |dT h=>grind
noncomputable def Za2:PTE:=λ_ R _=>R (.own<|.dK [])
noncomputable def Znc:PTE:=λ_ R _=>R (.own<|.dT [])
def Zfm:Xj K mg E Ip Za2:=by
 intro H0 B H σ γ R X Q env p q _ l nl;exact q _ _ _ p (Kb nl) ⟨l,rfl,(λ_ e=>e▸nl),X4⟩
def Zji:Xj K mg E IV Znc:=by
 intro H0 B H σ γ R X Q env p q _ l nl;exact q _ _ _ p (Kb nl) ⟨l,rfl,(λ_ e=>e▸nl),X4⟩
def Mu:S->S->(S->Prop)->Prop:=λx y R=>match x.d with
 | .dK kvs=>∃k v,SN y.d=some k/\X0 kvs k=some v/\F9 v=true/\R (.sh<|vD v)
 | .dT kvs=>∃k v,NP y.d=some k/\X0 kvs k=some v/\F9 v=true/\R (.sh<|vD v)
 |_=>False
def Il{a b}(ha:Xj K mg E td a)(hb:Xj K mg E ty b):Xj K mg E (IR td ty) (p2 a b Mu):=by
 refine Pv ha hb λH0 H H2 Z x y v u R Q s0 s1 hm tx ty h q=>?_;have rx:=tx.rp s0;have ry:=ty.rp s0;unfold Mu at h;split at h
 ·rename_i kvs e;rw[e]at rx;obtain⟨l,rfl,hl⟩:=rx.dK_inv;obtain⟨k,w,h1,h2,h3,h4⟩:=h;refine⟨l,w,rfl,?_,q _ _ H2 h4 (Same.refl _) (Ek h3)⟩;rw[FE ry h1,←h2];exact DGet.k hl
 ·rename_i kvs e;rw[e]at rx;obtain⟨l,rfl,hl⟩:=rx.dT_inv;obtain⟨k,w,h1,h2,h3,h4⟩:=h;obtain⟨b,rfl,hb⟩:=BA ry h1;refine⟨l,w,rfl,?_,q _ _ H2 h4 (Same.refl _) (Ek h3)⟩;rw[←h2];exact DGet.t hl hb
 ·grind
def GL(neg:Bool):S->S->(S->Prop)->Prop:=λy x R=>match x.d with
 | .dK kvs=>∃k,SN y.d=some k/\R (.sh<|.bl (if neg then !(X0 kvs k).isSome else(X0 kvs k).isSome))
 | .dT kvs=>∃k,NP y.d=some k/\R (.sh<|.bl (if neg then !(X0 kvs k).isSome else(X0 kvs k).isSome))
 |_=>False
def Zi1{td ty a b}(ha:Xj K mg E ty a)(hb:Xj K mg E td b):Xj K mg E (GB ty td) (p2 a b<|GL true):=by
 refine Pv ha hb λH0 H H2 Z y x u v R Q s0 s1 hm ty tx h q=>?_;have rx:=tx.rp s0;have ry:=ty.rp s0;unfold GL at h;split at h
 ·rename_i kvs e;rw[e]at rx;obtain⟨l,rfl,hl⟩:=rx.dK_inv;obtain⟨k,h1,h4⟩:=h;refine⟨l,_,rfl,?_,q _ _ H2 h4 (Same.refl _) (.bl _)⟩;rw[FE ry h1];exact DGet.k hl
 ·rename_i kvs e;rw[e]at rx;obtain⟨l,rfl,hl⟩:=rx.dT_inv;obtain⟨k,h1,h4⟩:=h;obtain⟨b,rfl,hb⟩:=BA ry h1;exact⟨l,_,rfl,DGet.t hl hb,q _ _ H2 h4 (Same.refl _) (.bl _)⟩
 ·grind
noncomputable def HV(i:Nat)(b a:PTE):PTS:=λR γ=>match γ[i]? with
 |some (some<|.own<|.dK kvs)=>a γ (λs=>b γ (λy=>∃k u,SN y.d=some k/\SU s.d=some u/\kvs.length<100000/\R.nx (γ.set i<|some<|.own<|.dK<|putK kvs k u)) (R.ex γ)) (R.ex γ)
 |some (some<|.own<|.dT kvs)=>a γ (λs=>b γ (λy=>∃k u,NP y.d=some k/\SU s.d=some u/\kvs.length<100000/\R.nx (γ.set i<|some<|.own<|.dT<|putK kvs k u)) (R.ex γ)) (R.ex γ)
 |_=>False
def DF(i:Nat){ty tv a b}(hb:Xj K mg E ty b)(ha:Xj K mg E tv a):Xy K mg E (HK (Kz i) ty tv) (HV i b a):=by
 intro H0 B H σ γ R D hB env h e;have hx:=λc H' hc S'=>e.ex σ γ c H' hc (env.grow S') (Fr.grow S');unfold HV at h;split at h
 ·rename_i kvs hi;obtain⟨v,hv,l,rfl,hb0,hl⟩:=env.slot i _ hi;refine ha H0 B H σ γ _ _ _ env h (λs u H1 h1 S1 t1=>⟨_,hv,?_⟩) hx;have env1:=env.grow S1;refine hb H0 B H1 σ γ _ _ _ env1 h1 (λy w H2 h2 S2 t2=>?_) λc H' hc S'=>hx c H' hc (S1.trans S');obtain⟨k,z,k1,k2,k3,k4⟩:=h2;have env2:=env1.grow S2;have eu:=BY (t1.rp env1.same) k2;have ew:=FE (t2.rp env2.same) k1;subst eu ew;refine⟨l,_,rfl,DPut.k (S2 _ _<|S1 _ _ hl) (VL k3<|by decide),?_⟩;obtain⟨e2,f2⟩:=env2.mutate (es:=.dK (putK kvs k u)) (us:=.dK (putK kvs k u)) hi hv trivial λF H' SF hF=>hF;exact e.nx _ _ _ k4 e2 ((Fr.grow<|S1.trans S2).trans f2)
 ·rename_i kvs hi;obtain⟨v,hv,l,rfl,hb0,hl⟩:=env.slot i _ hi;refine ha H0 B H σ γ _ _ _ env h (λs u H1 h1 S1 t1=>⟨_,hv,?_⟩) hx;have env1:=env.grow S1;refine hb H0 B H1 σ γ _ _ _ env1 h1 (λy w H2 h2 S2 t2=>?_) λc H' hc S'=>hx c H' hc (S1.trans S');obtain⟨k,z,k1,k2,k3,k4⟩:=h2;have env2:=env1.grow S2;have eu:=BY (t1.rp env1.same) k2;obtain⟨b',rfl,hb'⟩:=BA (t2.rp env2.same) k1;subst eu;refine⟨l,_,rfl,DPut.t (S2 _ _<|S1 _ _ hl) hb' (VL k3<|by decide),?_⟩;obtain⟨e2,f2⟩:=env2.mutate (es:=.dT (putK kvs k u)) (us:=.dT (putK kvs k u)) hi hv trivial λF H' SF hF=>hF;exact e.nx _ _ _ k4 e2 ((Fr.grow<|S1.trans S2).trans f2)
 ·exact h.elim
noncomputable def OL(a:PTE):PTS:=λR γ=>a γ (λs=>match s.shd with|some d=>R.rt (.sh d)|none=>False) (R.ex γ)
def Zma(ha:Xj K mg E te a):Xy K mg E (Sd te) (OL a):=by
 intro H0 B H σ γ R D hB env h e;refine ha H0 B H σ γ _ _ _ env h (λs v H1 h1 S1 t1=>?_) λc H' hc S'=>e.ex σ γ c H' hc (env.grow S') (Fr.grow S');split at h1
 ·rename_i d hd;exact e.rt (.sh d) v H1 h1 (env.same.trans S1) (Rp.mono (Xx (Same.refl _) λb _ _ z y=>z (.inl y)) (t1.shd (env.grow S1).same env.zm S1 hd))
 ·grind
noncomputable def GT(i:Nat)(γ:Γ):Nat:=match γ[i]? with
 |some (some<|.own<|.lst ds)=>ds.length
 |_=>0
def Kp(d:α)(ds:List α):atI (d::ds) 0=some d:=Sg (by simp) rfl
noncomputable def em(l:Int)(p:Yl):D:=.lst ((l::p).map D.int)
def Fs(l:Int)(p:Yl):atI ((l::p).map D.int) (-1)=some (.int<|Xu l p):=by
 refine T5 ?_;unfold atI ixN;rw[WN (by omega),WO (by grind)];have e:(-1+((l::p).length:Int)).toNat=p.length:=by grind
 rw[e];exact B8 l p
def G2:List S->(S->Prop)->Prop
 |[s],R=>∃ns:Yl,s.d=.lst (ns.map D.int)/\R (.sh<|.int ns.sum)
 |_,_=>False
def Zew(hr:X6 K mg E ta r):Xj K mg E (tCB (λxs H Q=>∃(p:Addr) (ns:Yl),xs=[.ref p]/\SqL K H p (ns.map V.int)/\Q (.int ns.sum) H) ta) (pCB G2 r):=by
 refine Pt hr λH0 H H1 Z ss vs R Q s0 s1 hm tv h q=>?_;unfold G2 at h;split at h
 ·obtain⟨v,rfl,t1⟩:=tv.one_inv;obtain⟨ns,e,hR⟩:=h;have rv:=t1.rp s0;rw[e]at rv;obtain⟨a,rfl,ha⟩:=rv.ints_inv;exact⟨a,ns,rfl,SqL.of ha,q _ _ H1 hR (Same.refl _) (.int _)⟩
 ·grind
def G7:List S->(S->Prop)->Prop
 |[s],R=>∃ns:Yl,s.d=.lst (ns.map D.int)/\0<ns.length/\∀m,m∈ns->(∀a∈ns,m<=a)->R (.sh<|.int m)
 |_,_=>False
def Zkd(hr:X6 K mg E ta r):Xj K mg E (tCB (λxs H Q=>∃(p:Addr) (ns:Yl),xs=[.ref p]/\SqL K H p (ns.map V.int)/\0<ns.length/\∀M,M∈ns->(∀a∈ns,M<=a)->Q (.int M) H) ta) (pCB G7 r):=by
 refine Pt hr λH0 H H1 Z ss vs R Q s0 s1 hm tv h q=>?_;unfold G7 at h;split at h
 ·obtain⟨v,rfl,t1⟩:=tv.one_inv;obtain⟨ns,e,hne,hR⟩:=h;have rv:=t1.rp s0;rw[e]at rv;obtain⟨a,rfl,ha⟩:=rv.ints_inv;exact⟨a,ns,rfl,SqL.of ha,hne,λm h1 h2=>q _ _ H1 (hR m h1 h2) (Same.refl _) (.int _)⟩
 ·grind
def OY:List S->(S->Prop)->Prop
 |[s],R=>∃bs:List Bool,s.d=.lst (bs.map D.bl)/\R (.sh<|.bl<|bs.any id)
 |_,_=>False
theorem Rps.bls:∀{js:List Bool}{vs:List V},Rps K H (js.map D.bl) vs->vs=js.map V.bl
 |[],_,.nil=>rfl
 |j::r,_,.cons h t=>by rw[Rp.bl_inv h,Rps.bls t];rfl
def Zn1(hr:X6 K mg E ta r):Xj K mg E (tCB (λxs H Q=>∃(p:Addr) (bs:List Bool),xs=[.ref p]/\SqL K H p (bs.map V.bl)/\Q (.bl<|bs.any id) H) ta) (pCB OY r):=by
 refine Pt hr λH0 H H1 Z ss vs R Q s0 s1 hm tv h q=>?_;unfold OY at h;split at h
 ·obtain⟨v,rfl,t1⟩:=tv.one_inv;obtain⟨bs,e,hR⟩:=h;have rv:=t1.rp s0;rw[e]at rv;obtain⟨a,us,rfl,ha,r1⟩:=rv.lst_inv;rw[r1.bls]at ha;exact⟨a,bs,rfl,SqL.of ha,q _ _ H1 hR (Same.refl _) (.bl _)⟩
 ·grind
def MF(neg:Bool):S->S->(S->Prop)->Prop:=λx y R=>match x.d,y.d with
 | .lst ds,.lst []=>R (.sh<|.bl (if neg then !ds.isEmpty else ds.isEmpty))
 |_,_=>False
def Bo{ta tb a b}(ha:Xj K mg E ta a)(hb:Xj K mg E tb b):Xj K mg E (tOp (Ar K neg) ta tb) (p2 a b<|MF neg):=by
 refine Pv ha hb λH0 H H2 Z x y v u R Q s0 s1 hm tx ty h q=>?_;have rx:=tx.rp s0;have ry:=ty.rp s0;unfold MF at h;split at h
 ·rename_i ds e1 e2;rw[e1]at rx;rw[e2]at ry;obtain⟨l,us,rfl,hl,r⟩:=rx.lst_inv;obtain⟨m,ws,rfl,hm',r'⟩:=ry.lst_inv;cases r'
  refine⟨l,m,us,rfl,rfl,SqL.of hl,SqL.of hm',?_⟩;rw[Al r.len];exact q _ _ H2 h (Same.refl _) (.bl _)
 ·grind
def G6(x y:Int){k}(h:k=0\/k=1):atI [D.int x,D.int y] k=some (.int (if k=0 then x else y)):=by
 rcases h with rfl|rfl
 ·rfl
 ·rfl
def Nd(xs:List α)(lo hi:Option Int):(cutD xs lo hi).Sublist xs:=(Vx _ _).trans (List.drop_sublist _ _)
def Xo.gone (Ev:Xo K H0 B H σ γ) (i:Nat):Xo K H0 B H (σ.set i none) (γ.set i none)/\Fr B H σ γ H (σ.set i none) (γ.set i none):=by
 obtain⟨e1,f1⟩:=Ev.drop i
 have got:∀j s,(γ.set i none)[j]?=some (some s)->j≠i:=λj s h=>by
  rcases XW h with⟨_,e,_⟩|⟨n,_⟩
  ·cases e
  ·exact n
 have hz:∀b,zof B (γ.set i none) (σ.set i none) b↔zof B (γ.set i none) σ b:=λb=>by
  constructor
  ·rintro(z|⟨j,ds,x,z1,z2,z3⟩)
   ·exact .inl z
   ·rw[Te (got j _ z1)]at z2;exact .inr ⟨j,ds,x,z1,z2,z3⟩
  ·rintro(z|⟨j,ds,x,z1,z2,z3⟩)
   ·exact .inl z
   ·exact .inr ⟨j,ds,x,z1,by rw[Te (got j _ z1)];exact z2,z3⟩
 have ez:=funext λb=>propext (hz b);refine⟨⟨e1.same,by rw[QK];exact e1.len,e1.bm,λk j a a' ds es b h1 h2 h3 h4 h5 h6=>?_,λj s h=>?_⟩,λb o h z=>?_⟩
 ·rw[Te (got k _ h1)]at h3;rw[Te (got j _ h2)]at h4;exact e1.own k j a a' ds es b h1 h2 h3 h4 h5 h6
 ·obtain⟨v,h1,h2⟩:=e1.slot j s h
  grind
 ·rw[ez];exact f1 b o h z
def BS:Xj K mg E (tC<|.ref a) (pC<|.ref a):=Bb λ_=>.ref a
def ET(K:Yj):List S->(S->Prop)->Prop
 |[s,t],R=>(match s.d,t.d with
  | .err C,.ref C'=>∃b,ExcR.Kn K C/\PySem.W.kitOne K (.ref C) (.ref C')=some b/\R (.sh<|.bl b)
  | .err C,.ty n=>∃b,ExcR.Kn K C/\PySem.W.kitOne K (.ref C) (.type n)=some b/\R (.sh<|.bl b)
  | .erM C _,.ref C'=>∃b,ExcR.Pr K C/\PySem.W.kitOne K (.ref C) (.ref C')=some b/\R (.sh<|.bl b)
  | .erM C _,.ty n=>∃b,ExcR.Pr K C/\PySem.W.kitOne K (.ref C) (.type n)=some b/\R (.sh<|.bl b)
  |_,_=>False)
 |_,_=>False
def Rp.err_inv (h:Rp K H (.err C) v):∃a,v=.ref a/\H a=some (ExcR.Hz a C):=by
 cases h with
 |err h=>grind
def Rp.ref_inv (h:Rp K H (.ref a) v):v=.ref a:=by cases h;rfl
def Rp.erM_inv (h:Rp K H (.erM C r) v):∃a dx l o,v=.ref a/\H a=some (ExcR.KY a C<|some dx)/\H dx=some (.xd [("members",.ref l)])/\H l=some (.frz o<|.lst<|r.map V.int):=by
 cases h with
 |erM h1 h2 h3=>grind
def Bq(hr:X6 K mg E ta r):Xj K mg E (tCB (λxs H Q=>∃a C dx c b,xs=[.ref a,c]/\H a=some (ExcR.KY a C dx)/\ExcR.Pr K C/\(∃cv,(∀u,RelV c u->u=cv)/\PySem.W.kitOne K (.ref C) cv=some b)/\Q (.bl b) H) ta) (pCB (ET K) r):=by
 refine Pt hr λH0 H H1 Z ss vs R Q s0 s1 hm tv h q=>?_;unfold ET at h;split at h
 ·obtain⟨v,u,rfl,t1,t2⟩:=tv.two_inv;have r1:=t1.rp s0;have r2:=t2.rp s0;split at h
  ·rename_i C C' e1 e2;rw[e1]at r1;rw[e2]at r2;obtain⟨a,rfl,ha⟩:=r1.err_inv;obtain⟨b,h1,h2,h3⟩:=h;rw[r2.ref_inv];exact⟨a,C,_,_,b,rfl,ha,h1.any,⟨.ref C',λu hu=>hu,h2⟩,q _ _ H1 h3 (Same.refl _) (.bl _)⟩
  ·rename_i C n e1 e2;rw[e1]at r1;rw[e2]at r2;obtain⟨a,rfl,ha⟩:=r1.err_inv;obtain⟨b,h1,h2,h3⟩:=h;rw[r2.ty_inv];exact⟨a,C,_,_,b,rfl,ha,h1.any,⟨.type n,λu hu=>hu,h2⟩,q _ _ H1 h3 (Same.refl _) (.bl _)⟩
  ·rename_i C r C' e1 e2;rw[e1]at r1;rw[e2]at r2;obtain⟨a,dx,_,_,rfl,ha,_,_⟩:=r1.erM_inv;obtain⟨b,h1,h2,h3⟩:=h;rw[r2.ref_inv];exact⟨a,C,_,_,b,rfl,ha,h1,⟨.ref C',λu hu=>hu,h2⟩,q _ _ H1 h3 (Same.refl _) (.bl _)⟩
  ·rename_i C r n e1 e2;rw[e1]at r1;rw[e2]at r2;obtain⟨a,dx,_,_,rfl,ha,_,_⟩:=r1.erM_inv;obtain⟨b,h1,h2,h3⟩:=h;rw[r2.ty_inv];exact⟨a,C,_,_,b,rfl,ha,h1,⟨.type n,λu hu=>hu,h2⟩,q _ _ H1 h3 (Same.refl _) (.bl _)⟩
  ·exact h.elim
 ·exact h.elim
noncomputable def Df(i:Nat)(b a:PTE):PTS:=λR γ=>match γ[i]? with
 |some (some<|.own<|.lst ds)=>a γ (λs=>b γ (λy=>match y.d with
   | .int k=>∃j d,ixN ds.length k=some j/\s.shd=some d/\R.nx (γ.set i<|some<|.own<|.lst<|ds.set j d)
   |_=>False) (R.ex γ)) (R.ex γ)
 |some (some<|.own<|.lsA x ds)=>a γ (λs=>b γ (λy=>match y.d with
   | .int k=>∃j d,ixN ds.length k=some j/\s.shd=some d/\R.nx (γ.set i<|some<|.own<|.lsA x<|ds.set j d)
   |_=>False) (R.ex γ)) (R.ex γ)
 |_=>False
theorem Rps.set (h:Rp K H d v):∀{ds vs} j,Rps K H ds vs->Rps K H (ds.set j d) (vs.set j v)
 |_,_,_,.nil=>.nil
 |_,_,0,.cons _ r=>.cons h r
 |_,_,j+1,.cons k r=>.cons k (Rps.set h j r)
def Zmm(i:Nat){tb te a b}(hb:Xj K mg E tb b)(ha:Xj K mg E te a):Xy K mg E (N2 te<|IF (Kz i) tb MM) (Df i b a):=by
 intro H0 B H σ γ R D hB env h e;have hx:=λc H' hc S'=>e.ex σ γ c H' hc (env.grow S') (Fr.grow S');unfold Df at h;split at h
 ·rename_i ds hi;obtain⟨v,hv,l,rfl,hb0,us,hl,ru⟩:=env.slot i _ hi;refine ha H0 B H σ γ _ _ _ env h (λs u H1 h1 S1 t1=>⟨_,hv,?_⟩) hx;have env1:=env.grow S1;refine hb H0 B H1 σ γ _ _ _ env1 h1 (λy w H2 h2 S2 t2=>?_) λc H' hc S'=>hx c H' hc (S1.trans S');have env2:=env1.grow S2;have ry:=t2.rp env2.same;split at h2
  ·rename_i k ek;rw[ek]at ry;obtain⟨j,d,h3,h4,h5⟩:=h2;have rd:=Rp.mono (Xx S2 λ_ _ _ z=>z) (t1.shd env1.same env.zm S1 h4);refine⟨l,us,k,j,rfl,ry.int_inv,(S1.trans S2) _ _ hl,by rw[ru.len];exact h3,?_⟩;obtain⟨e2,f2⟩:=env2.mutate (es:=.lst (ds.set j d)) (us:=.lst (us.set j u)) hi hv trivial λF H' SF hF=>⟨_,hF,Rps.mono SF (Rps.set rd j<|Rps.mono (Xx (S1.trans S2) λ_ _ _ z=>z) ru)⟩;exact e.nx _ _ _ h5 e2 ((Fr.grow<|S1.trans S2).trans f2)
  ·exact h2.elim
 ·rename_i x ds hi;obtain⟨v,hv,l,rfl,hb0,rfl,us,hl,ru⟩:=env.slot i _ hi;refine ha H0 B H σ γ _ _ _ env h (λs u H1 h1 S1 t1=>⟨_,hv,?_⟩) hx;have env1:=env.grow S1;refine hb H0 B H1 σ γ _ _ _ env1 h1 (λy w H2 h2 S2 t2=>?_) λc H' hc S'=>hx c H' hc (S1.trans S');have env2:=env1.grow S2;have ry:=t2.rp env2.same;split at h2
  ·rename_i k ek;rw[ek]at ry;obtain⟨j,d,h3,h4,h5⟩:=h2;have rd:=Rp.mono (Xx S2 λ_ _ _ z=>z) (t1.shd env1.same env.zm S1 h4);refine⟨l,us,k,j,rfl,ry.int_inv,(S1.trans S2) _ _ hl,by rw[ru.len];exact h3,?_⟩;obtain⟨e2,f2⟩:=env2.mutate (es:=.lsA l (ds.set j d)) (us:=.lst (us.set j u)) hi hv trivial λF H' SF hF=>⟨rfl,_,hF,Rps.mono SF (Rps.set rd j<|Rps.mono (Xx (S1.trans S2) λ_ _ _ z=>z) ru)⟩;exact e.nx _ _ _ h5 e2 ((Fr.grow<|S1.trans S2).trans f2)
  ·exact h2.elim
 ·exact h.elim
def Zp1:S->S->(S->Prop)->Prop:=λx y R=>match x.d,y.d with
 | .lst ds,.int k=>x.free ds=true/\(-(2 ^ 63)<=k/\k<2 ^ 63)/\ds.length*k.toNat<=10000000/\R (.own (.lst (List.replicate k.toNat ds).flatten))
 |_,_=>False
noncomputable def Bl:List D->Option (List V)
 |[]=>some []
 |d::r=>match SU d,Bl r with
  |some v,some vs=>some (v::vs)
  |_,_=>none
theorem AX:∀{ds}{vs us:List V},Rps K H ds vs->Bl ds=some us->vs=us
 |[],_,_,.nil,e=>by cases e;rfl
 |d::r,_,us,.cons h t,e=>by
  unfold Bl at e;split at e
  ·rename_i v vs e1 e2;cases e
   rw[BY h e1,AX t e2]
  ·grind
def Gx(neg:Bool):S->S->(S->Prop)->Prop:=λx y R=>match x.d,y.d with
 | .lst ds,.lst es=>∃us ws,Bl ds=some us/\Bl es=some ws/\us.all KI=true/\ws.all KI=true/\R (.sh<|.bl (if neg then !eqL us ws else eqL us ws))
 |_,_=>False
def Zoc{ta tb a b}(ha:Xj K mg E ta a)(hb:Xj K mg E tb b):Xj K mg E (tOp (Tp K neg) ta tb) (p2 a b<|Gx neg):=by
 refine Pv ha hb λH0 H H2 Z x y v u R Q s0 s1 hm tx ty h q=>?_;unfold Gx at h;have rx:=tx.rp s0;have ry:=ty.rp s0;split at h
 ·rename_i ds es e1 e2;rw[e1]at rx;rw[e2]at ry;obtain⟨us,ws,h1,h2,h3,h4,h5⟩:=h;obtain⟨l,vs,rfl,hl,r⟩:=rx.lst_inv;obtain⟨m,vs',rfl,hm',r'⟩:=ry.lst_inv;rw[AX r h1]at hl;rw[AX r' h2]at hm';exact⟨l,m,us,ws,rfl,rfl,SqL.of hl,SqL.of hm',h3,h4,q _ _ H2 h5 (Same.refl _) (.bl _)⟩
 ·grind
def Zmc(hu:X.A.units<cLine)(hK:autoParam (X.K=K) au_0):OpR X (compareOp .NotEq) (Tp K true):=by subst hK;exact Lm hu
end
end Pu
namespace PySem
open Sem (wp)
structure Zke {K:Type} (es:List DictEntry) (kvs:List (K×Value)):Prop where
 length:es.length=kvs.length
 get?:∀{i:Nat} {e:DictEntry} {k:K} {v:Value},es[i]?=some e->kvs[i]?=some (k,v)->True/\e.val=v
def VDict{K:Type}(h:Heap)(a:Addr)(kvs:List (K×Value))(ep:Nat):Prop:=
 ∃o es,h.get? a=some o/\o.ExactDict/\o.data=.dict es ep/\True/\Zke es.toList kvs/\True
section
variable {prog:Program}{w:World}{K:Type}{A:Around}{E:Yo}{s:Shared}
def Zfw(d:Addr)(hd:(d==sysModules)=false) :
  MeetsIn prog w (Builtin.«dict.values» ⟨[.ref d],[]⟩) (λ_ R s=>s.TypeIs (.ref d) "dict"/\
   R (.ok<|.ret<|.ref s.heap.objs.size) {s with heap:=s.heap.push {cls:=.type "dict_values",data:=.fields #[.ref d]}}):=
 .of_wp λA R s ⟨hm,h⟩=>by
  refine WE ?_;unfold Builtin.Dict.noArgs;refine WE (wpAny_notOrdered_dict hm ?_);show wpAny _ _ (pure d) _ _ s;refine WL ?_;show wpAny _ _ (Builtin.Dict.showsAll d >>= _) _ _ s;unfold Builtin.Dict.showsAll;rw[WN (by rw[hd];exact Qh)];refine WE (WL ?_);exact WE (QC<|WL ⟨_,rfl,h⟩)
def Zhe{v d:Addr}{kvs:List (K×Value)}{ep:Nat}{Q:Yo}(hv:s.heap.IsValuesView v d)(hm:VDict s.heap d kvs ep)(hQ:Q (.ref s.heap.objs.size) {s with heap:=s.heap.push {cls:=.type "dict_valueiterator",data:=.fields #[.ref d,.int 0 0,.int kvs.length 0,.int ep 0]}}) :
  wpAny (model prog w) A (pyIter<|.ref v) Q E s:=by
 obtain⟨ov,hov,hcv,hdv⟩:=id hv;obtain⟨o,es,ho,hc,hdat,hk,hp,hn⟩:=id hm;refine wpAny_pyIter_slot hv.typeIs F.slot_dict_values_iter (Vo F.slot_dict_values_iter hv.typeIs F.entry_dict_values_iter ?_<|F.args_dict_values_iter_1 _);unfold Builtin.«dict_values.__iter__»;refine WE (WL ?_);refine WE ?_;unfold Builtin.Dict_items.dictOf;refine WE (JI hov hdv (x:=.ref d) rfl<|WL ?_);refine WE ?_;unfold Builtin.Dict_items.newIterator;refine WE (wpAny_dictEntries ho hdat ?_);refine WE (wpAny_dictEpoch ho hdat ?_);have hsz:es.size=kvs.length:=by rw[←hp.length];simp
 have hown:Builtin.Dict_items.ownsTuple "dict_valueiterator"=false:=by decide
 simp only[hown,Jg,Jv];refine QC (WL ⟨_,rfl, "dict_valueiterator",_,⟨_,WX _ rfl,rfl⟩,F.slot_dict_valueiterator_next.lookup,?_⟩);simpa [rawInt,hsz]using hQ
def Rr{it d:Addr}{i ep:Nat}{kvs:List (K×Value)}{k:K}{v:Value}{Q:Yv->Shared->Prop}(hit:s.heap.IsValIter it d i kvs.length ep)(hm:VDict s.heap d kvs ep)(hx:kvs[i]?=some (k,v))(hQ:∀h',h'.IsValIter it d (i+1) kvs.length ep->Heap.SameBut it s.heap h'->Q (some v) {s with heap:=h'}) :
  wpAny (model prog w) A (pyNext<|.ref it) Q E s:=by
 obtain⟨o,ho,hc,hd⟩:=id hit;obtain⟨od,es,hod,hcd,hdd,hk,hp,hn⟩:=id hm;unfold pyNext
 refine WE (wpAny_attempt (Jl (name:=Str.ofString "__next__") hit.typeIs Vh
  (Vo Vh hit.typeIs F.entry_dict_valueiterator_next ?_<|F.args_dict_valueiterator_next_1 _)))
 refine WE (WL ?_);refine WE ?_;refine WE ?_
 first|refine WE (Vj hit.typeIs<|WL ?_)|refine WE (V5 hit.typeIs<|WL ?_)
 refine WE (wpAny_fieldsOf ho hd ?_);have hown:Builtin.Dict_items.ownsTuple "dict_valueiterator"=false:=by decide
 simp only[hown,Jg,Jv];show wpAny _ _ (if (Value.ref d==Value.none)=true then _ else _) _ _ s;rw[WN (show ¬((Value.ref d==Value.none)=true)from Qh)]
 refine WE (WL ?_);refine WE (wpAny_dictEntries hod hdd ?_);have hsz:es.size=kvs.length:=by rw[←hp.length];simp
 rw[WN (by rw[hsz];simp)];refine WE (WL ?_);refine WE (wpAny_dictEpoch hod hdd ?_);rw[WN (by simp)];refine WL ?_
 have hlt:i<kvs.length:=by
  rcases Nat.lt_or_ge i kvs.length with h|h
  ·exact h
  ·simp[Vs h]at hx
 have hlt':i<es.size:=by rw[hsz];exact hlt
 have hval:es[i].val=v:=(hp.get? (e:=es[i]) (by simp[hlt']) hx).2;simp only[show ¬((i:Int)<0)from by omega,Jv,QD,QV hlt']
 refine WE ?_
 first|refine WE (Vj hit.typeIs<|WL ?_)|refine WE (V5 hit.typeIs<|WL ?_)
 refine WE (Jy hit.typeIs ?_);show wpAny _ _ (setField (.ref it) 1 (rawInt ((i:Int)+1)) >>= _) _ _ s;refine WE (Vc ho hd (by simp) ?_)
 have hit':(s.heap.update it<|Obj.mapFields (·.setIfInBounds 1 (rawInt ((i:Int)+1)))).IsValIter it d (i+1) kvs.length ep:=
  ⟨_,Q5 _ ho (Vd<|QL hd _),(Jq ..).trans hc,by rw[QL hd];simp[rawInt]⟩
 refine WE (QR ?_);refine WE (Jy (s:={s with heap:=s.heap.update it (Obj.mapFields (·.setIfInBounds 1 (rawInt ((i:Int)+1))))}) hit'.typeIs ?_)
 refine WE (Jy (s:={s with heap:=s.heap.update it (Obj.mapFields (·.setIfInBounds 1 (rawInt ((i:Int)+1))))}) hit'.typeIs ?_)
 show wpAny _ _ (pure es[i].val) _ _ _;exact WL (WL ⟨_,rfl,WL (hval▸hQ _ hit' (QM ..))⟩)
def Zer{it d:Addr}{i ep:Nat}{kvs:List (K×Value)}{Q:Yv->Shared->Prop}(hh:A.handled=none)(hit:s.heap.IsValIter it d i kvs.length ep)(hm:VDict s.heap d kvs ep)(hx:kvs[i]?=none)(hQ:∀h',Heap.ExtBut it s.heap h'->Q none {s with heap:=h'}):wpAny (model prog w) A (pyNext<|.ref it) Q E s:=by
 obtain⟨o,ho,hc,hd⟩:=id hit;obtain⟨od,es,hod,hcd,hdd,hk,hp,hn⟩:=id hm;unfold pyNext
 refine WE (wpAny_attempt (Jl (name:=Str.ofString "__next__") hit.typeIs Vh
  (Vo Vh hit.typeIs F.entry_dict_valueiterator_next ?_<|F.args_dict_valueiterator_next_1 _)))
 refine WE (WL ?_);refine WE ?_;refine WE ?_
 first|refine WE (Vj hit.typeIs<|WL ?_)|refine WE (V5 hit.typeIs<|WL ?_)
 refine WE (wpAny_fieldsOf ho hd ?_);have hown:Builtin.Dict_items.ownsTuple "dict_valueiterator"=false:=by decide
 simp only[hown,Jg,Jv];show wpAny _ _ (if (Value.ref d==Value.none)=true then _ else _) _ _ s;rw[WN (show ¬((Value.ref d==Value.none)=true)from Qh)]
 refine WE (WL ?_);refine WE (wpAny_dictEntries hod hdd ?_);have hsz:es.size=kvs.length:=by rw[←hp.length];simp
 rw[WN (by rw[hsz];simp)];refine WE (WL ?_);refine WE (wpAny_dictEpoch hod hdd ?_);rw[WN (by simp)];refine WL ?_;have hge:es.size<=i:=by rw[hsz];simpa using hx
 simp only[show ¬((i:Int)<0)from by omega,Jv,QD,Jt hge]
 refine WE ?_
 first|refine WE (Vj hit.typeIs<|WL ?_)|refine WE (V5 hit.typeIs<|WL ?_)
 show wpAny _ _ (setField (.ref it) 0 .none >>= _) _ _ s;refine WE (Vc ho hd (by simp) ?_);show wpAny _ _ (newExc (.type "StopIteration") [] >>= _) _ _ _;refine WE ?_;simp only[newExc,newTuple];refine WE (QC ?_<|by size_fits);refine WE (m:=firstArgMember _ _) (wpAny_of_eq (a:=Value.none) (by first|rfl|(simp only[firstArgMember];rfl)) ?_)
 refine QC ?_ (by size_fits);simp only[raiseNew];refine WE (wpAny_handled ?_);rw[show A.in1.handled=none from hh]
 refine WE (WL<|wpAny_throw ?_);refine WE (wpAny_isInstance (T:="StopIteration") (b:=true) ⟨_,WX _ rfl,rfl⟩ isSubtype_stop ?_);exact WL (hQ _ (((QM ..).extBut.push _).push _))
end
end PySem
open PySem PySem.Spec PyProof.Rows
namespace Own
open L2
noncomputable def LD(K:Yj):R2:=λx y H Q=>∃a b xs ys,x=.ref a/\y=.ref b/\SqT K H a xs/\SqT K H b ys/\xs.length+ys.length<=sizeLine/\
 (xs=[]->Q (.ref b) H)/\(xs≠[]->ys=[]->Q (.ref a) H)/\(xs≠[]->ys≠[]->∀p,H p=none->Q (.ref p) (upd H p<|.tup (xs++ys)))
section
variable {X:Cx}{K:Yj}
def RG(hK:autoParam (X.K=K) au_0):OpR X (binaryOp .Add) (LD K):=by
 subst hK;intro pins s σ H x y v u Q I rx ry h;obtain⟨a,b,xs,ys,rfl,rfl,ha,hb,hz,q0,q1,q2⟩:=h;cases rx
 cases ry
 by_cases hx:xs=[]
 ·obtain⟨its,r1,p1,_⟩:=I.tuple ha;obtain⟨its2,r2,p2,_⟩:=I.tuple hb;have e:=r1.nil_iff.mpr hx;obtain⟨⟨cls,dd,data,sl⟩,ho,hc,n,hd⟩:=id p1;obtain⟨⟨cls2,dd2,data2,sl2⟩,ho2,hc2,n2,hd2⟩:=id p2;simp only at hc hd hc2 hd2;subst hc hd hc2 hd2
  exact concat_meets ⟨_,ho,rfl⟩ ⟨_,ho2,rfl⟩ noFill_tuple_add seq_tuple_add Js Jk (Jc _ _)
   (tuple_addW0 a b its.toArray its2.toArray n n2 dd dd2 sl sl2<|by grind) ⟨ho,ho2,⟨.ref b,H,I,rfl,q0 hx⟩⟩
 ·exact Zdo pins s σ H (.ref a) (.ref b) _ _ Q I rfl rfl ⟨a,b,xs,ys,rfl,rfl,ha,hb,hx,hz,q1 hx,q2 hx⟩
def Zam(h:VV [(.ref b,x)] ws):∃r,ws=[(.ref b,r)]/\RelV x r:=by
 cases h with
 |cons h t=>
  cases t
  rename_i y;obtain⟨u,r⟩:=y;obtain⟨h1,h2⟩:=h;cases h1
  grind
noncomputable def LK(tk tv:TE):TE:=λσ H Q=>∀p,H p=none->tk σ (upd H p<|.dT []) λy H1=>tv σ H1 λx H2=>H2 p=some (.dT [])/\∃b ks,y=.ref b/\H2 b=some (.tup<|ks.map kV)/\Q (.ref p) (upd H2 p<|.dT [(ks,x)])
def Zi6{tk tv pos}(hu:X.A.units+1<cLine)(hk:PE X k tk)(hv:PE X v tv):PE X (.Dict [some k] [v] pos) (LK tk tv):=by
 intro pins s σ H Q I q
 refine wpAny_Dict_any rfl rfl (by simp) (by simp) (thn ((Zd7 hk hv Zg3) pins _ σ _ (λps H2=>match ps with
  |[(y,x)]=>H2 s.heap.objs.size=some (.dT [])/\∃b ks,y=.ref b/\H2 b=some (.tup<|ks.map kV)/\Q (.ref s.heap.objs.size) (upd H2 s.heap.objs.size<|.dT [(ks,x)])
  |_=>False) (I.laid (t':=s.toks) (λ_ _ q=>WM _ q) (WQ _)<|LW s.heap I.big)<|q _<|I.hok.fresh<|WQ s.heap.objs.size) λws s2 ⟨ps,H2,I2,rel,h2⟩=>?_)
 split at h2
 ·rename_i y x;obtain⟨e,b,ks,ey,eb,q2⟩:=h2;subst ey;obtain⟨wv,ew,rv⟩:=Zam rel;subst ew;obtain⟨z,hd,xs,rel',dd⟩:=BF I2.hok e;cases rel'
  unfold storeAll;rw[List.forIn_cons];refine WE (WE (wpAny_dictSet_heap (Nat.lt_of_succ_lt hu) (Bp I2.hok eb) dd λh' dd' hs=>WL ?_))
  dsimp only
  refine WL ?_;obtain⟨qo,es,ep,hq,h2,h3,h4,_,h5⟩:=dd';refine⟨.ref s.heap.objs.size,_,Ft (ob:=.dT [(ks,x)]) I2 (by rw[e];exact True.intro) hs ⟨qo,hq⟩ ⟨(by show 1<=sizeLine;decide),hd,[(ks,b,wv)],?_,qo,es,ep,hq,h2,h3,h4,h5⟩,rfl,q2⟩;refine .cons ⟨rfl,?_,rv⟩ .nil;rwa[Xr (Ep eb e (λz=>nomatch z))]
 ·exact h2.elim
end
section
variable {prog:Program}{w:World}{A:Around}{K:Type}{d r:Addr}{kvs:List (K×Value)}{ep:Nat}{h h':Heap}
def VDict.at (x:VDict h d kvs ep) (e:∀o,h.get? d=some o->h'.get? d=some o):VDict h' d kvs ep:=let ⟨o,es,ho,r⟩:=x;⟨o,es,e _ ho,r⟩
def VDict.lt (x:VDict h d kvs ep):d<h.objs.size:=let ⟨_,_,ho,_⟩:=x;WT ho
def Zez(hh:A.handled=none)(I d:Addr)(hne:d≠I)(kvs:List (K×Value))(ep:Nat) :
  Walks prog w A I [I,d] [I] kvs.length (λi v=>∃k,kvs[i]?=some (k,v)) (λi h=>h.IsValIter I d i kvs.length ep/\VDict h d kvs ep) where
 sub:=λb hb=>by simp at hb;simp[hb]
 frame:=λ_ _ _ st hk=>⟨st.1.at λo e=>hk I (by simp) o e,VDict.at st.2 λo e=>hk d (by simp) o e⟩
 item:=λi s Q E hi st hQ=>by
  refine Rr (k:=(kvs[i]).1) (v:=(kvs[i]).2) st.1 st.2 (by grind) λh' hit' hs'=>?_;exact hQ _ h' s.toks ⟨(kvs[i]).1,by simp[hi]⟩ ⟨hit',VDict.at st.2 λo e=>hs'.extBut d o hne e⟩ λb o hb e=>hs'.extBut b o (λh=>hb (by grind)) e
 done:=λs Q E st hQ=>Zer hh st.1 st.2 (by simp) λh' he'=>hQ h' s.toks λb o hb e=>he' b o (λh=>hb (by grind)) e
 self:=λ_ _ _ _ st hQ=>wpAny_pyIter_valiter st.1 hQ
def Zj2:PySem.W.KdlSrc prog w "dict_values" r d kvs.length (λi v=>∃k,kvs[i]?=some (k,v)) (λh=>h.IsValuesView r d/\VDict h d kvs ep) where
 type:=λ_ hm=>hm.1.typeIs
 there:=λ_ hm=>⟨let ⟨_,ho,_⟩:=hm.1;WT ho,VDict.lt hm.2⟩
 keep:=λ_ _ hm hk=>⟨let ⟨o,ho,x⟩:=hm.1;⟨o,hk r (.inl rfl) o ho,x⟩,VDict.at hm.2 λo e=>hk d (.inr rfl) o e⟩
 notList:=by decide
 notTuple:=by decide
 hint:=λ_ _ _ _ hm hq=>PySem.W.kdl_hint_values hm.1.typeIs hq
 iter:=λ_ _ hh hm=>⟨_,_,(λ_ _ hq=>Zhe hm.1 hm.2 hq),Zez hh _ d (Qk<|VDict.lt hm.2) kvs ep,⟨⟨_,WX _ rfl,rfl,rfl⟩,VDict.at hm.2 λo e=>WM _ e⟩⟩
end
noncomputable def SM(v d:Addr):HO:=.ext λh=>h.IsValuesView v d
def DM:V->List V->Hp->VK->Prop:=λx vs H Q=>∃d kvs,x=.ref d/\vs=[]/\H d=some (.dT kvs)/\∀v,H v=none->Q (.ref v) (upd H v<|SM v d)
section
variable {X:Cx}
def Zff:MtR X "dict.values" DM:=by
 intro pins s σ H x xs v us Q I rx rv h;obtain⟨d,kvs,rfl,rfl,hd,q⟩:=h;cases rx
 have hus:=rv.zero;subst hus;obtain⟨z,lo,xs,rel,dd⟩:=BF I.hok hd;obtain⟨o,es,ep,ho,hx,_⟩:=id dd;refine call_meetsIn PySem.F.slot_dict_values ⟨o,ho,hx.1⟩ PySem.F.entry_dict_values (PySem.F.args_dict_values_1 _) (Zfw d lo) ⟨⟨o,ho,hx.1⟩,?_⟩;refine⟨.ref s.heap.objs.size,_,I.laid (o:=SM s.heap.objs.size d) (λ_ _ q=>WM _ q) (WQ _) ⟨⟨_,WX _ rfl,rfl,rfl⟩,⟨_,WX _ rfl⟩,λh1 h2 ⟨o,ho,r⟩ e=>⟨o,e o ho,r⟩⟩,rfl,q _ (I.hok.fresh<|WQ _)⟩
def Zoe{K}{o}{to}{name:Str}{apos cpos}(ho:PE X o to)(hK:autoParam (X.K=K) au_0)(hn:autoParam (name = "values") au_0)(hbase:autoParam (attributeBase o name X.env (eval o X.env)=eval o X.env) au_0)(hline:autoParam ((apos.endLine==cpos.line)=true) au_0):PE X (.Call (.Attribute o name apos) [] [] cpos) (Bh K "dict" DM to):=by
 subst hK hn;exact SD PySem.F.plainAttrs_dict PySem.F.slot_dict_values PySem.F.type_dict_values Zff ho hbase hline
def GC:∀{kvs}{xs:List (List Key×Addr×Value)},KT H kvs xs->Vals (kvs.map (·.2)) (xs.map (·.2.2)):=by
 intro ds
 induction ds with
 |nil=>
  intro _ h;cases h
  exact .nil
 |cons _ _ ih=>
  intro _ h;cases h with
  |cons h r=>
   exact .cons h.2.2 (ih r)
def Zdz(hc:X.calm=true):Kh X (.type "list") (λxs H Q=>∃v d kvs,xs=[.ref v]/\H v=some (SM v d)/\H d=some (.dT kvs)/\∀l,H l=none->Q (.ref l) (upd H l<|.lst<|kvs.map (·.2))):=by
 intro pins s σ H xs us Q I rv h;obtain⟨v,d,kvs,rfl,hv,hd,q⟩:=h;obtain⟨u,rfl,ru⟩:=rv.one;obtain rfl:=ru;obtain⟨z,lo,xs,rel,dd⟩:=BF I.hok hd;obtain⟨o,es,ep,ho,hx,hdat,he,hk,hn⟩:=id dd;have hl:xs.length=kvs.length:=by simpa using(GC rel).length.symm
 have vd:VDict s.heap d (xs.map λx=>((),x.2.2)) ep:=by
  refine⟨o,es,ho,hx,hdat,trivial,⟨by rw[he,WG,WG],λ{i e k v} h1 h2=>⟨trivial,?_⟩⟩,trivial⟩;rw[he,WS]at h1;rw[WS]at h2;cases hi:xs[i]? with
  |none=>grind
  |some x=>
   rw[hi]at h1 h2;cases h1
   cases h2
   rfl
 refine PySem.W.kdl_call Zj2 (I.ok.hd hc) ⟨((I.hok v _ hv).1),vd⟩ (by rw[WG];omega) λh' tk acc' c' hk hD hacc=>?_;refine⟨.ref s.heap.objs.size,upd H s.heap.objs.size (.lst<|kvs.map (·.2)),?_,rfl,q _ (I.hok.fresh<|WQ _)⟩;refine I.laid hk (WQ _) ⟨by rw[WG];exact z,acc'.toList,c',?_,by simpa using hD⟩;rw[(PySem.W.kdl_vals_eq acc'.toList (by rw[QH];exact hacc.1) λj u hu=>hacc.2 j u (by rw[←hu,QW])),QA];exact GC rel
end
end Own
namespace Pu
open L2 Own M
section
variable {K:Yj}{mg:Yn}{E:L2.St->XK}{H0 H H1 H':Hp}{B Z Z':Addr->Prop}{σ:L2.St}{γ:Γ}
noncomputable def Sf:Option D->Option (List D)
 |some (.tup ds)=>some ds|_=>none
def Cs(h:Sf o=some ds):o=some (.tup ds):=by
 unfold Sf at h;split at h
 ·grind
 ·grind
def Zmj:S->S->(S->Prop)->Prop:=λx y R=>∃ds es,Sf x.shd=some ds/\Sf y.shd=some es/\ds.length+es.length<=100000/\R (.sh<|.tup (ds++es))
def Zdt{a b}(ha:Xj K mg E ta a)(hb:Xj K mg E tb b):Xj K mg E (tOp (LD K) ta tb) (p2 a b Zmj):=by
 refine Pv ha hb λH0 H H2 Z x y v u R Q s0 s1 hm tx ty h q=>?_;obtain⟨ds,es,e1,e2,hz,h⟩:=h;have r1:=tx.shd s0 hm s1 (Cs e1);have r2:=ty.shd s0 hm s1 (Cs e2);obtain⟨l,us,rfl,h1,k1⟩:=Rp.tup_inv r1;obtain⟨m,ws,rfl,h2,k2⟩:=Rp.tup_inv r2;refine⟨l,m,us,ws,rfl,rfl,SqT.of (off_sub _ _ h1),SqT.of (off_sub _ _ h2),by rw[k1.len,k2.len];exact WU hz (by decide),λe=>?_,λ_ e=>?_,λ_ _ p np=>?_⟩
 ·subst e;cases k1
  exact q _ _ _ h (Same.refl _) r2
 ·subst e;cases k2
  refine q _ _ _ h (Same.refl _) ?_;rw[QB];trivial
 ·refine q _ _ _ h (Kb np) (.tup (XS X4 λz=>?_)<|Rps.mono (Xx (Kb np) λ_ _ _ z=>z)<|k1.append k2)
  have:=(λb z=>PZ s1 (hm b z)) p z
  rw[np]at this;exact this
noncomputable def pIT(a:PTE):PTI:=λγ R X=>a γ (λs=>∃ds,Sf s.shd=some ds/\R ds.length λi=>.sh (ds.getD i .non)) X
def En(ha:Xj K mg E te a):SndI K mg E (DK K te) (pIT a):=by
 intro H0 B H σ γ R X Q env h q qx;refine ha H0 B H σ γ _ X _ env h (λs v H1 h1 S1 t1=>?_) qx;obtain⟨ds,ed,h1⟩:=h1;obtain⟨l,vs,rfl,hl,k1⟩:=Rp.tup_inv (t1.shd (env.grow S1).same env.zm S1 (Cs ed));refine⟨l,rfl,⟨vs,SqT.of (off_sub _ _ hl)⟩,q _ _ _ H1 h1 S1 ⟨λi H' Z' hi lt=>?_,λH' Z' lt=>?_⟩⟩
 ·have hd:ds[i]?=some (ds.getD i .non):=by rw[Qb,WH hi];rfl
  obtain⟨u,hu,tu⟩:=k1.get hd;have k:=off_sub _ _ (lt.off _ _ hl);refine⟨⟨vs,u,SqT.of k,hu⟩,λx H'' y=>?_⟩;obtain⟨rfl,y⟩:=y
  have:=y vs (SqT.of k)
  rw[hu]at this;cases this
  exact⟨Same.refl _,Rp.mono lt.off tu⟩
 ·exact⟨vs,SqT.of (off_sub _ _<|lt.off _ _ hl),by rw[k1.len];exact WQ _⟩
noncomputable def NZ:List (List Key×V)->Bool
 |[]=>true
 |p::r=>F9 p.2&&NZ r
theorem O7:∀{kvs:List (List Key×V)},NZ kvs=true->Rps K H (kvs.map λp=>vD p.2) (kvs.map (·.2))
 |[],_=>.nil
 |p::r,h=>by
  unfold NZ at h;rw[Q4]at h;exact .cons (Ek h.1) (O7 h.2)
def Zdb:List V->Hp->VK->Prop:=λxs H Q=>∃(v d:Addr) (kvs:List (List Key×V)),xs=[.ref v]/\H v=some (SM v d)/\H d=some (.dT kvs)/\∀l,H l=none->Q (.ref l) (upd H l<|.lst<|kvs.map (·.2))
noncomputable def Zac(a:PTE):PTE:=λγ R X=>a γ (λs=>∃kvs,s.d=.dT kvs/\NZ kvs=true/\R (.own<|.lst (kvs.map λp=>vD p.2))) X
def Zhn(ha:Xj K mg E te a):Xj K mg E (tCB Zdb<|Kl (Bh K "dict" DM te) KO) (Zac a):=by
 intro H0 B H σ γ R X Q env h q qx;refine ha H0 B H σ γ _ X _ env h (λs v H1 h1 S1 t1=>?_) qx;obtain⟨kvs,e,hs,hR⟩:=h1;have rx:=t1.rp (env.grow S1).same;rw[e]at rx;obtain⟨l,rfl,hl⟩:=rx.dT_inv;refine⟨.inr (.inr<|.inl ⟨rfl,.inr ⟨kvs,hl⟩⟩),l,kvs,rfl,rfl,hl,λp np=>?_⟩;refine⟨p,l,kvs,rfl,X4,by rw[Xr (Kw hl np)];exact hl,λm nm=>?_⟩;have S2:Same H1 (upd H1 p<|SM p l):=Kb np;exact q _ _ _ hR ((S1.trans S2).trans (Kb nm)) ⟨m,rfl,(λ_ e=>e▸(S1.trans S2).free nm),_,X4,O7 hs⟩
noncomputable def Zai(a b:PTE):PTE:=λγ R X=>a γ (λy=>b γ (λx=>∃ks u,NP y.d=some ks/\SU x.d=some u/\R (.own<|.dT [(ks,u)])) X) X
def RW{a b}(ha:Xj K mg E tk a)(hb:Xj K mg E tv b):Xj K mg E (LK tk tv) (Zai a b):=by
 intro H0 B H σ γ R X Q env h q qx p np;have S0:Same H (upd H p<|.dT []):=Kb np;have env0:=env.grow S0;refine ha H0 B _ σ γ _ X _ env0 h (λy v H1 h1 S1 t1=>?_) λc H' hc S'=>qx c H' hc (S0.trans S');have env1:=env0.grow S1;refine hb H0 B H1 σ γ _ X _ env1 h1 (λx w H2 h2 S2 t2=>?_) λc H' hc S'=>qx c H' hc ((S0.trans S1).trans S');obtain⟨ks,u,k1,k2,k3⟩:=h2;have eu:=BY (t2.rp (env1.grow S2).same) k2;obtain⟨b',rfl,hb'⟩:=BA (Rp.mono S2<|t1.rp env1.same) k1;subst eu;refine⟨S2 _ _ (S1 _ _ X4),b',ks,rfl,hb',q _ _ _ k3 (λc o hc=>?_) ⟨p,rfl,(λ_ e=>e▸np),X4⟩⟩
 have:c≠p:=λe=>by subst e;rw[np]at hc;cases hc
 rw[Xr this];exact S2 _ _ (S1 _ _<|S0 _ _ hc)
end
section
variable {X:Cx}{K:Yj}
def AI{tg l tl}(hl:PE X l tl)(hK:autoParam (X.K=K) au_0):PI X tg l (DK K tl):=by subst hK;exact Zj6 hl
end
end Pu
namespace M
open L2 Own Pu
noncomputable def tD(ms:Yl):D:=.tup (ms.map D.int)
noncomputable def kT(ms:Yl):List Key:=ms.map Sum.inl
def Zef(ms:Yl):arg (tD ms)=.sh (tD ms):=by
 unfold arg tD imm;rw[FS]
def DL:PD N (tD ms::ds)=some (.sh<|tD ms)::(ds.map (λd=>some (arg d))++List.replicate (N.length-(ds.length+1)) none):=by
 unfold PD;rw[Qn,Zef];rfl
def MQ(ms:Yl):NP (tD ms)=some (kT ms):=by
 show Si (ms.map D.int)=some (ms.map Sum.inl)
 induction ms with
 |nil=>rfl
 |cons m r ih=>
  rw[Qn,Qn];unfold Si;rw[ih];rfl
def Zm4(ms:Yl):Sf (some<|tD ms)=some (ms.map D.int):=rfl
noncomputable def XZ(ms:Yl)(h:Int):Yl:=ms.filter λm=>decide (m≠h)
noncomputable def T8(ws:Yk)(ms:Yl)(h:Int):Bool:=!(ws.any λq=>decide (q.1=h)&&decide (q.2∈ms))
noncomputable def XG(hs:Yl):List (Yl):=hs.foldl (λS h=>S++S.map (·++[h])) [[]]
def Ny(hs:Yl)(h:Int):XG (hs++[h])=XG hs++(XG hs).map (·++[h]):=by
 unfold XG;simp
def Sh{P:Yl->Prop}(h0:P [])(h1:∀r h,P r->P (r++[h]))(l:Yl):P l:=by
 have key:∀r:Yl,P r.reverse:=λr=>by
  induction r with
  |_=>grind
 rw[←List.reverse_reverse l]
 grind
def HN(hs:Yl):(XG hs).length=2 ^ hs.length:=by
 refine Sh (P:=λhs=>(XG hs).length=2 ^ hs.length) rfl (λr h ih=>?_) hs;rw[Ny,WR,WG,ih,WR,Vt,Nat.pow_succ];omega
def Fh(hs:Yl):∀ms∈XG hs,ms.Sublist hs:=by
 refine Sh (P:=λhs=>∀ms∈XG hs,ms.Sublist hs) (λms h=>?_) (λr h ih ms hm=>?_) hs
 ·have:ms=[]:=by simpa [XG]using h
  grind
 ·rw[Ny,WV]at hm;rcases hm with hm|hm
  ·grind
  ·grind
noncomputable def oc(c:Int->Int->Int):Yl->Int
 |[]=>0
 |a::r=>(r.map<|c a).sum+oc c r
def Keeps(ws:Yk)(o:Yl):Prop:=o.Pairwise λa b=>(b,a)∉ws
structure KZ (ws:Yk) (c:Int->Int->Int) (ms:Yl) (v:Int):Prop where
 is:∃o:Yl,o.Perm ms/\Keeps ws o/\oc c o=v
 le:∀o:Yl,o.Perm ms->Keeps ws o->v<=oc c o
def KZ.uniq (h:KZ ws c ms v) (k:KZ ws c ms u):v=u:=by
 obtain⟨o,o1,o2,o3⟩:=h.is;obtain⟨p,p1,p2,p3⟩:=k.is
 have:=h.le p p1 p2
 have:=k.le o o1 o2
 omega
theorem AQ(c:Int->Int->Int)(l:Int):∀o,oc c (o++[l])=oc c o+(o.map (c · l)).sum
 |[]=>by simp[oc]
 |a::r=>by
  rw[Vn];unfold oc;rw[AQ c l r]
  grind
def ER{f:Int->Int}{xs ys:Yl}(h:xs.Perm ys):(xs.map f).sum=(ys.map f).sum:=by
 induction h with
 |nil=>rfl
 |trans _ _ i1 i2=>omega
 |_=>grind
def E5{ms:Yl}{h}(nd:ms.Nodup)(hm:h∈ms):ms.Perm (h::XZ ms h):=by
 have e:XZ ms h=ms.erase h:=by
  unfold XZ;rw[nd.erase_eq_filter]
  grind
 grind
def less_sub:(XZ ms h).Sublist ms:=List.filter_sublist
def lastM_iff:T8 ws ms h=true↔∀b∈ms,(h,b)∉ws:=by
 unfold T8;constructor
 ·grind
 ·grind
def Zk3{ms}{vs:Int->Int}{M}(nd:ms.Nodup)(hw:∀q∈ws,q.1≠q.2)(hv:∀l∈ms,KZ ws c (XZ ms l) (vs l))(h1:∃l∈ms,T8 ws ms l=true/\M=vs l+((XZ ms l).map (c · l)).sum)(h2:∀l∈ms,T8 ws ms l=true->M<=vs l+((XZ ms l).map (c · l)).sum):KZ ws c ms M:=by
 constructor
 ·obtain⟨l,hl,hlast,e⟩:=h1;obtain⟨o,o1,o2,o3⟩:=(hv l hl).is;refine⟨o++[l],?_,?_,?_⟩
  ·exact(List.perm_append_singleton l o).trans (((List.Perm.cons l o1)).trans (E5 nd hl).symm)
  ·refine V0.mpr ⟨o2,List.pairwise_singleton _ _,λa ha b hb=>?_⟩;rw[WJ.mp hb];exact lastM_iff.mp hlast a (less_sub.subset<|o1.mem_iff.mp ha)
  ·rw[AQ,o3,e,ER o1]
 ·intro o o1 o2;rcases QX o with rfl|⟨p,l,rfl⟩
  ·grind
  ·rw[Vu]at o1 o2 ⊢;have hl:l∈ms:=o1.mem_iff.mp (by simp);obtain⟨k1,_,k2⟩:=V0.mp o2
   have pp:p.Perm (XZ ms l):=by
    have:=((List.perm_append_singleton l p).symm.trans o1).trans (E5 nd hl)
    exact this.cons_inv
   have hlast:=lastM_iff.mpr λb hb=>by
    rcases Qa.mp ((E5 nd hl).mem_iff.mp hb)with e|hb'
    ·subst e;exact λz=>hw _ z rfl
    ·exact k2 b (pp.mem_iff.mpr hb') l (WJ.mpr rfl)
   have a1:=h2 l hl hlast;have a2:=(hv l hl).le p pp k1;rw[AQ,ER pp];omega
def Gk(a b:Yl)(l:Int):XZ (a++b) l=XZ a l++XZ b l:=JO ..
def Ou(h:l∉a):XZ a l=a:=List.filter_eq_self.mpr λm hm=>WI λe=>h (e▸hm)
def Zmo(hs:Yl):∃T,XG hs=[]::T:=by
 refine Sh (P:=λhs=>∃T,XG hs=[]::T) ⟨[],rfl⟩ (λr h ⟨T,e⟩=>?_) hs;rw[Ny,e]
 grind
def Zb8(hs:Yl):(XG hs).getLast?=some hs:=by
 refine Sh (P:=λhs=>(XG hs).getLast?=some hs) rfl (λr h e=>?_) hs;rw[Ny,List.getLast?_append,List.getLast?_map,e];rfl
def Oi:hs.Nodup->(XG hs).Nodup:=by
 refine Sh (P:=λhs=>hs.Nodup->(XG hs).Nodup) (λ_=>by simp[XG]) (λr h ih nd=>?_) hs;obtain⟨n1,_,n2⟩:=Q7.mp nd;rw[Ny];refine Q7.mpr ⟨ih n1,?_,λa ha b hb e=>?_⟩
 ·exact List.Pairwise.map _ (λa b hne e=>hne (List.append_cancel_right e)) (ih n1)
 ·obtain⟨c,hc,rfl⟩:=Qp.mp hb;subst e;exact n2 h ((Fh r _ ha).subset (by simp)) h (by simp) rfl
def Zit:hs.Nodup->∀k ms,(XG hs)[k]?=some ms->∀l∈ms,∃j:Nat,j<k/\(XG hs)[j]?=some (XZ ms l):=by
 refine Sh (P:=λhs=>hs.Nodup->∀k ms,(XG hs)[k]?=some ms->∀l∈ms,∃j,j<k/\(XG hs)[j]?=some (XZ ms l)) (λ_ k ms e l hl=>?_) (λr h ih nd k ms e l hl=>?_) hs
 ·have:ms=[]:=by
   have:=Qg e
   simpa [XG]using this
  subst this;cases hl
 ·obtain⟨n1,_,n2⟩:=Q7.mp nd;rw[Ny]at e ⊢;by_cases hk:k<(XG r).length
  ·rw[Qs hk]at e;obtain⟨j,hj,ej⟩:=ih n1 k ms e l hl;exact⟨j,hj,by rw[Qs (by omega)];exact ej⟩
  ·rw[Q1 (by omega),WS]at e;cases q:(XG r)[k-(XG r).length]? with
   |none=>rw[q]at e;cases e
   |some n=>
    rw[q]at e;cases e
    have hh:=λz=>n2 h ((Fh r n<|Qg q).subset z) h (by simp) rfl;by_cases el:l=h
    ·subst el
     have e1:XZ (n++[l]) l=n:=by
      rw[Gk,Ou hh];simp[XZ]
     obtain⟨j,hj,ej⟩:=Qt.mp (Qg q);refine⟨j,by omega,?_⟩;rw[Qs hj,e1,WH hj,ej]
    ·have hln:l∈n:=by
      rcases WV.mp hl with z|z
      ·exact z
      ·exact absurd (WJ.mp z) el
     have e1:XZ (n++[h]) l=XZ n l++[h]:=by
      rw[Gk];congr 1;exact Ou λz=>el (WJ.mp z)
     obtain⟨j,hj,ej⟩:=ih n1 _ n q l hln;refine⟨(XG r).length+j,by omega,?_⟩;rw[Q1 (by omega),WS,Nat.add_sub_cancel_left,ej,e1];rfl
def Fi(h:kT a=kT b):a=b:=List.map_inj_right (λ_ _=>Sum.inl.inj) |>.mp h
def Ha(hs:Yl)(ws:Yk):Prop:=∀ms:Yl,ms.Sublist hs->ms≠[]->∃l∈ms,∀b∈ms,(l,b)∉ws
structure Tab (ws:Yk) (c:Int->Int->Int) (S:List (Yl)) (kvs:List (List Key×V)):Prop where
 keys:kvs.map (·.1)=S.map kT
 val:∀ms∈S,∃v,X0 kvs (kT ms)=some (.int v)/\KZ ws c ms v
def Zlo(ws:Yk)(c:Int->Int->Int):Tab ws c [[]] [([],.int 0)]:=by
 refine⟨rfl,λms hm=>?_⟩;rw[WJ.mp hm];refine⟨0,rfl,⟨[],.refl _,.nil,rfl⟩,λo ho _=>?_⟩;rw[ho.eq_nil];exact Int.le_refl _
def Tab.put {S kvs ms v} (T:Tab ws c S kvs) (hn:ms∉S) (L:KZ ws c ms v):Tab ws c (S++[ms]) (putK kvs (kT ms)<|.int v):=by
 have no:X0 kvs (kT ms)=none:=by
  cases e:X0 kvs (kT ms)with
  |none=>rfl
  |some u=>
   unfold X0 at e;cases q:kvs.find? (λkv=>decide (kv.1=kT ms))with
   |none=>rw[q]at e;cases e
   |some x=>
    have h2:=List.find?_some q;have h3:x.1∈kvs.map (·.1):=Qp.mpr ⟨x,(List.mem_of_find?_eq_some q),rfl⟩;rw[T.keys,WK h2]at h3;obtain⟨n,hn',e'⟩:=Qp.mp h3;rw[Fi e']at hn';exact absurd hn' hn
 constructor
 ·rw[Zd4 _ no,Qc,Qc,T.keys];rfl
 ·intro n hn';rw[Fu];by_cases e:n=ms
  ·grind
  ·rw[WN λz=>e (Fi z)];rcases WV.mp hn' with z|z
   ·exact T.val n z
   ·exact absurd (WJ.mp z) e
open Classical in
def Zgj{ms:Yl}{P:Int->Int->Prop}(h:∀l∈ms,∃v,P l v):∃f:Int->Int,∀l∈ms,P l (f l):=
 ⟨λl=>if hl:l∈ms then Classical.choose (h l hl)else 0,λl hl=>by
  simp only[dif_pos hl];exact Classical.choose_spec (h l hl)⟩
def Zpd{r}(R:Ring ls (ws.map λq=>(q.2,q.1)) r):Ring ls ws r.reverse:=by
 have sw:∀{x y:Int},(x,y)∈(ws.map λq=>(q.2,q.1))->(y,x)∈ws:=λh=>by
  obtain⟨q,hq,e⟩:=Qp.mp h;cases e
  exact hq
 refine⟨by rw[JF];exact R.two,List.pairwise_reverse.mpr (R.nodup.imp λh=>Ne.symm h),λx hx=>R.sub x (List.mem_reverse.mp hx),λi x y h1 h2=>?_,λx y h1 h2=>?_⟩
 ·have hi:i+1<r.length:=by
   have:=(WZ.mp h2).1
   rw[JF]at this;exact this
  rw[Jz (by omega)]at h1 h2;exact sw (R.chain (r.length-1-(i+1)) y x h2<|by rw[←h1];congr 1;omega)
 ·have two:=R.two;rw[Jz (by omega)]at h1;rw[JF,Jz (by omega)]at h2;exact sw (R.last y x (by rw[←h2];congr 1;omega)<|by rw[←h1];congr 1)
def Zkr{ws}(hu:∀q∈ws,q.1≠q.2)(h:¬ ∃r,Ring hs ws r):Ha hs ws:=λms hm hne=>by
 refine Qj λz=>h ?_
 have h1:∀x∈ms,∃y∈ms,(y,x)∈(ws.map λq=>(q.2,q.1)):=λx hx=>by
  grind
 obtain⟨r,R⟩:=Of (λq hq=>by
  obtain⟨p,hp,e⟩:=Qp.mp hq;subst e;exact λe=>hu p hp e.symm) hne h1
 have F:=Zpd R;exact⟨_,F.two,F.nodup,λx hx=>hm.subset (F.sub x hx),F.chain,F.last⟩
theorem HY:∀{kvs:List (List Key×V)},(kvs.map (·.1)).Nodup->∀p∈kvs,X0 kvs p.1=some p.2
 |[],_,p,h=>by cases h
 |q::r,nd,p,h=>by
  rw[Qn,Q3]at nd;rcases Qa.mp h with e|h
  ·rw[e];exact PJ rfl
  ·rw[P7 λe=>nd.1 (Qp.mpr ⟨p,h,e.symm⟩)];exact HY nd.2 p h
def Hf(ws:Yk)(c:Int->Int->Int)(S:List (Yl))(vs:Yl):Prop:=vs.length=S.length/\∀(i:Nat) (ms:Yl) (v:Int),S[i]?=some ms->vs[i]?=some v->KZ ws c ms v
def Tab.vals {S kvs} (T:Tab ws c S kvs) (nd:S.Nodup):∃vs,kvs.map (·.2)=vs.map V.int/\Hf ws c S vs:=by
 have nk:(kvs.map (·.1)).Nodup:=by
  rw[T.keys];exact List.Pairwise.map _ (λa b hne e=>hne (Fi e)) nd
 have hk:∀p∈kvs,∃ms∈S,p.1=kT ms/\∃v,p.2=.int v/\KZ ws c ms v:=λp hp=>by
  have h1:p.1∈kvs.map (·.1):=Qp.mpr ⟨p,hp,rfl⟩;rw[T.keys]at h1;obtain⟨ms,hm,e⟩:=Qp.mp h1;obtain⟨v,h2,h3⟩:=T.val ms hm;rw[e,HY nk p hp]at h2;exact⟨ms,hm,e.symm,v,WW h2,h3⟩
 have hl:kvs.length=S.length:=by
  have:=Q2 List.length T.keys
  rw[WG,WG]at this;exact this
 refine⟨kvs.map λp=>match p.2 with | .int v=>v|_=>0,?_,by rw[WG,hl],λi ms v h1 h2=>?_⟩
 ·rw[QA];refine VW λp hp=>?_;obtain⟨ms,_,_,v,e,_⟩:=hk p hp;show p.2=V.int (match p.2 with | .int v=>v|_=>0)
  rw[e]
 ·rw[WS]at h2;cases q:kvs[i]? with
  |none=>rw[q]at h2;cases h2
  |some p=>
   obtain⟨ms',hm',e1,u,e2,L⟩:=hk p (Qg q);have h3:(kvs.map (·.1))[i]?=some p.1:=by rw[WS,q];rfl
   rw[T.keys,WS,h1]at h3;have e3:=Fi ((WW h3).trans e1);simp_all
theorem IL:∀{kvs}{vs:Yl},kvs.map (·.2)=vs.map V.int->NZ kvs=true/\kvs.map (λp=>vD p.2)=vs.map D.int
 |[],[],_=>⟨rfl,rfl⟩
 |p::r,v::vs,h=>by
  rw[Qn,Qn,JA]at h;obtain⟨h1,h2⟩:=IL h.2;unfold NZ;rw[h1,Qn,Qn,h2,h.1];trivial
structure Bu (ws:Yk) (c:Int->Int->Int) (ms o:Yl):Prop where
 perm:o.Perm ms
 keeps:Keeps ws o
 le:∀p:Yl,p.Perm ms->Keeps ws p->oc c o<=oc c p
 first:∀p:Yl,p.Perm ms->Keeps ws p->oc c p=oc c o->o=p\/sl o p
end M
namespace Pu
open L2 Own
section
variable {K:Yj}{mg:Yn}{E:L2.St->XK}{H0 H H1 H':Hp}{B Z Z':Addr->Prop}{σ:L2.St}{γ:Γ}
def O.from:O->O->Prop
 | .ins x _ _ cs,.ins x' _ _ cs'=>x'=x/\∀c∈cs,∃c'∈cs',c'.1=c.1
 | .lsA x _,.lsA x' _=>x'=x
 |_,_=>False
def O.from_adr {o o':O}{a} (h:o.from o'):∀b,o.adr a b->o'.adr a b:=by
 unfold O.from at h
 split at h
 ·intro b hb;rcases hb with hb|⟨c,hc,hb⟩
  ·exact .inl (hb.trans h.1.symm)
  ·obtain⟨c',q1,q2⟩:=h.2 c hc;exact .inr ⟨c',q1,hb.trans q2.symm⟩
 ·intro b hb;exact hb.trans h.symm
 ·grind
def O.from_at {a a'}{F F' H H'} (h:o.from o') (h1:OR K F H a o) (h2:OR K F' H' a' o'):a'=a:=by
 unfold O.from at h
 split at h
 ·exact h2.1.trans (h.1.trans h1.1.symm)
 ·exact h2.1.trans (h.trans h1.1.symm)
 ·grind
abbrev Pw:=O->List S->(O->D->Prop)->(O->Str->Prop)->Prop
noncomputable def S.pass:S->Option S
 | .sh d=>some (.sh d) | .own o=>some (.sh o.d)
 | .bor d=>match imm d with|true=>some (.sh d)|false=>some (.bor d)
 | .tmp d=>match imm d with|true=>some (.sh d)|false=>none
 | .view _=>none
def S.flat:S->Prop
 | .sh _=>True | .bor _=>True|_=>False
noncomputable def passes:List S->Option (List S)
 |[]=>some []
 |s::r=>match s.pass,passes r with|some s',some r'=>some (s'::r')|_,_=>none
structure After (K:Yj) (B:Addr->Prop) (H:Hp) (a:Addr) (o o':O) (H':Hp):Prop where
 same:Same (off (o.adr a) H) H'
 old:∀b,o.adr a b->o'.adr a b
 new:∀b,o'.adr a b->o.adr a b\/H b=none
 at_:OR K (off (λb=>B b\/o'.adr a b) H') H' a o'
noncomputable def spW(mg:Yn)(c:Pw)(K:Yj):Sp:=λvs H Q E=>∃(o:O) (a:Addr) (ss:List S) (us:List V) (B:Addr->Prop) (R:O->D->Prop) (X:O->Str->Prop),
 vs=.ref a::us/\(∀b,B b->Mut (H b)/\¬o.adr a b)/\OR K (off (λb=>B b\/o.adr a b) H) H a o/\TVs K (λb=>B b\/o.adr a b) (off (o.adr a) H) H H ss us/\(∀s∈ss,s.flat)/\c o ss R X/\
 (∀o' d v H',R o' d->After K B H a o o' H'->Rp K (off (λb=>B b\/o'.adr a b) H') d v->Q v H')/\∀o' e H',X o' e->After K B H a o o' H'->XE mg E e H'
def TVs.get:∀{ss vs}{i:Nat}{s:S},TVs K Z H0 H H' ss vs->ss[i]?=some s->∃v,vs[i]?=some v/\TV K Z H0 H H' s v:=by
 intro ds
 induction ds with
 |nil=>
  intro _ i _ h e;simp at e
 |cons _ _ ih=>
  intro _ i d h e;cases h with
  |cons h r=>
   cases i with
   |zero=>
    simp at e;subst e;exact⟨_,rfl,h⟩
   |succ i=>
    obtain⟨v,h1,h2⟩:=ih r (by simpa using e);exact⟨v,by simpa using h1,h2⟩
noncomputable def TH(N:Ys)(o:O)(ss:List S):Γ:=some (.own o)::(ss.map some++List.replicate (N.length-(ss.length+1)) none)
def Zl9{o a ss us}(hB:∀b,B b->Mut (H b)/\¬o.adr a b)(ho:OR K (off (λb=>B b\/o.adr a b) H) H a o)(r:TVs K (λb=>B b\/o.adr a b) (off (o.adr a) H) H H ss us)(hf:∀s∈ss,s.flat)(hn:ss.length+1<=N.length) :
  Xo K (off (o.adr a) H) B H (start N (.ref a::us)) (TH N o ss):=by
 have get:∀i s,(TH N o ss)[i+1]?=some (some s)->ss[i]?=some s:=λi s h=>by
  unfold TH at h;rw[QI]at h;by_cases hi:i<ss.length
  ·rw[Qs (by rw[WG];exact hi),WS,WH hi]at h;rw[WH hi];exact Q2 some (WW<|WW h)
  ·rw[Q1 (by rw[WG];omega),VA]at h;split at h<;>cases h
 have noown:∀i es,(TH N o ss)[i+1]?≠some (some<|.own es):=λi es h=>hf _ (Qg<|get i _ h)
 have st0:(start N (V.ref a::us))[0]?=some (some<|.ref a):=by
  unfold L2.start;rfl
 have hz:∀b,zof B (TH N o ss) (start N (V.ref a::us)) b->B b\/o.adr a b:=λb z=>by
  rcases z with z|⟨i,es,a',h1,h2,h3⟩
  ·exact .inl z
  ·cases i with
   |zero=>
    cases h2
    have:o=es:=by
     cases h1
     rfl
    subst this;exact .inr h3
   |succ i=>exact absurd h1 (noown i es)
 refine⟨off_sub,?_,λb h=>(hB b h).1,λi j x x' es es' b h1 h2 _ _ _ _=>?_,λi s h=>?_⟩
 ·unfold L2.start TH;simp[r.len]
 ·cases i with
  |succ i=>exact absurd h1 (noown i es)
  |zero=>
   cases j with
   |zero=>rfl
   |succ j=>exact absurd h2 (noown j es')
 ·cases i with
  |zero=>
   have h:=h;cases h
   refine⟨_,st0,a,rfl,λb hb=>?_,ho.mono (Xx (Same.refl _) λb _ _ z y=>z (hz b y)) λ_ _ _ q=>q⟩;unfold off;rw[WO hb]
  |succ i=>
   have hs:=get i s h;obtain⟨v,hv,tv⟩:=r.get hs;refine⟨v,?_,?_⟩
   ·unfold L2.start;rw[Qs (by rw[WG,Qi];have:=(WZ.mp hv).1;omega),WS,QI,hv];rfl
   ·have:=hf s (Qg hs)
    cases s with
    |bor d=>exact tv
    |sh d=>exact Rp.mono (Xx (Same.refl _) λb _ _ z y=>z (hz b y)) tv
    |_=>exact this.elim
def GY(o:O)(R:O->D->Prop)(γ:Γ)(d:D):Prop:=∃o',γ[0]?=some (some<|.own o')/\o.from o'/\R o' d
def Zab(o:O)(X:O->Str->Prop)(γ:Γ)(e:Str):Prop:=∃o',γ[0]?=some (some<|.own o')/\o.from o'/\X o' e
noncomputable def MU(o:O)(R:O->D->Prop)(X:O->Str->Prop):PP:={nx:=λγ=>GY o R γ .non,rt:=λ_=>False,ex:=Zab o X,rv:=GY o R}
def AJ{σ'}{γ'}(ho:OR K (off (λb=>B b\/o.adr a b) H) H a o)(e:Xo K (off (o.adr a) H) B H' σ' γ')(h:γ'[0]?=some (some<|.own o'))(k:o.from o'):After K B H a o o' H'/\∀b,B b\/o'.adr a b->zof B γ' σ' b:=by
 obtain⟨v,h1,a',rfl,h2,h3⟩:=e.slot 0 _ h;have ea:=O.from_at k ho h3;subst ea;have hz:∀b,B b\/o'.adr a' b->zof B γ' σ' b:=λb z=>z.imp id λz=>⟨0,o',a',h,h1,z⟩;refine⟨⟨e.same,O.from_adr k,λb hb=>?_,h3.mono (Xx (Same.refl _) λb _ _ z y=>z (hz b y)) λ_ _ _ q=>q⟩,hz⟩
 have:=h2 b hb
 unfold off at this;by_cases q:o.adr a' b
 ·exact .inl q
 ·grind
def Zob{t p vs Q Ec n}(h:spW mg c K vs H Q Ec)(snd:Xy K mg (λ_=>Ec) t p)(hn:n+1<=N.length)(hp:∀o ss R X,c o ss R X->ss.length=n/\p (MU o R X) (TH N o ss)):t {nx:=λ_ H'=>Q .non H',rt:=Q} (start N vs) H:=by
 obtain⟨o,a,ss,us,B,R,X,rfl,hB,ho,r,hf,hc,hQ,hX⟩:=h;obtain⟨e,hp⟩:=hp o ss R X hc;refine snd _ B H _ _ _ _ (λb z=>?_) (Zl9 hB ho r hf<|by rw[e];exact hn) hp ⟨λσ' γ' H' h1 e1 f1=>?_,λ_ _ _ z=>z.elim,λσ' γ' c H' h1 e1 f1=>?_,λ_ _ _ z=>z.elim,λ_ _ _ z=>z.elim,λσ' γ' d v H' h1 e1 f1 rd=>?_⟩
 ·obtain⟨q1,q2⟩:=hB b z;obtain⟨x,hx⟩:=Tt q1;exact⟨x,XS hx q2⟩
 ·obtain⟨o',q1,q2,q3⟩:=h1;exact hQ o' .non .non H' q3 (AJ ho e1 q1 q2).1 .non
 ·obtain⟨o',q1,q2,q3⟩:=h1;exact hX o' c H' q3 (AJ ho e1 q1 q2).1
 ·obtain⟨o',q1,q2,q3⟩:=h1;obtain⟨k1,k2⟩:=AJ ho e1 q1 q2;exact hQ o' d v H' q3 k1 (Rp.mono (Xx (Same.refl _) λb _ _ z y=>z (k2 b y)) rd)
def Zk0(h:spW mg c K vs H Q Ec)(hn:∀o ss R X,c o ss R X->ss.length=n):vs.length=n+1:=by
 obtain⟨o,a,ss,us,B,R,X,rfl,_,_,r,_,hc,_⟩:=h;rw[Qi,r.len,hn o ss R X hc]
abbrev PTW:=Γ->(Γ->D->Prop)->(Γ->Str->Prop)->Prop
def PK(K:Yj)(mg:Yn)(E:L2.St->XK)(t:TE)(p:PTW):Prop:=∀(H0:Hp) (B:Addr->Prop) (H:Hp) (σ:L2.St) (γ:Γ) (R:Γ->D->Prop) (X:Γ->Str->Prop) (Q:VK),(∀b,B b->∃o,H0 b=some o)->Xo K H0 B H σ γ->p γ R X->
 (∀γ' d v H',R γ' d->Xo K H0 B H' σ γ'->Fr B H σ γ H' σ γ'->Rp K (off (zof B γ' σ) H') d v->Q v H')->(∀γ' c H',X γ' c->Xo K H0 B H' σ γ'->Fr B H σ γ H' σ γ'->XE mg (E σ) c H')->t σ H Q
variable {te:TE}{w:PTW}
noncomputable def Zmf(w:PTW)(g:PTG):PTS:=λR γ=>w γ (λγ' d=>g (.sh d) γ' R.nx) R.ex
def Zk4(hw:PK K mg E te w)(hg:Ng K is g pg):Xy K mg E (N2 te g) (Zmf w pg):=by
 intro H0 B H σ γ R D hB env h e;refine hw H0 B H σ γ _ _ _ hB env h (λγ' d v H1 h1 e1 f1 rd=>?_) λγ' c H' hc e' f'=>e.ex σ γ' c H' hc e' f';exact hg H0 B H1 H1 σ γ' (.sh d) v _ _ e1 (Same.refl _) rd h1 λσ2 γ2 h2 e2 f2 _=>e.nx σ2 γ2 H1 h2 e2 (f1.trans f2)
noncomputable def Zl6(w:PTW):PTS:=λR γ=>w γ (λγ' _=>R.nx γ') R.ex
def N8(hw:PK K mg E te w):Xy K mg E (Be te) (Zl6 w):=by
 intro H0 B H σ γ R D hB env h e;exact hw H0 B H σ γ _ _ _ hB env h (λγ' d v H1 h1 e1 f1 _=>e.nx σ γ' H1 h1 e1 f1) λγ' c H' hc e' f'=>e.ex σ γ' c H' hc e' f'
noncomputable def Zgt(w:PTW):PTS:=λR γ=>w γ R.rv R.ex
def PR(hw:PK K mg E te w):Xy K mg E (Sd te) (Zgt w):=by
 intro H0 B H σ γ R D hB env h e;exact hw H0 B H σ γ _ _ _ hB env h (λγ' d v H1 h1 e1 f1 rd=>e.rv σ γ' d v H1 h1 e1 f1 rd) λγ' c H' hc e' f'=>e.ex σ γ' c H' hc e' f'
noncomputable def Zhj(a:PTE):PTS:=λR γ=>a γ (λs=>match s.shd with|some d=>R.rv γ d|none=>False) (R.ex γ)
def BR(ha:Xj K mg E te a):Xy K mg E (Sd te) (Zhj a):=by
 intro H0 B H σ γ R D hB env h e;refine ha H0 B H σ γ _ _ _ env h (λs v H1 h1 S1 t1=>?_) λc H' hc S'=>e.ex σ γ c H' hc (env.grow S') (Fr.grow S');split at h1
 ·rename_i d ed;exact e.rv σ γ d v H1 h1 (env.grow S1) (Fr.grow S1) (t1.shd (env.grow S1).same env.zm S1 ed)
 ·grind
def Zju{s s':S}(h:s.pass=some s'):s'.flat:=by
 cases s with
 |bor d=>unfold S.pass at h;cases q:imm d<;>simp[q]at h<;>subst h<;>trivial
 |tmp d=>
  unfold S.pass at h;cases q:imm d<;>simp[q]at h
  subst h;trivial
 |view o=>cases h
 |_=>cases h;trivial
theorem Bk:∀{ss ss':List S},passes ss=some ss'->∀s∈ss',s.flat
 |[],_,h=>by cases h;simp
 |s::r,_,h=>by
  unfold passes at h;split at h
  ·rename_i s1 r1 e1 e2;cases h
   intro x hx;rcases Qa.mp hx with rfl|hx
   ·exact Zju e1
   ·exact Bk e2 x hx
  ·grind
def TV.pass {v P W HB} (h0:Same H0 H') (hm:∀b,Z b->Mut (H b)) (S1:Same H H') (hb:Same H0 (off P HB)) (hs:Same (off Z H') (off W HB)) (h:TV K Z H0 H H' s v) (e:s.pass=some s'):TV K W (off P HB) HB HB s' v:=by
 have shd:∀d,s.shd=some d->Rp K (off W HB) d v:=λd ed=>Rp.mono hs (h.shd h0 hm S1 ed);cases s with
 |view o=>cases e
 |tmp d=>
  unfold S.pass at e;cases q:imm d with
  |false=>simp_all
  |true=>simp[q]at e;subst e;exact shd d (by unfold S.shd;simp[q])
 |bor d=>
  unfold S.pass at e;cases q:imm d with
  |false=>simp[q]at e;subst e;exact Rp.mono hb h
  |true=>simp[q]at e;subst e;exact shd d (by unfold S.shd;simp[q])
 |_=>cases e;exact shd _ rfl
theorem TVs.pass {HB} (h0:Same H0 H') (hm:∀b,Z b->Mut (H b)) (S1:Same H H') (hb:Same H0 (off P HB)) (hs:Same (off Z H') (off W HB)):∀{ss ss'}{vs:List V},TVs K Z H0 H H' ss vs->passes ss=some ss'->TVs K W (off P HB) HB HB ss' vs
 |_,_,_,.nil,e=>by cases e;exact .nil
 |_,_,_,.cons h r,e=>by
  unfold passes at e;split at e
  ·rename_i s1 r1 e1 e2;cases e
   exact .cons (h.pass h0 hm S1 hb hs e1) (TVs.pass h0 hm S1 hb hs r e2)
  ·grind
def Ap{c:Pw}{i:Nat}{o:O}{a:Addr}{ss ss':List S}{us:List V}{R:Γ->D->Prop}{X:Γ->Str->Prop}{Q:VK}{Ec:XK}(env:Xo K H0 B H σ γ)(hB:∀b,B b->∃o,H0 b=some o)(S1:Same H H1)(hi:γ[i]?=some (some<|.own o))(ha:σ[i]?=some (some<|.ref a))(t1:TVs K (zof B γ σ) H0 H H1 ss us)(hp:passes ss=some ss')(hc:c o ss' (λo' d=>R (γ.set i<|some<|.own o') d) (λo' e=>X (γ.set i<|some<|.own o') e))(q:∀γ' d v H',R γ' d->Xo K H0 B H' σ γ'->Fr B H σ γ H' σ γ'->Rp K (off (zof B γ' σ) H') d v->Q v H')(qx:∀γ' c H',X γ' c->Xo K H0 B H' σ γ'->Fr B H σ γ H' σ γ'->XE mg Ec c H'):spW mg c K (.ref a::us) H1 Q Ec:=by
 have env1:=env.grow S1;obtain⟨v,h1,a',ev,h3,h4⟩:=env1.slot i _ hi;rw[ha]at h1;cases h1
 cases ev
 have za:∀b,o.adr a b->zof B γ σ b:=λb hb=>.inr ⟨i,o,a,hi,ha,hb⟩
 have aft:∀o' H',After K (λb=>zof B γ σ b/\¬o.adr a b) H1 a o o' H'->Xo K H0 B H' σ (γ.set i<|some<|.own o')/\Fr B H σ γ H' σ (γ.set i<|some<|.own o')/\∀b x,H' b=some x->¬((zof B γ σ b/\¬o.adr a b)\/o'.adr a b)->¬zof B (γ.set i<|some<|.own o') σ b:=λo' H' A=>by
  have hzz:∀b x,H' b=some x->¬((zof B γ σ b/\¬o.adr a b)\/o'.adr a b)->¬zof B (γ.set i<|some<|.own o') σ b:=λb x _ n z=>by
   rcases z with z|⟨j,fs,a',e1,e2,e3⟩
   ·refine n (.inl ⟨.inl z,λw=>?_⟩);obtain⟨u,hu⟩:=hB b z;rw[h3 b w]at hu;cases hu
   ·rcases XW e1 with⟨ej,q,_⟩|⟨nj,q⟩
    ·subst ej;cases q
     rw[ha]at e2;cases e2
     exact n (.inr e3)
    ·exact n (.inl ⟨.inr ⟨j,fs,a',q,e2,e3⟩,λw=>nj (env.own j i a' a fs o b q hi e2 ha e3 w)⟩)
  obtain⟨k1,k2⟩:=env1.change (o':=o') (H':=H') hi ha (λb x hx n=>A.same b x (XS hx n)) (λb hb=>A.at_.mut b (A.old b hb)) A.new (A.at_.mono (Xx (Same.refl _) λb x hx z=>hzz b x hx z) λ_ _ _ q=>q);exact⟨k1,(Fr.grow S1).trans k2,hzz⟩
 refine⟨o,a,ss',us,λb=>zof B γ σ b/\¬o.adr a b,_,_,rfl,λb hb=>⟨env1.zm b hb.1,hb.2⟩,h4.mono (Xx (Same.refl _) λb _ _ z y=>z (y.elim (λy=>y.1)<|za b)) λ_ _ _ q=>q,?_,Bk hp,hc,λo' d v H' hR A rd=>?_,λo' e H' hX A=>?_⟩
 ·refine t1.pass env1.same env.zm S1 (λb x hx=>XS (env1.same b x hx) λw=>?_) (Xx (Same.refl _) λb _ _ z y=>z (y.elim (λy=>y.1)<|za b)) hp;rw[h3 b w]at hx;cases hx
 ·obtain⟨k1,k2,k3⟩:=aft o' H' A;exact q _ d v H' hR k1 k2 (Rp.mono (λb x h=>let ⟨p1,p2⟩:=P9 h;XS p1 (k3 b x p1 p2)) rd)
 ·obtain⟨k1,k2,_⟩:=aft o' H' A;exact qx _ e H' hX k1 k2
noncomputable def Zp0(i:Nat)(c:Pw)(r:PTA):PTW:=λγ R X=>match γ[i]? with
 |some (some<|.own o)=>r γ (λss=>match passes ss with|some ss'=>c o ss' (λo' d=>R (γ.set i<|some<|.own o') d) (λo' e=>X (γ.set i<|some<|.own o') e)|none=>False) (X γ)
 |_=>False
noncomputable def Ol(i:Nat)(c:Pw)(r:PTA):PTW:=λγ R X=>match γ[i]? with
 |some (some<|.own o)=>r γ (λss=>match passes ss with|some ss'=>c o ss' (λo' d=>R (γ.set i<|some<|.own o') d) (λ_ _=>False)|none=>False) (X γ)
 |_=>False
def Zf7(i:Nat){c ta r}(hr:X6 K mg E ta r):PK K mg E (TK (spW mg c K) [] E0<|Kl (Kz i) ta) (Ol i c r):=by
 intro H0 B H σ γ R X Q hB env h q qx;unfold Ol at h;split at h
 ·rename_i o hi;obtain⟨v,hv,a,rfl,_,_⟩:=env.slot i _ hi;refine⟨_,hv,hr H0 B H σ γ _ _ _ env h (λss us H1 h1 S1 t1=>?_) λc H' hc S'=>qx γ c H' hc (env.grow S') (Fr.grow S')⟩;show spW mg c K ((V.ref a::us)++[]) H1 Q E0;rw[QB];split at h1
  ·rename_i ss' ep;exact Ap (X:=λ_ _=>False) env hB S1 hi hv t1 ep h1 q λ_ _ _ z=>z.elim
  ·grind
 ·grind
def Rg(C:Addr)(xs:Ys)(j:Nat):S->(S->Prop)->Prop
 | .view (.ins _ C' xs' cs),R=>C'=C/\xs'=xs/\∃c,cs[j]?=some c/\R (.view<|.lst c.2)
 | .bor (.ins C' xs' ds),R=>C'=C/\xs'=xs/\∃d,ds[j]?=some d/\R (arg d)
 |_,_=>False
noncomputable def Zol(C:Addr)(xs:Ys)(j:Nat)(a:PTE):PTE:=λγ R X=>a γ (λs=>Rg C xs j s R) X
def Rp.ins_inv (h:Rp K H (.ins C xs ds) v):∃a dx vs,v=.ref a/\H a=some (.ins C dx<|xs.zip vs)/\xs.length=vs.length/\Rps K H ds vs:=by
 cases h with
 |ins h e r=>grind
def FldAt(f:Str)(xs:Ys)(j:Nat):Prop:=∀vs:List V,xs.length=vs.length->(xs.zip vs).lookup f=vs[j]?
def NJ(j:Nat){a}(hc:Cls K C)(hn:NoAttr K C f)(hj:FldAt f xs j)(ha:Xj K mg E te a):Xj K mg E (FD K te f) (Zol C xs j a):=by
 intro H0 B H σ γ R X Q env p q qx;refine ha H0 B H σ γ _ X _ env p (λs v H1 h1 S1 t1=>?_) qx;have env1:=env.grow S1;unfold Rg at h1;split at h1
 ·rename_i x C' xs' cs;obtain⟨rfl,rfl,c,ec,hR⟩:=h1;obtain⟨b,rfl,e1,e2,⟨dx,e3⟩,e4,e5⟩:=t1;obtain⟨us,u1,u2⟩:=e4 c (Qg ec);refine⟨b,_,dx,_,_,rfl,e3,hc,hn,?_,q _ _ H1 hR S1 ⟨c.1,rfl,us,u1,u2⟩⟩;rw[hj _ (by grind),WS,ec];rfl
 ·rename_i C' xs' ds;obtain⟨rfl,rfl,d,ed,hR⟩:=h1;obtain⟨b,dx,vs,rfl,e1,e2,e3⟩:=Rp.ins_inv t1;obtain⟨u,hu,ru⟩:=e3.get ed;refine⟨b,_,dx,_,u,rfl,env1.same _ _ e1,hc,hn,by rw[hj _ e2];exact hu,q _ _ H1 hR S1 (N3 env1.zm env1.same ru)⟩
 ·exact h1.elim
noncomputable def Gy(C:Addr)(xs:Ys)(c:Pc)(a:PTE)(r:PTA):PTE:=λγ R X=>a γ (λs=>match s.d with
 | .ins C' xs' ds=>C'=C/\xs'=xs/\r γ (λss=>c (.ins C' xs' ds::ss.map S.d) (λs=>R s.back) X) X
 |_=>False) X
def NoFld(m:Str)(xs:Ys):Prop:=∀vs:List V,(xs.zip vs).lookup m=none
noncomputable def FY(C:Addr)(m:Str)(sp:Sp)(E:L2.St->XK)(ta:TE)(t:TA):TE:=λσ H Q=>ta σ H λx H1=>∃a dx fs,x=.ref a/\H1 a=some (.ins C dx fs)/\fs.lookup m=none/\t σ H1 λvs H2=>sp (x::(vs++[])) H2 Q (E σ)
def EF{m xs c ta a r}(hx:NoFld m xs)(ha:Xj K mg E te a)(hr:X6 K mg E ta r):Xj K mg E (FY C m (Xs mg c K) E te ta) (Gy C xs c a r):=by
 intro H0 B H σ γ R X Q env p q qx;refine ha H0 B H σ γ _ X _ env p (λs v H1 h1 S1 t1=>?_) qx;have env1:=env.grow S1;split at h1
 ·rename_i C' xs' ds ed;obtain⟨rfl,rfl,h1⟩:=h1;have rs:=t1.rp env1.same;rw[ed]at rs;obtain⟨b,dx,vs,rfl,e1,e2,e3⟩:=Rp.ins_inv rs;refine⟨b,dx,_,rfl,e1,hx vs,hr H0 B H1 σ γ _ X _ env1 h1 (λss us H2 h2 S2 t2=>?_) λc H' hc S'=>qx c H' hc (S1.trans S')⟩;have env2:=env1.grow S2;rw[QB];refine⟨_,_,X,Rps.cons (Rp.mono S2 rs) (t2.rps env2.same),h2,λs v H' hs S3 tv=>q _ _ H' hs ((S1.trans S2).trans S3) (tv.back env2 (S1.trans S2) S3),λe H' he S3=>qx e H' he ((S1.trans S2).trans S3)⟩
 ·grind
def Sk{m xs c ta a r Ec}(hx:NoFld m xs)(ha:Xj K mg (λ_=>Ec) te a)(hr:X6 K mg (λ_=>Ec) ta r):Xj K mg (λ_=>Ec) (TR C m (Xs mg c K) [] Ec te ta) (Gy C xs c a r):=EF hx ha hr
noncomputable def Zin(C:Addr)(xs:Ys)(c:Pc)(a:PTE)(r:PTA):PTE:=λγ R X=>a γ (λs=>match s.d with
 | .ins C' xs' ds=>C'=C/\xs'=xs/\r γ (λss=>c (.ins C' xs' ds::ss.map S.d) (λs=>R s.back) λ_=>False) X
 |_=>False) X
def KJ{m xs c ta a r}(hx:NoFld m xs)(ha:Xj K mg E te a)(hr:X6 K mg E ta r):Xj K mg E (TR C m (Xs mg c K) [] E0 te ta) (Zin C xs c a r):=by
 intro H0 B H σ γ R X Q env p q qx;refine ha H0 B H σ γ _ X _ env p (λs v H1 h1 S1 t1=>?_) qx;have env1:=env.grow S1;split at h1
 ·rename_i C' xs' ds ed;obtain⟨rfl,rfl,h1⟩:=h1;have rs:=t1.rp env1.same;rw[ed]at rs;obtain⟨b,dx,vs,rfl,e1,e2,e3⟩:=Rp.ins_inv rs;refine⟨b,dx,_,rfl,e1,hx vs,hr H0 B H1 σ γ _ X _ env1 h1 (λss us H2 h2 S2 t2=>?_) λc H' hc S'=>qx c H' hc (S1.trans S')⟩;have env2:=env1.grow S2;rw[QB];exact⟨_,_,_,Rps.cons (Rp.mono S2 rs) (t2.rps env2.same),h2,λs v H' hs S3 tv=>q _ _ H' hs ((S1.trans S2).trans S3) (tv.back env2 (S1.trans S2) S3),λ_ _ z=>z.elim⟩
 ·grind
noncomputable def Dr(i:Nat)(C:Addr)(xs:Ys)(c:Pw)(r:PTA):PTW:=λγ R X=>match γ[i]? with
 |some (some<|.own<|.ins x C' xs' cs)=>C'=C/\xs'=xs/\r γ (λss=>match passes ss with|some ss'=>c (.ins x C' xs' cs) ss' (λo' d=>R (γ.set i<|some<|.own o') d) (λo' e=>X (γ.set i<|some<|.own o') e)|none=>False) (X γ)
 |_=>False
def Zis(i:Nat){C m xs c ta r}(hx:NoFld m xs)(hr:X6 K mg E ta r):PK K mg E (FY C m (spW mg c K) E (Kz i) ta) (Dr i C xs c r):=by
 intro H0 B H σ γ R X Q hB env h q qx;unfold Dr at h;split at h
 ·rename_i x C' xs' cs hi;obtain⟨rfl,rfl,h⟩:=h;obtain⟨v,hv,a,rfl,_,e1,e2,⟨dx,e3⟩,e4⟩:=env.slot i _ hi;refine⟨_,hv,a,dx,_,rfl,e3,hx _,hr H0 B H σ γ _ _ _ env h (λss us H1 h1 S1 t1=>?_) λc H' hc S'=>qx γ c H' hc (env.grow S') (Fr.grow S')⟩;rw[QB];split at h1
  ·rename_i ss' ep;exact Ap env hB S1 hi hv t1 ep h1 q qx
  ·grind
 ·grind
def Ss(i:Nat){C m xs c ta r Ec}(hx:NoFld m xs)(hr:X6 K mg (λ_=>Ec) ta r):PK K mg (λ_=>Ec) (TR C m (spW mg c K) [] Ec (Kz i) ta) (Dr i C xs c r):=Zis i hx hr
noncomputable def EE(i:Nat)(C:Addr)(xs:Ys)(c:Pw)(r:PTA):PTW:=λγ R X=>match γ[i]? with
 |some (some<|.own<|.ins x C' xs' cs)=>C'=C/\xs'=xs/\r γ (λss=>match passes ss with|some ss'=>c (.ins x C' xs' cs) ss' (λo' d=>R (γ.set i<|some<|.own o') d) (λ_ _=>False)|none=>False) (X γ)
 |_=>False
def Se(i:Nat){C m xs c ta r}(hx:NoFld m xs)(hr:X6 K mg E ta r):PK K mg E (TR C m (spW mg c K) [] E0 (Kz i) ta) (EE i C xs c r):=by
 intro H0 B H σ γ R X Q hB env h q qx;unfold EE at h;split at h
 ·rename_i x C' xs' cs hi;obtain⟨rfl,rfl,h⟩:=h;obtain⟨v,hv,a,rfl,_,e1,e2,⟨dx,e3⟩,e4⟩:=env.slot i _ hi;refine⟨_,hv,a,dx,_,rfl,e3,hx _,hr H0 B H σ γ _ _ _ env h (λss us H1 h1 S1 t1=>?_) λc H' hc S'=>qx γ c H' hc (env.grow S') (Fr.grow S')⟩;rw[QB];split at h1
  ·rename_i ss' ep;exact Ap (X:=λ_ _=>False) env hB S1 hi hv t1 ep h1 q λ_ _ _ z=>z.elim
  ·grind
 ·grind
theorem Iq{α:Type}:∀{l:List α}{i j:Nat}{x:α},l.Nodup->l[i]?=some x->l[j]?=some x->i=j
 |[],_,_,_,_,h,_=>by simp at h
 |y::r,0,0,_,_,_,_=>rfl
 |y::r,0,j+1,x,hn,h1,h2|y::r,i+1,0,x,hn,h1,h2=>by
  grind
 |y::r,i+1,j+1,x,hn,h1,h2=>Q2 (· + 1) (Iq (Q3.mp hn).2 (by trivial)<|by grind)
def Xo.cell {cs b ds es us} (env:Xo K H0 B H σ γ) (hi:γ[i]?=some (some<|.own<|.ins x C xs cs)) (hj:cs[j]?=some (b,ds)) (r:Rps K (off (zof B γ σ) H) es us) :
  Xo K H0 B (upd H b<|.lst us) σ (γ.set i<|some<|.own<|.ins x C xs<|cs.set j (b,es))/\Fr B H σ γ (upd H b<|.lst us) σ (γ.set i<|some<|.own<|.ins x C xs<|cs.set j (b,es)):=by
 obtain⟨v,hv,a,rfl,e0,e1,e2,⟨dx,e3⟩,e4,e5⟩:=env.slot i _ hi;subst e1;have hbm:=Qg hj
 have hab:a≠b:=λz=>by
  obtain⟨ws,w1,_⟩:=e4 _ hbm;rw[←show a=b from z,e3]at w1
  cases w1
 have em:(cs.set j (b,es)).map (·.1)=cs.map (·.1):=by
  apply JR;intro k;rw[WS,WS,List.getElem?_set];by_cases e:j=k
  ·subst e;rw[WO rfl,WO ((WZ.mp hj).1),hj];rfl
  ·rw[WN e]
 have em2:(cs.set j (b,es)).map (λc=>V.ref c.1)=cs.map λc=>V.ref c.1:=by
  have:=Q2 (List.map V.ref) em
  rw[QA,QA]at this;exact this
 have adr:∀c,(O.ins a C xs<|cs.set j (b,es)).adr a c->(O.ins a C xs cs).adr a c:=λc hc=>by
  rcases hc with hc|⟨d,hd,hc⟩
  ·exact .inl hc
  ·have:d.1∈(cs.set j (b,es)).map (·.1):=JG hd
   rw[em]at this;obtain⟨d',q1,q2⟩:=Qp.mp this;exact .inr ⟨d',q1,hc.trans q2.symm⟩
 have zb:∀c,(O.ins a C xs cs).adr a c->zof B γ σ c:=λc hc=>.inr ⟨i,_,a,hi,hv,hc⟩
 have So:Same (off (zof B γ σ) H) (off (zof B (γ.set i<|some<|.own<|.ins a C xs<|cs.set j (b,es)) σ)<|upd H b<|.lst us):=λc u h=>by
  obtain⟨q1,q2⟩:=P9 h;have nb:=λz=>q2 (zb c<|.inr ⟨_,hbm,z⟩);refine XS (by rw[Xr nb];exact q1) λz=>q2 ?_;rcases z with z|⟨k,fs,a',k1,k2,k3⟩
  ·exact .inl z
  ·rcases XW k1 with⟨ek,q,_⟩|⟨_,q⟩
   ·subst ek;cases q
    exact zb c (adr c k3)
   ·exact .inr ⟨k,fs,a',q,k2,k3⟩
 refine env.change hi hv (λc u hu n=>?_) (λc hc=>?_) (λc hc=>.inl (adr c hc)) ⟨rfl,by rw[QK];exact e2,⟨dx,?_⟩,λc hc=>?_,by rw[em];exact e5⟩
 ·rw[Xr λz=>n (.inr ⟨_,hbm,z⟩)];exact hu
 ·by_cases z:c=b
  ·rw[z,X4];trivial
  ·rw[Xr z];exact env.zm c (zb c hc)
 ·rw[Xr hab,em2];exact e3
 ·obtain⟨k,hk,ek⟩:=List.getElem_of_mem hc;have hk':(cs.set j (b,es))[k]?=some c:=by rw[WH hk,ek]
  rcases XW hk' with⟨_,q,_⟩|⟨nk,q⟩
  ·subst q;exact⟨us,X4,Rps.mono So r⟩
  ·obtain⟨ws,w1,w2⟩:=e4 c (Qg q)
   have nb:=λz=>nk (by
    have h1:(cs.map (·.1))[k]?=some b:=by rw[WS,q];exact Q2 some z
    have h2:(cs.map (·.1))[j]?=some b:=by rw[WS,hj];rfl
    exact Iq e5 h1 h2)
   exact⟨ws,by rw[Xr nb];exact w1,Rps.mono So w2⟩
noncomputable def Hy(i j:Nat)(C:Addr)(xs:Ys)(a:PTE):PTW:=λγ R X=>match γ[i]? with
 |some (some<|.own<|.ins x C' xs' cs)=>C'=C/\xs'=xs/\∃c,cs[j]?=some c/\a γ (λs=>match s.shd with
  |some d=>c.2.length<10000000/\R (γ.set i<|some<|.own<|.ins x C' xs'<|cs.set j (c.1,c.2++[d])) .non
  |none=>False) (X γ)
 |_=>False
def Cr(i j:Nat){C f xs a}(hc:Cls K C)(hn:NoAttr K C f)(hj:FldAt f xs j)(ha:Xj K mg E te a):PK K mg E (tBM K "list" E8 (FD K (Kz i) f)<|Kl te KO) (Hy i j C xs a):=by
 intro H0 B H σ γ R X Q hB env h q qx;unfold Hy at h;split at h
 ·rename_i x C' xs' cs hi;obtain⟨rfl,rfl,c,ec,h⟩:=h;obtain⟨v,hv,b,rfl,_,e1,e2,⟨dx,e3⟩,e4,e5⟩:=env.slot i _ hi;obtain⟨us,u1,u2⟩:=e4 c (Qg ec);refine⟨_,hv,b,_,dx,_,V.ref c.1,rfl,e3,hc,hn,?_,.inl ⟨rfl,us,SqL.of u1⟩,ha H0 B H σ γ _ _ _ env h (λs u H1 h1 S1 t1=>?_) λc H' hc S'=>qx γ c H' hc (env.grow S') (Fr.grow S')⟩
  ·rw[hj _ (by grind),WS,ec];rfl
  ·have env1:=env.grow S1;split at h1
   ·rename_i d ed;refine⟨c.1,us,u,rfl,rfl,S1 _ _ u1,by rw[u2.len];exact VL h1.1 (by decide),?_⟩;obtain⟨k1,k2⟩:=env1.cell hi ec (Rps.append (Rps.mono (Xx S1 λ_ _ _ z=>z) u2)<|.cons (t1.shd env1.same env.zm S1 ed) .nil);exact q _ _ _ _ h1.2 k1 ((Fr.grow S1).trans k2) .non
   ·exact h1.elim
 ·exact h.elim
noncomputable def On(i j:Nat)(C:Addr)(xs:Ys):PTW:=λγ R _=>match γ[i]? with
 |some (some<|.own<|.ins x C' xs' cs)=>C'=C/\xs'=xs/\∃c d,cs[j]?=some c/\c.2[c.2.length-1]?=some d/\R (γ.set i<|some<|.own<|.ins x C' xs'<|cs.set j (c.1,c.2.dropLast)) d
 |_=>False
def Rps.dropLast:∀{ds}{vs:List V},Rps K H ds vs->Rps K H ds.dropLast vs.dropLast:=by
 intro ds
 induction ds with
 |nil=>
  intro _ h;cases h
  exact .nil
 |cons _ _ ih=>
  intro _ h;cases h with
  |cons h r=>
   cases r with
   |nil=>exact .nil
   |cons c e=>exact .cons h (ih<|.cons c e)
def Ak(i j:Nat){C f xs}(hc:Cls K C)(hn:NoAttr K C f)(hj:FldAt f xs j):PK K mg E (Bh K "list" DB<|FD K (Kz i) f) (On i j C xs):=by
 intro H0 B H σ γ R X Q hB env h q qx;unfold On at h;split at h
 ·rename_i x C' xs' cs hi;obtain⟨rfl,rfl,c,d,ec,ed,h⟩:=h;obtain⟨v,hv,b,rfl,_,e1,e2,⟨dx,e3⟩,e4,e5⟩:=env.slot i _ hi;obtain⟨us,u1,u2⟩:=e4 c (Qg ec);obtain⟨u,hu,ru⟩:=u2.get ed;refine⟨_,hv,b,_,dx,_,V.ref c.1,rfl,e3,hc,hn,?_,.inl ⟨rfl,us,SqL.of u1⟩,c.1,us,u,rfl,rfl,u1,by rw[u2.len];exact hu,?_⟩
  ·rw[hj _ (by grind),WS,ec];rfl
  ·obtain⟨k1,k2⟩:=env.cell hi ec (Rps.dropLast u2);exact q _ _ _ _ h k1 k2 (Rp.mono k2.off ru)
 ·grind
def PutAt(f:Str)(xs:Ys):Prop:=∀(vs:List V) (y:V),xs.length=vs.length->KE f y (xs.zip vs)=(xs++[f]).zip (vs++[y])
noncomputable def Znz(i:Nat)(C:Addr)(f:Str)(xs:Ys)(a:PTE):PTS:=λR γ=>a γ (λs=>match s with
 | .own (.lst ds)=>(match γ[i]? with
  |some (some<|.own<|.ins x C' xs' cs)=>C'=C/\xs'=xs/\xs.length<1000/\∀b,R.nx (γ.set i<|some<|.own<|.ins x C' (xs++[f]) (cs++[(b,ds)]))
  |_=>False)
 |_=>False) (R.ex γ)
def Dj(i:Nat){C f xs a}(hc:Cls K C)(hn:NoAttr K C f)(hp:PutAt f xs)(ha:Xj K mg E te a):Xy K mg E (Ms K (Kz i) te f) (Znz i C f xs a):=by
 intro H0 B H σ γ R D hB env h e;refine ha H0 B H σ γ _ _ _ env h (λs v H1 h1 S1 t1=>?_) λc H' hc S'=>e.ex σ γ c H' hc (env.grow S') (Fr.grow S');split at h1
 ·rename_i ds;split at h1
  ·rename_i x C' xs' cs hi;obtain⟨rfl,rfl,hl,h1⟩:=h1;obtain⟨u,hv,b,rfl,e0,e1,e2,⟨dx,e3⟩,e4,e5⟩:=env.slot i _ hi;subst e1;obtain⟨l,rfl,l0,vs,l1,l2⟩:=t1;have l0:=l0 l rfl;refine⟨_,hv,b,_,dx,_,rfl,S1 _ _ e3,hc,hn,?_,?_⟩
   ·rw[List.length_zip,WG];omega
   ·rw[hp _ _ (by rw[WG];exact e2)]
    have nl:∀c∈cs,c.1≠l:=λc hc=>by
     obtain⟨ws,w1,_⟩:=e4 c hc;exact Kw w1 l0
    have nb:∀c∈cs,c.1≠b:=λc hc z=>by
     obtain⟨ws,w1,_⟩:=e4 c hc;rw[z,e3]at w1;cases w1
    have zb:∀c,(O.ins b C' xs' cs).adr b c->zof B γ σ c:=λc hc=>.inr ⟨i,_,b,hi,hv,hc⟩
    have key:∀c u,H1 c=some u->¬(zof B γ σ c\/c=l)->¬zof B (γ.set i<|some<|.own<|.ins b C' (xs'++[f]) (cs++[(l,ds)])) σ c:=λc u _ n z=>by
     rcases z with z|⟨k,fs,a',k1,k2,k3⟩
     ·exact n (.inl<|.inl z)
     ·rcases XW k1 with⟨ek,q,_⟩|⟨_,q⟩
      ·subst ek;cases q
       rw[hv]at k2;cases k2
       rcases k3 with k3|⟨d,hd,k3⟩
       ·exact n (.inl<|zb c<|.inl k3)
       ·rcases WV.mp hd with hd|hd
        ·exact n (.inl<|zb c<|.inr ⟨d,hd,k3⟩)
        ·rw[WJ]at hd;subst hd;exact n (.inr k3)
      ·exact n (.inl<|.inr ⟨k,fs,a',q,k2,k3⟩)
    have So:Same (off (λc=>zof B γ σ c\/c=l) H1) (off (zof B (γ.set i<|some<|.own<|.ins b C' (xs'++[f]) (cs++[(l,ds)])) σ)<|upd H1 b<|.ins C' dx ((xs'++[f]).zip ((cs.map λc=>V.ref c.1)++[.ref l]))):=λc u h=>by
     obtain⟨q1,q2⟩:=P9 h;exact XS (by rw[Xr λz=>q2 (.inl<|zb c<|.inl z)];exact q1) (key c u q1 q2)
    have S0:Same (off (zof B γ σ) H) (off (λc=>zof B γ σ c\/c=l) H1):=Xx S1 λc u hc z y=>y.elim z λy=>by rw[y,l0]at hc;cases hc
    obtain⟨k1,k2⟩:=env.change (o':=.ins b C' (xs'++[f]) (cs++[(l,ds)])) (H':=upd H1 b (.ins C' dx ((xs'++[f]).zip ((cs.map λc=>V.ref c.1)++[.ref l])))) hi hv
     (λc u hu n=>by rw[Xr λz=>n (.inl z)];exact S1 _ _ hu)
     (λc hc=>by
      by_cases z:c=b
      ·rw[z,X4];trivial
      ·rw[Xr z];exact(env.grow S1).zm c (zb c hc))
     (λc hc=>by
      rcases hc with hc|⟨d,hd,hc⟩
      ·exact .inl (.inl hc)
      ·rcases WV.mp hd with hd|hd
       ·exact .inl (.inr ⟨d,hd,hc⟩)
       ·rw[WJ]at hd;subst hd;exact .inr (by rw[show c=l from hc];exact l0))
     ⟨rfl,by rw[WR,WR,e2];rfl,⟨dx,by rw[X4,Qc];rfl⟩,λc hc=>by
      rcases WV.mp hc with hc|hc
      ·obtain⟨ws,w1,w2⟩:=e4 c hc;exact⟨ws,by rw[Xr (nb c hc)];exact S1 _ _ w1,Rps.mono So (Rps.mono S0 w2)⟩
      ·rw[WJ]at hc;subst hc;exact⟨vs,by rw[Xr (λz=>(Kw e3 l0) z.symm)];exact l1,Rps.mono So l2⟩,by
      rw[Qc,Q7]
      exact⟨e5,by simp,λc hc d hd z=>by
       obtain⟨c',q1,q2⟩:=Qp.mp hc
       have:d=l:=by simpa using hd
       exact nl c' q1 (q2.trans<|z.trans this)⟩⟩
    exact e.nx _ _ _ (h1 l) k1 k2
  ·exact h1.elim
 ·exact h1.elim
def Zay{c}{ss ss'}{us}{R:S->Prop}{X:XR}{Q:VK}{Ec}(env:Xo K H0 B H σ γ)(S1:Same H H1)(t1:TVs K (zof B γ σ) H0 H H1 ss us)(ep:passes ss=some ss')(h1:∀x,c (.ins x C [] []) ss' (λo' d=>d=.non/\R (.own o')) (λ_ e=>X e))(q:∀s v H',R s->Same H H'->TV K (zof B γ σ) H0 H H' s v->Q v H')(qx:∀c H',X c->Same H H'->XE mg Ec c H') :
  ∀x dx,H1 x=none->H1 dx=none->dx≠x->spW mg c K (.ref x::us) (upd (upd H1 dx<|.own x) x<|.ins C dx []) (λv H2=>v=.non/\Q (.ref x) H2) Ec:=by
 have env1:=env.grow S1;intro x dx nx ndx nex
 have S2:Same H1 (upd (upd H1 dx<|.own x) x<|.ins C dx []):=λb o e=>by
  rwa[Xr (Kw e nx),Xr (Kw e ndx)]
 have aft:∀o' H',After K (zof B γ σ) (upd (upd H1 dx<|.own x) x<|.ins C dx []) x (.ins x C [] []) o' H'->Same H1 H'/\∀b,o'.adr x b->H b=none:=λo' H' A=>by
  refine⟨λb o e=>A.same b o (XS (S2 b o e) λz=>?_),λb hb=>?_⟩
  ·rcases z with z|⟨c,hc,_⟩
   ·rw[z,nx]at e;cases e
   ·cases hc
  ·rcases A.new b hb with(z|⟨c,hc,_⟩)|z
   ·rw[z];exact S1.free nx
   ·cases hc
   ·exact S1.free (S2.free z)
 refine⟨.ins x C [] [],x,ss',us,zof B γ σ,_,_,rfl,λb hb=>⟨PZ S2 (env1.zm b hb),λz=>?_⟩,⟨rfl,rfl,⟨dx,X4⟩,(λc hc=>by cases hc),V3⟩,?_,Bk ep,h1 x,λo' d v H' hR A rd=>?_,λo' e H' hX A=>?_⟩
 ·rcases z with z|⟨c,hc,_⟩
  ·have:=env1.zm b hb
   rw[z,nx]at this;exact this
  ·cases hc
 ·refine t1.pass env1.same env.zm S1 (λb o e=>XS (S2 _ _<|env1.same b o e) λz=>?_) (Xx S2 λb o e z y=>?_) ep
  ·rcases z with z|⟨c,hc,_⟩
   ·rw[z,(env1.same).free nx]at e;cases e
   ·cases hc
  ·rcases y with y|y|⟨c,hc,_⟩
   ·exact z y
   ·rw[y,nx]at e;cases e
   ·cases hc
 ·obtain⟨rfl,hR⟩:=hR;obtain⟨k1,k2⟩:=aft o' H' A;exact⟨Rp.non_inv rd,q _ _ H' hR (S1.trans k1) ⟨x,rfl,k2,A.at_⟩⟩
 ·exact qx e H' hX (S1.trans (aft o' H' A).1)
noncomputable def Zg9(C:Addr)(c:Pw)(r:PTA):PTE:=λγ R X=>r γ (λss=>match passes ss with|some ss'=>∀x,c (.ins x C [] []) ss' (λo' d=>d=.non/\R (.own o')) (λ_ _=>False)|none=>False) X
def Zpw{ta r}(hr:X6 K mg E ta r):Xj K mg E (A5 C (spW mg c K) [] E0 ta) (Zg9 C c r):=by
 intro H0 B H σ γ R X Q env p q qx;refine hr H0 B H σ γ _ X _ env p (λss us H1 h1 S1 t1=>?_) qx;split at h1
 ·rename_i ss' ep;rw[QB];exact Zay env S1 t1 ep h1 q λ_ _ z=>z.elim
 ·grind
end
def Bi{α:Type}{us:List α}(h:us.length=1):∃a,us=[a]:=List.length_eq_one_iff.mp h
def By{α:Type}{us:List α}(h:us.length=2):∃a b,us=[a,b]:=by
 cases us with
 |nil=>grind
 |cons a r=>obtain⟨b,rfl⟩:=Bi (by simpa using h);exact⟨a,b,rfl⟩
def FG{α:Type}{us:List α}(h:us.length=3):∃a b c,us=[a,b,c]:=by
 cases us with
 |nil=>grind
 |cons a r=>obtain⟨b,c,rfl⟩:=By (by simpa using h);exact⟨a,b,c,rfl⟩
def Es{α:Type}{us:List α}(h:us.length=4):∃a b c d,us=[a,b,c,d]:=by
 cases us with
 |nil=>grind
 |cons a r=>obtain⟨b,c,d,rfl⟩:=FG (by simpa using h);exact⟨a,b,c,d,rfl⟩
def Ziw{α:Type}{us:List α}(h:us.length=5):∃a b c d e,us=[a,b,c,d,e]:=by
 cases us with
 |nil=>grind
 |cons a r=>obtain⟨b,c,d,e,rfl⟩:=Es (by simpa using h);exact⟨a,b,c,d,e,rfl⟩
structure XA (K:Yj) (W:Addr->Prop) (x q:Str) (st:Stmt) (ps:Ys):Prop where
 ex:∃f fd,Fun K x q st f fd/\W f/\Binds K fd ps []
structure Pa (P:Program) (w:World) (K:Yj) (mg:Yn) (base:Heap) (CX:CXT) (k:Nat) (W:Addr->Prop) (ps:Ys) (sp:Sp):Prop where
 ex:∃f fd,K8 P w K mg base CX k f fd ps sp/\W f/\Binds K fd ps []
section
variable {P:Program}{w:World}{K:Yj}{mg:Yn}{base:Heap}{W:Addr->Prop}
def XA.ok {st N ps k sp} (D:XA K W x q st ps) (S:Xn N ps (Xk st)) (len:∀vs H Q E,sp vs H Q E->vs.length=ps.length)
  (hbody:∀f cdv A outer s H vs Q E,Xv k (A.deeper<|envOfC q (Xk st) s.heap.objs.size f cdv)->sp vs H Q E->
   ∃t,PSs (XY CX0 P w K mg base N q (Xk st) f cdv A outer s H E).nox (XQ st) t/\t {nx:=λ_ H'=>Q .non H',rt:=Q} (start N vs) H):Pa P w K mg base CX0 (k+1) W ps sp:=by
 obtain⟨f,fd,F,hm,hb⟩:=D.ex;exact⟨f,fd,F.ok S len λcdv A outer s H vs Q E hr h=>hbody f cdv A outer s H vs Q E hr h,hm,hb⟩
def XA.okX {st N ps k sp} (D:XA K W x q st ps) (S:Xn N ps (Xk st)) (len:∀vs H Q E,sp vs H Q E->vs.length=ps.length)
  (hbody:∀f cdv A outer s H vs Q E,Xv k (A.deeper<|envOfC q (Xk st) s.heap.objs.size f cdv)->sp vs H Q E->
   ∃t,PSs (XY (ExcR.CXe P w) P w K mg base N q (Xk st) f cdv A outer s H E) (XQ st) t/\t {nx:=λ_ H'=>Q .non H',rt:=Q} (start N vs) H):Pa P w K mg base (ExcR.CXe P w) (k+1) W ps sp:=by
 obtain⟨f,fd,F,hm,hb⟩:=D.ex;obtain⟨oc,od,kV,doc,pm,an,cdv,ct,osl,rfl,lk,hcd⟩:=F.ex;exact⟨f,_,AW lk hcd S len λA outer s H vs Q E hr hsp=>hbody f cdv A outer s H vs Q E hr hsp,hm,hb⟩
def Du:Pj (ExcR.CXe P w) X E0:=λ_ _ _ _ _ _ _ h=>by
 obtain⟨a,T,C,dx,H',_,_,z⟩:=h
 grind
end
section
variable {X:Cx}{CX:CXT}{k:Nat}{Cc:Addr}{ps:Ys}{sp:Sp}{E:XK}{ES:L2.St->XK}{x m:Str}{p pos apos:Pos}{e o:Expr}{es:Yt}{ta:TE}{t:TA}
def Tq{pl}(C:Pa X.prog X.w X.K X.mg X.base CX k (XF X.K Cc m) ps sp)(c:Cls X.K Cc)(hr:Xv k X.A)(hx:Pj CX X E)(he:PE X o ta)(ha:PA X (e::es) t)(hst:autoParam (starEach (e::es) X.env=(false,eval e X.env)::starEach es X.env) au_0)(hpl:autoParam ((backTo pos<|starEach es X.env).any (·.1)=false) au_0)
  (ht:autoParam (eval (.Call (.Attribute o m apos) (e::es) [] pos) X.env=(do
   let ov ←eval o X.env
   standAt apos.atName
   let (f,first) ←holding [ov] (getMethod ov m pl)
   callWith pos f first (backTo pos<|starEach (e::es) X.env) (backToKw pos<|keywordEach [] X.env))) au_0) :
  PE X (.Call (.Attribute o m apos) (e::es) [] pos) (TR Cc m sp [] E ta t):=by
 obtain⟨f,fd,F,hm,hb⟩:=C.ex;exact Zah he c hm F hr hb .nil hx ha hst hpl ht
def Ke(C:Pa X.prog X.w X.K X.mg X.base CX k (XF X.K Cc m) ps sp)(c:Cls X.K Cc)(hr:Xv k X.A)(hx:Pj CX X E)(he:PE X o ta)
  (ht:autoParam (eval (.Call (.Attribute o m apos) [] [] pos) X.env=(do
   let ov ←eval o X.env
   standAt apos.atName
   let (f,first) ←holding [ov] (getMethod ov m pl)
   callWith pos f first (backTo pos<|starEach [] X.env) (backToKw pos<|keywordEach [] X.env))) au_0) :
  PE X (.Call (.Attribute o m apos) [] [] pos) (TR Cc m sp [] E ta KO):=by
 obtain⟨f,fd,F,hm,hb⟩:=C.ex;exact Zhr he c hm F hr hb .nil hx ht
def Ze3{σ:L2.St}{H}{s}{Q}{us}{vs}(F:K8 X.prog X.w X.K X.mg X.base CX k f fd ps sp)(hr:Xv k X.A)(hb:Binds X.K fd ps [])(hx:ExcR.E1 CX X ES)(I:Inv X pins σ H s)(r:Vals vs us)(h:sp vs H Q (ES σ)):wpAny (model X.prog X.w) X.A (call (.ref f) us) (EP X pins σ Q) X.xe s:=by
 have hl:(us++[]).length=ps.length:=by rw[QB,←r.length];exact F.len _ _ _ _ h
 refine J4 (Vp (F.run X.A X.stack s H ⟨us,[]⟩ (us++[]) vs Q (ES σ) hr I.env0 (hb s us I.kIn hl) (by grind) h) λr s' hq=>?_);cases r with
 |error e=>exact hx pins σ H s e s' I hq
 |ok fl=>
  cases fl with
  |ret u=>exact I.after hq
  |cont=>exact False.elim hq
  |_=>trivial
def Zh6{pl}(C:Pa X.prog X.w X.K X.mg X.base CX k (XF X.K Cc m) ps sp)(c:Cls X.K Cc)(hr:Xv k X.A)(hx:ExcR.E1 CX X ES)(he:PE X o ta)(ha:PA X (e::es) t)(hst:autoParam (starEach (e::es) X.env=(false,eval e X.env)::starEach es X.env) au_0)(hpl:autoParam ((backTo pos<|starEach es X.env).any (·.1)=false) au_0)
  (ht:autoParam (eval (.Call (.Attribute o m apos) (e::es) [] pos) X.env=(do
   let ov ←eval o X.env
   standAt apos.atName
   let (f,first) ←holding [ov] (getMethod ov m pl)
   callWith pos f first (backTo pos<|starEach (e::es) X.env) (backToKw pos<|keywordEach [] X.env))) au_0) :
  PE X (.Call (.Attribute o m apos) (e::es) [] pos) (FY Cc m sp ES ta t):=by
 obtain⟨f,fd,F,hm,hb⟩:=C.ex;intro pins s σ H Q I h;refine VJ (thn (he pins s σ H _ I h) λu s1 ⟨x,H1,I1,rx,a,dx,fs,ex,ea,l,q⟩=>?_) ht;subst ex;obtain rfl:=rx;refine F2 I1 ea c hm l ?_;refine Jb I.ok.mod.kin hm.kp (thn (ha pos pins s1 σ H1 _ I1 q) λus s2 ⟨vs,H2,I2,r,q2⟩=>⟨I2.kIn,?_⟩) hst hpl;exact Ze3 (vs:=.ref a::(vs++[])) F hr hb hx I2 (.cons rfl<|by simp_all) q2
def Zm3(C:Pa X.prog X.w X.K X.mg X.base CX k (Mk X.K Cc) ps sp)(hm:X.mg x=some (.ref Cc))(hr:Xv (k+1) X.A)(hx:Pj CX X E)(ha:PA X (e::es) t)(hg:autoParam (Gl X x) au_0)(hdb:autoParam ((x==("__debug__" : Str))=false) au_1)(he:autoParam (starEach (e::es) X.env=(false,eval e X.env)::starEach es X.env) au_0)(hpl:autoParam ((backTo pos<|starEach es X.env).any (·.1)=false) au_0) :
  PE X (.Call (.Name x p) (e::es) [] pos) (A5 Cc sp [] E t):=by
 obtain⟨f,fd,F,M,hb⟩:=C.ex;exact Zop M F hr hg hm hb .nil hx ha hdb he hpl
end
abbrev PTF:=Γ->Str->(Str->Prop)->XR->Prop
section
variable {K:Yj}{mg:Yn}{E:L2.St->XK}{t:ExcR.TF}{p:PTF}{te:TE}{a:PTE}
def Sl(K:Yj)(mg:Yn)(E:L2.St->XK)(t:ExcR.TF)(p:PTF):Prop:=∀(H0:Hp) (B:Addr->Prop) (H:Hp) (σ:L2.St) (γ:Γ) (out:Str) (R:Str->Prop) (X:XR) (Q:Str->Hp->Prop),Xo K H0 B H σ γ->p γ out R X->
 (∀x H',R x->Same H H'->Q x H')->(∀c H',X c->Same H H'->XE mg (E σ) c H')->t σ H out Q
noncomputable def Zjq:PTF:=λ_ out R _=>out.length<=sizeLine/\R out
def NH:Sl K mg E ExcR.EX Zjq:=λH0 B H σ γ out R X Q env h q _=>⟨h.1,q _ H h.2 (Same.refl _)⟩
noncomputable def Zcd(x:Str)(p:PTF):PTF:=λγ out R X=>(out++x).length<=sizeLine/\p γ (out++x) R X
def P6(h:Sl K mg E t p):Sl K mg E (ExcR.HR x t) (Zcd x p):=λH0 B H σ γ out R X Q env hp q qx=>⟨hp.1,h H0 B H σ γ _ R X Q env hp.2 q qx⟩
noncomputable def Zgk(a:PTE)(p:PTF):PTF:=λγ out R X=>a γ (λs=>match s.d with
 | .int i=>i.natAbs.log2<1920/\(out++(Str.ofString<|toString i)).length<=sizeLine/\p γ (out++Str.ofString (toString i)) R X
 | .str x=>x.length<=sizeLine/\(out++x).length<=sizeLine/\p γ (out++x) R X
 |_=>False) X
def N6(ha:Xj K mg E te a)(h:Sl K mg E t p):Sl K mg E (ExcR.Lf te t) (Zgk a p):=λH0 B H σ γ out R X Q env hp q qx=>by
 refine ha H0 B H σ γ _ X _ env hp (λs v H1 h1 S1 t1=>?_) qx;have env1:=env.grow S1;have rs:=t1.rp env1.same;split at h1
 ·rename_i i ei;rw[ei]at rs;exact .inl ⟨i,rs.int_inv,h1.1,h1.2.1,h H0 B H1 σ γ _ R X Q env1 h1.2.2 (λx H' hx S'=>q x H' hx (S1.trans S')) λc H' hc S'=>qx c H' hc (S1.trans S')⟩
 ·rename_i x ex;rw[ex]at rs;exact .inr ⟨x,rs.str_inv,h1.1,h1.2.1,h H0 B H1 σ γ _ R X Q env1 h1.2.2 (λx H' hx S'=>q x H' hx (S1.trans S')) λc H' hc S'=>qx c H' hc (S1.trans S')⟩
 ·grind
noncomputable def pF(p:PTF):PTE:=λγ R X=>p γ Str.empty (λx=>R (.sh<|.str x)) X
def N9(h:Sl K mg E t p):Xj K mg E (ExcR.tF t) (pF p):=λH0 B H σ γ R X Q env hp q qx=>
 h H0 B H σ γ _ _ X _ env hp (λx H' hx S'=>q _ _ H' hx S' (.str x)) qx
end
open M
noncomputable abbrev plD(f:Yk):D:=.lst (f.map prD)
noncomputable abbrev dD(q:Str×Yl):D:=.tup (.str q.1::q.2.map D.int)
noncomputable abbrev vF:Ys:=["book","fields","wished"]
noncomputable abbrev vO(C x b1 b2 b3:Addr)(bk:List (Str×Yl))(fs ws:List (Yk)):O:=.ins x C vF [(b1,bk.map dD),(b2,fs.map plD),(b3,ws.map plD)]
noncomputable abbrev Tv(C:Addr)(bk:List (Str×Yl))(fs ws:List (Yk)):D:=.ins C vF [.lst (bk.map dD),.lst (fs.map plD),.lst (ws.map plD)]
def BM{α:Type}(f:α->D)(xs:List α)(x:α):atI ((xs++[x]).map f) (-1)=some (f x):=by
 refine T5 ?_;unfold atI ixN;rw[WN (by omega),WO (by grind)];show(xs++[x])[_]?=some x;have e:((-1:Int)+((xs++[x]).length:Int)).toNat=xs.length:=by grind
 rw[e,Q1 (WQ _),Nat.sub_self];rfl
def Kk(e:Option Str)(X:Str->Prop)(R:Prop):Prop:=match e with|some c=>X c|none=>R
noncomputable def Sn(h:Int):Option Str:=if 1<=h/\h<=10 then none else some "BadHolder"
noncomputable def Nk:Yk->Option Str
 |[]=>none
 |q::r=>if ¬(1<=q.1/\q.1<=10)then some "BadHolder" else if ¬(1<=q.2/\q.2<=1000)then some "BadWidth" else Nk r
noncomputable def NL(ps:Yk):Option Str:=if 40<ps.length then some "TooManyStrips" else Nk ps
theorem HG:∀{ps:Yk},Field ps->Nk ps=none
 |[],_=>rfl
 |q::r,h=>by
  obtain⟨h1,h2,h3,h4⟩:=h q Qu;unfold Nk;rw[WN (λz=>z ⟨h1,h2⟩),WN (λz=>z ⟨h3,h4⟩)];exact HG λx hx=>h x (Qe _ hx)
def Zar(h:Field ps)(hl:ps.length<=40):NL ps=none:=by
 unfold NL;rw[WN (by omega)];exact HG h
noncomputable def BB(ps:Yk)(p:Int):Option Str:=if p<1\/(ps.length:Int)<p then some "NoStrip" else none
noncomputable def Xw(ps:Yk)(p:Int):Int×Int:=ps.getD (p-1).toNat (0,0)
noncomputable def XO(ps:Yk)(p h:Int):Option Str:=if p<1\/(ps.length:Int)<p then some "NoStrip" else if ¬(1<=h/\h<=10)then some "BadHolder" else if (Xw ps p).1=h then some "OwnStrip" else none
noncomputable def X8(ps:Yk)(p h:Int):Yk:=ps.set (p-1).toNat (h,(Xw ps p).2)
def O2{ps:Yk}{p:Int}{x}(h1:1<=p)(h2:p<=ps.length):cutD (ps.map prD) none (some (p-1))++[prD x]++cutD (ps.map prD) (some p) none=(ps.set (p-1).toNat x).map prD:=by
 rw[Nt,Nt,DG ps (by omega),Bg ps (by omega)];have e:p.toNat=(p-1).toNat+1:=by omega
 rw[e,List.set_eq_take_append_cons_drop,WO (by omega),Qc,Qn,List.append_assoc];rfl
def Tz{p}(h1:1<=p)(h2:p<=ps.length):atI (ps.map prD) (p-1)=some (prD<|Xw ps p):=by
 rw[N7 (by omega) (by omega)];unfold Xw;rw[Qb,WH (by omega)];rfl
def Em(ps:Yk)(p h:Int):(X8 ps p h).length=ps.length:=QK ..
def D3(hF:Field ps)(e:XO ps p h=none):Field (X8 ps p h):=by
 unfold XO at e;split at e
 ·cases e
 ·split at e
  ·cases e
  ·rename_i c1 c2;have hl:(p-1).toNat<ps.length:=by omega
   intro q hq;rcases List.mem_or_eq_of_mem_set hq with hq|rfl
   ·exact hF q hq
   ·have:Xw ps p∈ps:=by
     unfold Xw;rw[Qb,WH hl]
     grind
    obtain⟨_,_,w1,w2⟩:=hF _ this;omega
def Zmd(q:Int×Int)(r:Yk):Nk (q::r)=if ¬(1<=q.1/\q.1<=10)then some ("BadHolder" : Str)else if ¬(1<=q.2/\q.2<=1000)then some ("BadWidth" : Str)else Nk r:=rfl
def OT(q:Str×Yl):imm (dD q)=true:=by
 unfold dD imm KL;rw[FS];rfl
theorem EK:∀(bk:List (Str×Yl)),KL (bk.map dD)=true
 |[]=>rfl
 |q::r=>by
  rw[Qn];unfold KL;rw[OT,EK r];rfl
def FO(q:Str×Yl):arg (dD q)=.sh (dD q):=by
 unfold arg;rw[OT]
def Za1:PD N (dD q::ds)=some (.sh<|dD q)::(ds.map (λd=>some (arg d))++List.replicate (N.length-(ds.length+1)) none):=by
 unfold PD;rw[Qn,FO];rfl
def Dh{q:Str×Yl}{i}(h:i<q.2.length):atI (.str q.1::q.2.map D.int) (1+(i:Int))=some (.int q.2[i]):=NM (by grind)
noncomputable def Kq(ps:Yk)(p w:Int):Option Str:=if p<1\/(ps.length:Int)<p then some "NoStrip" else if w<1\/(Xw ps p).2<=w then some "BadPart" else if 40<=ps.length then some "TooManyStrips" else none
noncomputable def P3(ps:Yk)(p w:Int):Yk:=ps.take (p-1).toNat++[((Xw ps p).1,w),((Xw ps p).1,(Xw ps p).2-w)]++ps.drop p.toNat
noncomputable def SO(ps:Yk)(p w:Int):List Bool:=if p<1\/(ps.length:Int)<p then[true,true,false,false]else if w<1\/(Xw ps p).2<=w then[true,false,true,false]else if 40<=ps.length then[true,false,false,true]else[]
def Zmq(ps:Yk)(p w:Int):(Kq ps p w=some ("NoStrip" : Str)/\SO ps p w=[true,true,false,false])\/(Kq ps p w=some ("BadPart" : Str)/\SO ps p w=[true,false,true,false])\/(Kq ps p w=some ("TooManyStrips" : Str)/\SO ps p w=[true,false,false,true])\/
  (Kq ps p w=none/\SO ps p w=[]/\1<=p/\p<=ps.length/\1<=w/\w<(Xw ps p).2/\ps.length<40):=by
 unfold Kq SO;by_cases c:p<1\/(ps.length:Int)<p
 ·grind
 ·grind
def FP{p}(h1:1<=p)(h2:p<=ps.length):Xw ps p∈ps:=by
 have hl:(p-1).toNat<ps.length:=by omega
 unfold Xw;rw[Qb,WH hl]
 grind
def GO{p w}(h1:1<=p):cutD (ps.map prD) none (some (p-1))++[prD ((Xw ps p).1,w),prD ((Xw ps p).1,(Xw ps p).2-w)]++cutD (ps.map prD) (some p) none=(P3 ps p w).map prD:=by
 rw[Nt,Nt,DG ps (by omega),Bg ps (by omega)];unfold P3
 grind
def Zcx{p w}(h1:1<=p)(h2:p<=ps.length):(P3 ps p w).length=ps.length+1:=by
 unfold P3
 grind
def Ze9{p w:Int}(hF:Field ps)(h1:1<=p)(h2:p<=ps.length)(h3:1<=w)(h4:w<(Xw ps p).2):Field (P3 ps p w):=by
 obtain⟨a1,a2,a3,a4⟩:=hF _ (FP h1 h2);intro q hq;rcases WV.mp hq with hq|hq
 ·rcases WV.mp hq with hq|hq
  ·exact hF q (V2 hq)
  ·grind
 ·exact hF q (J9 hq)
section
variable {K:Yj}{mg:Yn}{E:L2.St->XK}
noncomputable def MA(i:Nat)(a:PTE):PTS:=λR γ=>match γ[i]? with
 |some (some<|.own<|.lst ds)=>a γ (λs=>match s.shd with
  |some (.lst es)=>ds.length+es.length<=10000000/\R.nx (γ.set i<|some<|.own (ds++es))
  |_=>False) (R.ex γ)
 |_=>False
def Zfr(i:Nat){te a}(ha:Xj K mg E te a):Xy K mg E (Be<|tBM K "list" Li (Kz i)<|Kl te KO) (MA i a):=by
 intro H0 B H σ γ R D hB env h e;unfold MA at h;split at h
 ·rename_i ds hi;obtain⟨v,hv,b,rfl,hb0,us,hb,rb⟩:=env.slot i _ hi;refine⟨_,hv,.inl ⟨rfl,us,SqL.of hb⟩,ha H0 B H σ γ _ _ _ env h (λs u H1 h1 S1 t1=>?_) λc H' hc S'=>e.ex σ γ c H' hc (env.grow S') (Fr.grow S')⟩;have env1:=env.grow S1;split at h1
  ·rename_i es e2;obtain⟨a',vs,rfl,ha',rvs⟩:=Rp.lst_inv (t1.shd env1.same env.zm S1 e2);refine⟨b,a',us,vs,rfl,rfl,S1 _ _ hb,off_sub _ _ ha',by rw[rb.len,rvs.len];exact WU h1.1 (by decide),?_⟩;obtain⟨e2,f2⟩:=env1.mutate (es:=.lst (ds++es)) (us:=.lst (us++vs)) hi hv trivial λF H' SF hF=>⟨_,hF,Rps.mono SF (Rps.append (Rps.mono (Xx S1 λ_ _ _ z=>z) rb) rvs)⟩;exact e.nx _ _ _ h1.2 e2 ((Fr.grow S1).trans f2)
  ·grind
 ·exact h.elim
end
noncomputable def nextM(hs r:Yl):List (Yl):=(hs.filter λh=>!decide (h∈r)).map λh=>r++[h]
noncomputable def XJ(hs:Yl):Nat->List (Yl)
 | 0=>[[]]
 |k+1=>(XJ hs k).flatMap (nextM hs)
def next_mem:o∈nextM hs r↔∃h,h∈hs/\h∉r/\o=r++[h]:=by
 unfold nextM;constructor
 ·grind
 ·grind
theorem rows_mem:∀{k}{r:Yl},r∈XJ hs k↔r.length=k/\r.Nodup/\∀x∈r,x∈hs
 | 0,r=>by
  unfold XJ;constructor
  ·intro h;rw[WJ]at h;subst h;exact⟨rfl,V3,by simp⟩
  ·rintro⟨h,_⟩;rw[QN.mp h];exact WJ.mpr rfl
 |k+1,r=>by
  unfold XJ;rw[List.mem_flatMap];constructor
  ·rintro⟨p,hp,ho⟩;obtain⟨h,h1,h2,rfl⟩:=next_mem.mp ho;obtain⟨a,b,c⟩:=rows_mem.mp hp
   ·rw[Q7]
    grind
  ·rintro⟨a,b,c⟩;rcases QX r with rfl|⟨p,h,rfl⟩
   ·cases a
   ·rw[Vu]at a b c ⊢;rw[Q7]at b;obtain⟨b1,_,b3⟩:=b;refine⟨p,rows_mem.mpr ⟨by rw[WR]at a;simpa using a,b1,λx hx=>c x (Q9 _ hx)⟩,next_mem.mpr ⟨h,c h (by simp),λz=>b3 h z h (by simp) rfl,rfl⟩⟩
theorem LF:∀{a b} x y,sl a b->sl (a++x) (b++y)
 |[],_,_,_,h|_::_,[],_,_,h=>by cases h
 |a::r,b::t,x,y,h=>by
  rcases h with h|⟨e,h⟩
  ·exact .inl h
  ·exact .inr ⟨e,LF x y h⟩
theorem IU:∀r {a b:Int},a<b->sl (r++[a]) (r++[b])
 |[],_,_,h=>.inl h
 |c::r,_,_,h=>.inr ⟨rfl,IU r h⟩
theorem MR(hr:hs.Pairwise (· < ·)):∀k,(XJ hs k).Pairwise sl
 | 0=>by unfold XJ;exact List.pairwise_singleton _ _
 |k+1=>by
  unfold XJ;rw[List.pairwise_flatMap];refine⟨λr _=>?_,(MR hr k).imp λ{a b} h x hx y hy=>?_⟩
  ·unfold nextM;rw[JQ];exact(hr.filter _).imp λh=>IU r h
  ·obtain⟨_,_,_,rfl⟩:=next_mem.mp hx;obtain⟨_,_,_,rfl⟩:=next_mem.mp hy;exact LF _ _ h
def Zb4(hs r:Yl):(nextM hs r).length<=hs.length:=by
 unfold nextM
 grind
def Bw(nd:hs.Nodup):r∈XJ hs hs.length↔r.Perm hs:=by
 rw[rows_mem];constructor
 ·rintro⟨h1,h2,h3⟩;rw[List.perm_ext_iff_of_nodup h2 nd];refine λx=>⟨h3 x,λhx=>?_⟩;by_cases c:x∈r
  ·omega
  ·have:=List.Nodup.length_le_of_subset (Q3.mpr ⟨c,h2⟩) (by
    intro y hy;rcases Qa.mp hy with rfl|hy
    ·exact hx
    ·exact h3 y hy)
   grind
 ·intro h;exact⟨h.length_eq,h.nodup_iff.mpr nd,λx hx=>h.mem_iff.mp hx⟩
theorem O3:∀{a b:Yl},sl a b->¬sl b a
 |[],_,h,_|_::_,[],h,_=>by cases h
 |a::r,b::t,h,k=>by
  rcases h with h|⟨e,h⟩
  ·rcases k with k|⟨e,_⟩<;>omega
  ·rcases k with k|⟨_,k⟩
   ·omega
   ·exact O3 h k
def Fnd(pr:Yl->Int)(ok:Yl->Prop)(L:List (Yl)):Option (Yl)->Prop
 |none=>∀o∈L,¬ok o
 |some q=>q∈L/\ok q/\∀o∈L,ok o->pr q<=pr o/\(pr o=pr q->q=o\/sl q o)
def Fnd.no (h:Fnd pr ok L b) (n:¬ok o):Fnd pr ok (L++[o]) b:=by
 cases b with
 |none=>
  intro x hx;rcases WV.mp hx with hx|hx
  ·exact h x hx
  ·grind
 |some q=>
  refine⟨Q9 _ h.1,h.2.1,λx hx hk=>?_⟩;rcases WV.mp hx with hx|hx
  ·exact h.2.2 x hx hk
  ·grind
def Fnd.first (h:Fnd pr ok L none) (k:ok o):Fnd pr ok (L++[o]) (some o):=by
 refine⟨by simp,k,λx hx hk=>?_⟩;rcases WV.mp hx with hx|hx
 ·exact absurd hk (h x hx)
 ·grind
def Fnd.less {o q} (h:Fnd pr ok L (some q)) (k:ok o) (l:pr o<pr q):Fnd pr ok (L++[o]) (some o):=by
 refine⟨by simp,k,λx hx hk=>?_⟩;rcases WV.mp hx with hx|hx
 ·have:=(h.2.2 x hx hk).1
  omega
 ·grind
def Fnd.more {o q} (h:Fnd pr ok L (some q)) (l:¬pr o<pr q) (s:∀x∈L,sl x o):Fnd pr ok (L++[o]) (some q):=by
 refine⟨Q9 _ h.1,h.2.1,λx hx hk=>?_⟩;rcases WV.mp hx with hx|hx
 ·exact h.2.2 x hx hk
 ·rw[WJ]at hx;rw[hx];exact⟨by omega,λ_=>.inr (s q h.1)⟩
noncomputable def Kd(ws:Yk)(a b:Int):Option Str:=if ¬(1<=a/\a<=10)then some "BadHolder" else if ¬(1<=b/\b<=10)then some "BadHolder" else if a=b then some "LikeHolders" else if (a,b)∈ws then some "WishStands" else if 20<=ws.length then some "TooManyWishes" else none
noncomputable def Kr(ws:Yk)(a b:Int):Option Str:=if (a,b)∈ws then none else some "NoWish"
noncomputable def NO(ws:Yk)(a b:Int):Yk:=ws.filter λq=>!decide (q=(a,b))
noncomputable def Kc(ps:Yk)(p:Int):Option Str:=if p<1\/(ps.length:Int)<=p then some "NoStrip" else if ¬(Xw ps p).1=(Xw ps (p+1)).1 then some "UnlikeHolders" else if 1000<(Xw ps p).2+(Xw ps (p+1)).2 then some "TooWide" else none
noncomputable def PM(ps:Yk)(p:Int):Yk:=ps.take (p-1).toNat++[((Xw ps p).1,(Xw ps p).2+(Xw ps (p+1)).2)]++ps.drop (p+1).toNat
def EH{p}(h1:1<=p):cutD (ps.map prD) none (some (p-1))++[prD ((Xw ps p).1,(Xw ps p).2+(Xw ps (p+1)).2)]++cutD (ps.map prD) (some (p+1)) none=(PM ps p).map prD:=by
 rw[Nt,Nt,DG ps (by omega),Bg ps (by omega)];unfold PM
 grind
def Zlw{p}(h1:1<=p)(h2:p<ps.length):(PM ps p).length+1=ps.length:=by
 unfold PM
 grind
def Zdq(hF:Field ps)(e:Kc ps p=none):Field (PM ps p):=by
 unfold Kc at e;split at e
 ·grind
 split at e
 ·cases e
 split at e
 ·cases e
 obtain⟨a1,a2,a3,a4⟩:=hF _ (FP (p:=p) (by omega)<|by omega);obtain⟨b1,b2,b3,b4⟩:=hF _ (FP (p:=p+1) (by omega)<|by omega);intro q hq;rcases WV.mp hq with hq|hq
 ·rcases WV.mp hq with hq|hq
  ·exact hF q (V2 hq)
  ·grind
 ·exact hF q (J9 hq)
def Zad(h:Ta ws)(e:Kd ws a b=none):Ta (ws++[(a,b)]):=by
 unfold Kd at e;split at e
 ·cases e
 split at e
 ·cases e
 split at e
 ·cases e
 split at e
 ·cases e
 split at e
 ·cases e
 rename_i c1 c2 c3 c4 c5;obtain⟨h1,h2,h3⟩:=h;refine⟨by rw[WR,Vt];omega,?_,λq hq=>?_⟩
 ·rw[Q7];exact⟨h2,by simp,λx hx y hy z=>by rw[WJ]at hy;subst hy;exact c4 (z▸hx)⟩
 ·grind
def Zj7(h:Ta ws):Ta (NO ws a b):=
 ⟨WU (Ve _ _) h.1,h.2.1.filter _,λq hq=>h.2.2 q (Q6.mp hq).1⟩
def Zc2:Ta []:=by trivial
noncomputable def Zjf(m:Yl)(k:Int):Int:=1+(k*m.getD 1 0+m.getD 2 0) % 10
noncomputable def S9(ps:Yk)(p:Int):List Bool:=if p<1\/(ps.length:Int)<=p then[true,true,false,false]else if ¬(Xw ps p).1=(Xw ps (p+1)).1 then[true,false,true,false]else if 1000<(Xw ps p).2+(Xw ps (p+1)).2 then[true,false,false,true]else[]
def Zgm(ps:Yk)(p:Int):(Kc ps p=some ("NoStrip" : Str)/\S9 ps p=[true,true,false,false])\/(Kc ps p=some ("UnlikeHolders" : Str)/\S9 ps p=[true,false,true,false])\/(Kc ps p=some ("TooWide" : Str)/\S9 ps p=[true,false,false,true])\/
  (Kc ps p=none/\S9 ps p=[]/\1<=p/\p<ps.length):=by
 unfold Kc S9;by_cases c:p<1\/(ps.length:Int)<=p
 ·grind
 ·grind
def Zj9{p}(h1:1<=p)(h2:p<ps.length):atI (ps.map prD) p=some (prD<|Xw ps (p+1)):=by
 have:=Tz (ps:=ps) (p:=p+1) (by omega) (by omega)
 grind
noncomputable abbrev d3(k:Str)(a b:Int):D:=.tup [.str k,.int a,.int b]
end Pu
namespace Pu
open L2 Own
section
variable {K:Yj}{mg:Yn}{E:L2.St->XK}
noncomputable def HA(K:Yj):R2:=λx y H Q=>∃(p q:Addr) (xs ys:List V),x=.ref p/\y=.ref q/\SqT K H p xs/\SqT K H q ys/\xs.all KI=true/\ys.all KI=true/\Q (.bl (!eqL xs ys)) H
def Ls(hu:X.A.units<cLine)(hK:autoParam (X.K=K) au_0):OpR X (compareOp .NotEq) (HA K):=by
 subst hK;intro pins s σ H x y v u Q I rx ry h;obtain⟨p,q,xs,ys,rfl,rfl,hp,hq,f1,f2,k⟩:=h;obtain rfl:=rx;obtain rfl:=ry;obtain⟨us,r1,p1,_⟩:=I.tuple hp;obtain⟨ws,r2,p2,_⟩:=I.tuple hq;have l1:=r1.length;have l2:=r2.length;refine SeqAt.RcNeAt.tuples p1 p2 hu (λj h1 h2=>D9 r1 r2 f1 f2 j h1 h2) _ _ _ _ ⟨.bl (!eqL xs ys),H,I,?_,k⟩;show _=Value.bool (!eqL xs ys);unfold eqL;by_cases e:xs.length=ys.length
 ·grind
 ·grind
def D5:S->S->(S->Prop)->Prop:=λx y R=>∃xs ys:Yl,x.d=.tup (xs.map D.int)/\y.d=.tup (ys.map D.int)/\R (.sh<|.bl (!decide (xs=ys)))
def IG{a b}(ha:Xj K mg E ta a)(hb:Xj K mg E tb b):Xj K mg E (tOp (HA K) ta tb) (p2 a b D5):=by
 refine Pv ha hb λH0 H H2 Z x y v u R Q s0 s1 hm tx ty h q=>?_;obtain⟨xs,ys,e1,e2,hR⟩:=h;have rx:=tx.rp s0;have ry:=ty.rp s0;rw[e1]at rx;rw[e2]at ry;obtain⟨p,us,rfl,hp,r1⟩:=Rp.tup_inv rx;obtain⟨p',ws,rfl,hp',r2⟩:=Rp.tup_inv ry;rw[r1.ints]at hp;rw[r2.ints]at hp';refine⟨p,p',_,_,rfl,rfl,SqT.of hp,SqT.of hp',TL _,TL _,?_⟩;rw[Ds];exact q _ _ H2 hR (Same.refl _) (.bl _)
def LP:List S->(S->Prop)->Prop
 |[s],R=>(match s.d with | .int i=>R (.sh<|.int i) | .bl k=>R (.sh<|.int (if k then 1 else 0))|_=>False)
 |_,_=>False
def El(hr:X6 K mg E ta r):Xj K mg E (tCB (λxs H Q=>(∃i,xs=[.int i]/\Q (.int i) H)\/∃k,xs=[.bl k]/\Q (.int (if k then 1 else 0)) H) ta) (pCB LP r):=by
 refine Pt hr λH0 H H1 Z ss vs R Q s0 s1 hm tv h q=>?_;unfold LP at h;split at h
 ·rename_i s;obtain⟨v,rfl,t1⟩:=tv.one_inv;have rv:=t1.rp s0;split at h
  ·rename_i i e;rw[e]at rv;exact .inl ⟨i,by rw[rv.int_inv],q _ _ H1 h (Same.refl _) (.int _)⟩
  ·rename_i k e;rw[e]at rv;exact .inr ⟨k,by rw[rv.bl_inv],q _ _ H1 h (Same.refl _) (.int _)⟩
  ·grind
 ·exact h.elim
def Zmv(p q:Int×Int):decide ([p.1,p.2]=[q.1,q.2])=decide (p=q):=by grind
def Zkn{R}(h:R (.sh<|.bl (!decide (p=q)))):D5 (.sh<|prD p) (.sh<|prD q) R:=by
 refine⟨[p.1,p.2],[q.1,q.2],rfl,rfl,?_⟩;have e:decide ([p.1,p.2]=[q.1,q.2])=decide (p=q):=by grind
 rw[e];omega
end
structure DI (K:Yj) (x:Str) (st:Stmt):Prop where
 ex:∃f fd,PySem.W.nsIn K mainGlobals x=some (some<|.ref f)/\Fun K x x st f fd
structure MI (K:Yj) (C:Addr) (m q:Str) (st:Stmt):Prop where
 ex:∃f fd,PySem.W.findIn K (.ref C) m=some (some<|.ref f)/\PySem.W.isFn K (.ref f)=true/\Fun K m q st f fd
section
variable {K:Yj}{h:Heap}{mg:Yn}
def di{st f oc od an osl kV doc pm cdv ct}(a:PySem.W.nsIn K mainGlobals x=some (some<|.ref f))(l:K.lookup f=some ⟨oc,od,.func (PySem.W.fnOf x x (Pm st) (XQ st) (Xk st) .none kV doc pm an cdv ct),osl⟩)(c:PySem.W.codeIn K cdv x=true)(k:PySem.W.keepIn K (.ref f)=true):DI K x st:=⟨f,_,a,BU l c k⟩
def mi{st f oc od an osl kV doc pm cdv ct}(a:PySem.W.findIn K (.ref C) m=some (some<|.ref f))(i:PySem.W.isFn K (.ref f)=true)(l:K.lookup f=some ⟨oc,od,.func (PySem.W.fnOf m q (Pm st) (XQ st) (Xk st) .none kV doc pm an cdv ct),osl⟩)(c:PySem.W.codeIn K cdv q=true)(k:PySem.W.keepIn K (.ref f)=true):MI K C m q st:=⟨f,_,a,i,BU l c k⟩
def DI.d {st ps} (D:DI K x st) (X:K.In h) (G0:h.Ns mainGlobals mg)
  (b:∀kV doc pm an cdv ct us,us.length=ps.length->bindArgs (PySem.W.fnOf x x (Pm st) (XQ st) (Xk st) .none kV doc pm an cdv ct) ⟨us,[]⟩=pure (ps.zip us)):Def K mg x st ps:=
 let ⟨_,_,a,F⟩:=D.ex
 ⟨_,_,F,QF X G0 a,F.binds b⟩
def MI.d {m q st ps} (D:MI K C m q st) (e:C'=C)
  (b:∀kV doc pm an cdv ct us,us.length=ps.length->bindArgs (PySem.W.fnOf m q (Pm st) (XQ st) (Xk st) .none kV doc pm an cdv ct) ⟨us,[]⟩=pure (ps.zip us)):XA K (XF K C' m) m q st ps:=
 let ⟨_,_,a,i,F⟩:=D.ex
 ⟨_,_,F,by rw[e];exact⟨a,i,F.kp⟩,F.binds b⟩
def MI.i {q st ps} (D:MI K C "__init__" q st) (e:C'=C) (mk:PySem.W.makesIn K C=true) (kc:PySem.W.keepIn K (.ref C)=true)
  (b:∀kV doc pm an cdv ct us,us.length=ps.length->bindArgs (PySem.W.fnOf "__init__" q (Pm st) (XQ st) (Xk st) .none kV doc pm an cdv ct) ⟨us,[]⟩=pure (ps.zip us)):XA K (Mk K C') "__init__" q st ps:=
 let ⟨_,_,a,i,F⟩:=D.ex
 ⟨_,_,F,by rw[e];exact⟨mk,a,i,kc⟩,F.binds b⟩
end
def fs{N P sc}(h1:autoParam (sc.kind=.function) au_0)(h2:autoParam (sc.isCoroutine=false) au_0)(h3:autoParam (sc.isGenerator=false) au_0)(h4:autoParam (N.Nodup) au_5)(h5:autoParam (N.take P.length=P) au_0)(h6:autoParam (∀x∈P,sc.names.lookup x=some .local\/sc.names.lookup x=some .cell) au_5)(h7:autoParam (∀y∈sc.names,y.2≠.free) au_5):Xn N P sc:=⟨h1,h2,h3,h4,h5,h6,h7⟩
def pz{pos x e te pos'}(i:Nat)(hN:X.N.Nodup)(he:PE X e te)(hi:autoParam (X.N[i]?=some x) au_0)(hx:autoParam (Loc X.env.scope x) au_6)(hs:autoParam (swapsWith e (some<|.Name x pos') pos.line X.env=pure false) au_0)(hf:autoParam (X.fn x=true\/X.env.scope.names.lookup x=some .local) au_2) :
  PS X (.Assign [.Name x pos'] e pos) (N2 te<|Sm i):=Zf6 hN hi hx he hs hf
section
variable {K:Yj}{mg:Yn}{E:L2.St->XK}{H0 H H1 H':Hp}{B Z Z':Addr->Prop}{σ:L2.St}{γ:Γ}
def Xo.named (env:Xo K H0 B H σ γ) (hi:γ[i]?=some (some<|.own<|.lst ds)) (ha:σ[i]?=some (some<|.ref a)):Xo K H0 B H σ (γ.set i<|some<|.own<|.lsA a ds)/\Fr B H σ γ H σ (γ.set i<|some<|.own<|.lsA a ds):=by
 obtain⟨v,hv,b,rfl,hb0,us,hb,rb⟩:=env.slot i _ hi;rw[ha]at hv;cases hv
 have hz:∀b,zof B (γ.set i<|some<|.own<|.lsA a ds) σ b->zof B γ σ b:=λb z=>by
  rcases z with z|⟨j,fs,a',e1,e2,e3⟩
  ·exact .inl z
  ·rcases XW e1 with⟨ej,q,_⟩|⟨_,e⟩
   ·subst ej;cases q
    exact .inr ⟨j,_,a,hi,ha,e3⟩
   ·exact .inr ⟨j,fs,a',e,e2,e3⟩
 exact env.change hi ha (λ_ _ h _=>h) (λb h=>by rw[show b=a from h,hb];trivial) (λb h=>.inl h) ⟨rfl,us,hb,Rps.mono (Xx (Same.refl _) λb _ _ z y=>z (hz b y)) rb⟩
noncomputable def pNm(i:Nat)(p:PTS):PTS:=λR γ=>match γ[i]? with
 |some (some<|.own<|.lst ds)=>∀a,p R (γ.set i<|some<|.own<|.lsA a ds)
 |_=>p R γ
def Zio(i:Nat){t p}(hp:Xy K mg E t p):Xy K mg E t (pNm i p):=by
 intro H0 B H σ γ R D hB env h e;unfold pNm at h;split at h
 ·rename_i ds hi;obtain⟨v,hv,b,rfl,hb0,us,hb,rb⟩:=env.slot i _ hi;obtain⟨e1,f1⟩:=env.named hi hv;exact hp H0 B H σ _ R D hB e1 (h b) (e.from f1)
 ·exact hp H0 B H σ γ R D hB env h e
def Xo.change2 {o1 o1' o2 o2'} (E:Xo K H0 B H σ γ) (hij:i≠j) (hi:γ[i]?=some (some<|.own o1)) (hj:γ[j]?=some (some<|.own o2)) (ha1:σ[i]?=some (some<|.ref a1)) (ha2:σ[j]?=some (some<|.ref a2))
  (hH:∀b x,H b=some x->¬o1.adr a1 b->¬o2.adr a2 b->H' b=some x) (hm:∀b,o1.adr a1 b\/o2.adr a2 b->Mut (H' b)) (n1:∀b,o1'.adr a1 b->o1.adr a1 b\/H b=none) (n2:∀b,o2'.adr a2 b->o2.adr a2 b\/H b=none) (ap:∀b,o1'.adr a1 b->¬o2'.adr a2 b)
  (r1:OR K (Pu.off (zof B ((γ.set i<|some<|.own o1').set j (some<|.own o2')) σ) H') H' a1 o1') (r2:OR K (Pu.off (zof B ((γ.set i<|some<|.own o1').set j (some<|.own o2')) σ) H') H' a2 o2') :
  Xo K H0 B H' σ ((γ.set i<|some<|.own o1').set j (some<|.own o2'))/\Fr B H σ γ H' σ ((γ.set i<|some<|.own o1').set j (some<|.own o2')):=by
 generalize eg:(γ.set i<|some<|S.own o1').set j (some<|.own o2')=γ2 at r1 r2 ⊢
 have get:∀k s,γ2[k]?=some (some s)->(k=j/\s=.own o2')\/(k=i/\k≠j/\s=.own o1')\/(k≠i/\k≠j/\γ[k]?=some (some s)):=λk s h=>by
  rw[←eg]at h;rcases XW h with⟨e1,e2,_⟩|⟨e1,e2⟩
  ·exact .inl ⟨e1,(WW e2).symm⟩
  ·rcases XW e2 with⟨f1,f2,_⟩|⟨f1,f2⟩
   ·exact .inr (.inl ⟨f1,e1,(WW f2).symm⟩)
   ·exact .inr (.inr ⟨f1,e1,f2⟩)
 obtain⟨v1,q1,x1,rfl,h1,k1⟩:=E.slot i _ hi;rw[ha1]at q1;cases q1
 obtain⟨v2,q2,x2,rfl,h2,k2⟩:=E.slot j _ hj;rw[ha2]at q2;cases q2
 have za:∀b,o1.adr a1 b\/o2.adr a2 b->zof B γ σ b:=λb hb=>hb.elim (λhb=>.inr ⟨i,o1,a1,hi,ha1,hb⟩) λhb=>.inr ⟨j,o2,a2,hj,ha2,hb⟩
 have hz:∀b x,H b=some x->zof B γ2 σ b->zof B γ σ b:=λb x hx z=>by
  rcases z with z|⟨k,fs,a',e1,e2,e3⟩
  ·exact .inl z
  ·rcases get k _ e1 with⟨ek,es⟩|⟨ek,_,es⟩|⟨_,_,e⟩
   ·subst ek;cases es;rw[ha2]at e2;cases e2;rcases n2 b e3 with w|w
    ·exact za b (.inr w)
    ·rw[w]at hx;cases hx
   ·subst ek;cases es;rw[ha1]at e2;cases e2;rcases n1 b e3 with w|w
    ·exact za b (.inl w)
    ·rw[w]at hx;cases hx
   ·exact .inr ⟨k,fs,a',e,e2,e3⟩
 have hH':∀b x,H b=some x->¬(o1.adr a1 b\/o2.adr a2 b)->H' b=some x:=λb x hx n=>hH b x hx (λz=>n (.inl z)) λz=>n (.inr z)
 have S1:=λb x h=>by
  obtain⟨q1,q2⟩:=P9 h;exact XS (hH' b x q1 λk=>q2 (za b k)) λz=>q2 (hz b x q1 z)
 have old:∀(k:Nat) ds a b,γ[k]?=some (some<|.own ds)->σ[k]?=some (some<|.ref a)->ds.adr a b->∃o,H b=some o:=λk ds a b e1 e2 e3=>by
  obtain⟨u,q1,a',q2,_,q3⟩:=E.slot k _ e1;rw[e2]at q1;cases q1
  cases q2
  exact Tt (q3.mut b e3)
 have apart1:∀k ds a b,k≠i->γ[k]?=some (some<|.own ds)->σ[k]?=some (some<|.ref a)->ds.adr a b->¬o1'.adr a1 b:=λk ds a b nk e1 e2 e3 w=>by
  rcases n1 b w with w|w
  ·exact nk (E.own k i a a1 ds o1 b e1 hi e2 ha1 e3 w)
  ·obtain⟨u,hu⟩:=old k ds a b e1 e2 e3;rw[w]at hu;cases hu
 have apart2:∀k ds a b,k≠j->γ[k]?=some (some<|.own ds)->σ[k]?=some (some<|.ref a)->ds.adr a b->¬o2'.adr a2 b:=λk ds a b nk e1 e2 e3 w=>by
  rcases n2 b w with w|w
  ·exact nk (E.own k j a a2 ds o2 b e1 hj e2 ha2 e3 w)
  ·obtain⟨u,hu⟩:=old k ds a b e1 e2 e3;rw[w]at hu;cases hu
 refine⟨⟨λb x h=>?_,by rw[←eg,QK,QK];exact E.len,λb hb=>?_,λk l x x' fs fs' b e1 e2 e3 e4 e5 e6=>?_,λk s h=>?_⟩,λb x h z=>⟨?_,λy=>z (hz b x h y)⟩⟩
 ·exact hH' b x (E.same b x h) λk=>by
   rcases k with k|k
   ·rw[h1 b k]at h;cases h
   ·rw[h2 b k]at h;cases h
 ·by_cases k:o1.adr a1 b\/o2.adr a2 b
  ·exact hm b k
  ·have:=E.bm b hb
   obtain⟨x,hx⟩:=Tt this;rwa[hH' b x hx k,←hx]
 ·rcases get k _ e1 with⟨ek,es⟩|⟨ek,nk,es⟩|⟨nk,nk',e⟩<;>rcases get l _ e2 with⟨el,et⟩|⟨el,nl,et⟩|⟨nl,nl',e'⟩
  ·rw[ek,el]
  ·subst ek el;cases es;cases et;rw[ha2]at e3;cases e3;rw[ha1]at e4;cases e4;exact absurd e5 (ap b e6)
  ·subst ek;cases es;rw[ha2]at e3;cases e3;exact absurd e5 (apart2 l fs' x' b nl' e' e4 e6)
  ·subst ek el;cases es;cases et;rw[ha1]at e3;cases e3;rw[ha2]at e4;cases e4;exact absurd e6 (ap b e5)
  ·rw[ek,el]
  ·subst ek;cases es;rw[ha1]at e3;cases e3;exact absurd e5 (apart1 l fs' x' b nl e' e4 e6)
  ·subst el;cases et;rw[ha2]at e4;cases e4;exact absurd e6 (apart2 k fs x b nk' e e3 e5)
  ·subst el;cases et;rw[ha1]at e4;cases e4;exact absurd e6 (apart1 k fs x b nk e e3 e5)
  ·exact E.own k l x x' fs fs' b e e' e3 e4 e5 e6
 ·rcases get k s h with⟨ek,es⟩|⟨ek,_,es⟩|⟨nk,nk',e⟩
  ·subst ek es;exact⟨_,ha2,a2,rfl,λb hb=>(n2 b hb).elim (h2 b) λw=>E.same.free w,r2⟩
  ·subst ek es;exact⟨_,ha1,a1,rfl,λb hb=>(n1 b hb).elim (h1 b) λw=>E.same.free w,r1⟩
  ·obtain⟨v,q1,q2⟩:=E.slot k s e;refine⟨v,q1,?_⟩;cases s with
   |sh d=>exact Rp.mono S1 q2
   |own fs=>
    obtain⟨x,rfl,e3,e4⟩:=q2;exact⟨x,rfl,e3,e4.mono S1 λb hb y e2=>hH b y e2 (λw=>nk (E.own k i x a1 fs o1 b e hi q1 ha1 hb w)) λw=>nk' (E.own k j x a2 fs o2 b e hj q1 ha2 hb w)⟩
   |_=>exact q2
 ·exact hH' b x h λk=>z (za b k)
abbrev Pw2:=O->O->List S->(O->O->D->Prop)->(O->O->Str->Prop)->Prop
def two(o1 o2:O)(a1 a2:Addr):Addr->Prop:=λb=>o1.adr a1 b\/o2.adr a2 b
structure F4 (K:Yj) (B:Addr->Prop) (H:Hp) (a1 a2:Addr) (o1 o2 o1' o2':O) (H':Hp):Prop where
 same:Same (off (two o1 o2 a1 a2) H) H'
 old1:∀b,o1.adr a1 b->o1'.adr a1 b
 old2:∀b,o2.adr a2 b->o2'.adr a2 b
 new1:∀b,o1'.adr a1 b->o1.adr a1 b\/H b=none
 new2:∀b,o2'.adr a2 b->o2.adr a2 b\/H b=none
 apart:∀b,o1'.adr a1 b->¬o2'.adr a2 b
 at1:OR K (off (λb=>B b\/two o1' o2' a1 a2 b) H') H' a1 o1'
 at2:OR K (off (λb=>B b\/two o1' o2' a1 a2 b) H') H' a2 o2'
noncomputable def Nz(mg:Yn)(c:Pw2)(K:Yj):Sp:=λvs H Q E=>∃(o1 o2:O) (a1 a2:Addr) (ss:List S) (us:List V) (B:Addr->Prop) (R:O->O->D->Prop) (X:O->O->Str->Prop),
 vs=.ref a1 :: .ref a2::us/\(∀b,B b->Mut (H b)/\¬two o1 o2 a1 a2 b)/\(∀b,o1.adr a1 b->¬o2.adr a2 b)/\OR K (off (λb=>B b\/two o1 o2 a1 a2 b) H) H a1 o1/\OR K (off (λb=>B b\/two o1 o2 a1 a2 b) H) H a2 o2/\
 TVs K (λb=>B b\/two o1 o2 a1 a2 b) (off (two o1 o2 a1 a2) H) H H ss us/\(∀s∈ss,s.flat)/\c o1 o2 ss R X/\
 (∀o1' o2' d v H',R o1' o2' d->F4 K B H a1 a2 o1 o2 o1' o2' H'->Rp K (off (λb=>B b\/two o1' o2' a1 a2 b) H') d v->Q v H')/\∀o1' o2' e H',X o1' o2' e->F4 K B H a1 a2 o1 o2 o1' o2' H'->XE mg E e H'
noncomputable def Td(N:Ys)(o1 o2:O)(ss:List S):Γ:=some (.own o1)::some (.own o2)::(ss.map some++List.replicate (N.length-(ss.length+2)) none)
def Zku{o1 o2 a1 a2 ss us}(hB:∀b,B b->Mut (H b)/\¬two o1 o2 a1 a2 b)(ap:∀b,o1.adr a1 b->¬o2.adr a2 b)(ho1:OR K (off (λb=>B b\/two o1 o2 a1 a2 b) H) H a1 o1)(ho2:OR K (off (λb=>B b\/two o1 o2 a1 a2 b) H) H a2 o2)(r:TVs K (λb=>B b\/two o1 o2 a1 a2 b) (off (two o1 o2 a1 a2) H) H H ss us)(hf:∀s∈ss,s.flat)(hn:ss.length+2<=N.length) :
  Xo K (off (two o1 o2 a1 a2) H) B H (start N (.ref a1 :: .ref a2::us)) (Td N o1 o2 ss):=by
 have get:∀i s,(Td N o1 o2 ss)[i+2]?=some (some s)->ss[i]?=some s:=λi s h=>by
  unfold Td at h;rw[QI,QI]at h;by_cases hi:i<ss.length
  ·rw[Qs (by rw[WG];exact hi),WS,WH hi]at h;rw[WH hi];exact Q2 some (WW<|WW h)
  ·rw[Q1 (by rw[WG];omega),VA]at h;split at h<;>cases h
 have noown:∀i es,(Td N o1 o2 ss)[i+2]?≠some (some<|.own es):=λi es h=>hf _ (Qg<|get i _ h)
 have st0:(start N (V.ref a1::V.ref a2::us))[0]?=some (some<|.ref a1):=by
  unfold L2.start;rfl
 have st1:(start N (V.ref a1::V.ref a2::us))[1]?=some (some<|.ref a2):=by
  unfold L2.start;rfl
 have g0:∀s,(Td N o1 o2 ss)[0]?=some (some s)->s=.own o1:=λs h=>by
  have h:some (some<|S.own o1)=some (some s):=h;cases h
  rfl
 have g1:∀s,(Td N o1 o2 ss)[1]?=some (some s)->s=.own o2:=λs h=>by
  have h:some (some<|S.own o2)=some (some s):=h;cases h
  rfl
 have hz:∀b,zof B (Td N o1 o2 ss) (start N (V.ref a1::V.ref a2::us)) b->B b\/two o1 o2 a1 a2 b:=λb z=>by
  rcases z with z|⟨i,es,a',h1,h2,h3⟩
  ·exact .inl z
  ·match i,h1,h2 with
   | 0,h1,h2=>
    rw[st0]at h2;cases h2
    cases g0 _ h1
    exact .inr (.inl h3)
   | 1,h1,h2=>
    rw[st1]at h2;cases h2
    cases g1 _ h1
    exact .inr (.inr h3)
   |i+2,h1,_=>exact absurd h1 (noown i es)
 have toz:∀{o:O} {a:Addr},OR K (off (λb=>B b\/two o1 o2 a1 a2 b) H) H a o->OR K (off (zof B (Td N o1 o2 ss)<|start N (V.ref a1::V.ref a2::us)) H) H a o:=λh=>h.mono (Xx (Same.refl _) λb _ _ z y=>z (hz b y)) λ_ _ _ q=>q;refine⟨off_sub,?_,λb h=>(hB b h).1,λi j x x' es es' b h1 h2 h3 h4 h5 h6=>?_,λi s h=>?_⟩
 ·unfold L2.start Td;simp[r.len]
 ·match i,j,h1,h2,h3,h4 with
  | 0,0,_,_,_,_=>rfl
  | 1,1,_,_,_,_=>rfl
  | 0,1,h1,h2,h3,h4=>
   cases g0 _ h1
   cases g1 _ h2
   rw[st0]at h3;cases h3
   rw[st1]at h4;cases h4
   exact absurd h6 (ap b h5)
  | 1,0,h1,h2,h3,h4=>
   cases g1 _ h1
   cases g0 _ h2
   rw[st1]at h3;cases h3
   rw[st0]at h4;cases h4
   exact absurd h5 (ap b h6)
  |i+2,_,h1,_,_,_=>exact absurd h1 (noown i es)
  | 0,j+2,_,h2,_,_=>exact absurd h2 (noown j es')
  | 1,j+2,_,h2,_,_=>exact absurd h2 (noown j es')
 ·match i,h with
  | 0,h=>
   cases g0 _ h
   refine⟨_,st0,a1,rfl,λb hb=>?_,toz ho1⟩;unfold off;rw[WO (.inl hb)]
  | 1,h=>
   cases g1 _ h
   refine⟨_,st1,a2,rfl,λb hb=>?_,toz ho2⟩;unfold off;rw[WO (.inr hb)]
  |i+2,h=>
   have hs:=get i s h;obtain⟨v,hv,tv⟩:=r.get hs;refine⟨v,?_,?_⟩
   ·unfold L2.start;rw[Qs (by rw[WG,Qi,Qi];have:=(WZ.mp hv).1;omega),WS,QI,QI,hv];rfl
   ·have:=hf s (Qg hs)
    cases s with
    |bor d=>exact tv
    |sh d=>exact Rp.mono (Xx (Same.refl _) λb _ _ z y=>z (hz b y)) tv
    |own _=>exact this.elim
    |view _=>exact this.elim
    |tmp _=>exact this.elim
def IS(o1 o2:O)(R:O->O->D->Prop)(γ:Γ)(d:D):Prop:=∃o1' o2',γ[0]?=some (some<|.own o1')/\γ[1]?=some (some<|.own o2')/\o1.from o1'/\o2.from o2'/\R o1' o2' d
def Zps(o1 o2:O)(X:O->O->Str->Prop)(γ:Γ)(e:Str):Prop:=∃o1' o2',γ[0]?=some (some<|.own o1')/\γ[1]?=some (some<|.own o2')/\o1.from o1'/\o2.from o2'/\X o1' o2' e
noncomputable def O9(o1 o2:O)(R:O->O->D->Prop)(X:O->O->Str->Prop):PP:={nx:=λγ=>IS o1 o2 R γ .non,rt:=λ_=>False,ex:=Zps o1 o2 X,rv:=IS o1 o2 R}
def Ab{o1 o2 o1' o2'}{σ'}{γ'}(ho1:OR K (off (λb=>B b\/two o1 o2 a1 a2 b) H) H a1 o1)(ho2:OR K (off (λb=>B b\/two o1 o2 a1 a2 b) H) H a2 o2)(e:Xo K (off (two o1 o2 a1 a2) H) B H' σ' γ')(h1:γ'[0]?=some (some<|.own o1'))(h2:γ'[1]?=some (some<|.own o2'))(k1:o1.from o1')(k2:o2.from o2') :
  F4 K B H a1 a2 o1 o2 o1' o2' H'/\∀b,B b\/two o1' o2' a1 a2 b->zof B γ' σ' b:=by
 obtain⟨v1,s1,x1,rfl,p1,q1⟩:=e.slot 0 _ h1;obtain rfl:=O.from_at k1 ho1 q1;obtain⟨v2,s2,x2,rfl,p2,q2⟩:=e.slot 1 _ h2;obtain rfl:=O.from_at k2 ho2 q2
 have hz:∀b,B b\/two o1' o2' x1 x2 b->zof B γ' σ' b:=λb z=>by
  rcases z with z|z|z
  ·exact .inl z
  ·exact .inr ⟨0,o1',x1,h1,s1,z⟩
  ·exact .inr ⟨1,o2',x2,h2,s2,z⟩
 have ap:∀b,o1'.adr x1 b->¬o2'.adr x2 b:=λb z y=>absurd (e.own 0 1 x1 x2 o1' o2' b h1 h2 s1 s2 z y) (by decide);have fromZ:∀{o:O} {a:Addr},OR K (off (zof B γ' σ') H') H' a o->OR K (off (λb=>B b\/two o1' o2' x1 x2 b) H') H' a o:=λh=>h.mono (Xx (Same.refl _) λb _ _ z y=>z (hz b y)) λ_ _ _ q=>q
 have free:∀b,off (two o1 o2 x1 x2) H b=none->two o1 o2 x1 x2 b\/H b=none:=λb w=>by
  unfold off at w;by_cases q:two o1 o2 x1 x2 b
  ·exact .inl q
  ·rw[WN q]at w;exact .inr w
 refine⟨⟨e.same,O.from_adr k1,O.from_adr k2,λb hb=>?_,λb hb=>?_,ap,fromZ q1,fromZ q2⟩,hz⟩
 ·rcases free b (p1 b hb)with(w|w)|w
  ·exact .inl w
  ·exact absurd (O.from_adr k2 b w) (ap b hb)
  ·exact .inr w
 ·rcases free b (p2 b hb)with(w|w)|w
  ·exact absurd hb (ap b<|O.from_adr k1 b w)
  ·exact .inl w
  ·exact .inr w
def Zo2{t p vs Q Ec n}(h:Nz mg c K vs H Q Ec)(snd:Xy K mg (λ_=>Ec) t p)(hn:n+2<=N.length)(hp:∀o1 o2 ss R X,c o1 o2 ss R X->ss.length=n/\p (O9 o1 o2 R X) (Td N o1 o2 ss)):t {nx:=λ_ H'=>Q .non H',rt:=Q} (start N vs) H:=by
 obtain⟨o1,o2,a1,a2,ss,us,B,R,X,rfl,hB,ap,ho1,ho2,r,hf,hc,hQ,hX⟩:=h;obtain⟨e,hp⟩:=hp o1 o2 ss R X hc;refine snd _ B H _ _ _ _ (λb z=>?_) (Zku hB ap ho1 ho2 r hf<|by rw[e];exact hn) hp ⟨λσ' γ' H' h1 e1 f1=>?_,λ_ _ _ z=>z.elim,λσ' γ' c H' h1 e1 f1=>?_,λ_ _ _ z=>z.elim,λ_ _ _ z=>z.elim,λσ' γ' d v H' h1 e1 f1 rd=>?_⟩
 ·obtain⟨q1,q2⟩:=hB b z;obtain⟨x,hx⟩:=Tt q1;exact⟨x,XS hx q2⟩
 ·obtain⟨o1',o2',q1,q2,q3,q4,q5⟩:=h1;exact hQ o1' o2' .non .non H' q5 (Ab ho1 ho2 e1 q1 q2 q3 q4).1 .non
 ·obtain⟨o1',o2',q1,q2,q3,q4,q5⟩:=h1;exact hX o1' o2' c H' q5 (Ab ho1 ho2 e1 q1 q2 q3 q4).1
 ·obtain⟨o1',o2',q1,q2,q3,q4,q5⟩:=h1;obtain⟨k1,k2⟩:=Ab ho1 ho2 e1 q1 q2 q3 q4;exact hQ o1' o2' d v H' q5 k1 (Rp.mono (Xx (Same.refl _) λb _ _ z y=>z (k2 b y)) rd)
def Zav(h:Nz mg c K vs H Q Ec)(hn:∀o1 o2 ss R X,c o1 o2 ss R X->ss.length=n):vs.length=n+2:=by
 obtain⟨o1,o2,a1,a2,ss,us,B,R,X,rfl,_,_,_,_,r,_,hc,_⟩:=h;rw[Qi,Qi,r.len,hn o1 o2 ss R X hc]
def Zg0{i j}{o1 o2}{a1 a2}{ss ss'}{us}{R:Γ->D->Prop}{X:Γ->Str->Prop}{Q}{Ec}(env:Xo K H0 B H σ γ)(hB:∀b,B b->∃o,H0 b=some o)(S1:Same H H1)(hij:i≠j)(hi:γ[i]?=some (some<|.own o1))(hj:γ[j]?=some (some<|.own o2))(ha1:σ[i]?=some (some<|.ref a1))(ha2:σ[j]?=some (some<|.ref a2))(t1:TVs K (zof B γ σ) H0 H H1 ss us)(hp:passes ss=some ss')(hc:c o1 o2 ss' (λo1' o2' d=>R ((γ.set i<|some<|.own o1').set j (some<|.own o2')) d) (λo1' o2' e=>X ((γ.set i<|some<|.own o1').set j (some<|.own o2')) e))(q:∀γ' d v H',R γ' d->Xo K H0 B H' σ γ'->Fr B H σ γ H' σ γ'->Rp K (off (zof B γ' σ) H') d v->Q v H')(qx:∀γ' c H',X γ' c->Xo K H0 B H' σ γ'->Fr B H σ γ H' σ γ'->XE mg Ec c H'):Nz mg c K (.ref a1 :: .ref a2::us) H1 Q Ec:=by
 have env1:=env.grow S1;obtain⟨v1,h1,x1,e1,h3,h4⟩:=env1.slot i _ hi;rw[ha1]at h1;cases h1
 cases e1
 obtain⟨v2,h2,x2,e2,h5,h6⟩:=env1.slot j _ hj;rw[ha2]at h2;cases h2
 cases e2
 have za:∀b,two o1 o2 a1 a2 b->zof B γ σ b:=λb hb=>hb.elim (λhb=>.inr ⟨i,o1,a1,hi,ha1,hb⟩) λhb=>.inr ⟨j,o2,a2,hj,ha2,hb⟩;have h0:∀b,two o1 o2 a1 a2 b->H0 b=none:=λb hb=>hb.elim (h3 b) (h5 b);have down:∀{o:O} {a:Addr},OR K (off (zof B γ σ) H1) H1 a o->OR K (off (λb=>(zof B γ σ b/\¬two o1 o2 a1 a2 b)\/two o1 o2 a1 a2 b) H1) H1 a o:=λh=>h.mono (Xx (Same.refl _) λb _ _ z y=>z (y.elim (λy=>y.1)<|za b)) λ_ _ _ q=>q
 have aft:∀o1' o2' H',F4 K (λb=>zof B γ σ b/\¬two o1 o2 a1 a2 b) H1 a1 a2 o1 o2 o1' o2' H'->Xo K H0 B H' σ ((γ.set i<|some<|.own o1').set j (some<|.own o2'))/\Fr B H σ γ H' σ ((γ.set i<|some<|.own o1').set j (some<|.own o2'))/\∀b x,H' b=some x->¬((zof B γ σ b/\¬two o1 o2 a1 a2 b)\/two o1' o2' a1 a2 b)->¬zof B ((γ.set i<|some<|.own o1').set j (some<|.own o2')) σ b:=λo1' o2' H' A=>by
  have hzz:∀b x,H' b=some x->¬((zof B γ σ b/\¬two o1 o2 a1 a2 b)\/two o1' o2' a1 a2 b)->¬zof B ((γ.set i<|some<|.own o1').set j (some<|.own o2')) σ b:=λb x _ n z=>by
   rcases z with z|⟨k,fs,a',e1,e2,e3⟩
   ·refine n (.inl ⟨.inl z,λw=>?_⟩);obtain⟨u,hu⟩:=hB b z;rw[h0 b w]at hu;cases hu
   ·rcases XW e1 with⟨ek,q,_⟩|⟨nk,q⟩
    ·subst ek;cases q
     rw[ha2]at e2;cases e2
     exact n (.inr<|.inr e3)
    ·rcases XW q with⟨ek,q',_⟩|⟨nk',q'⟩
     ·subst ek;cases q'
      rw[ha1]at e2;cases e2
      exact n (.inr<|.inl e3)
     ·refine n (.inl ⟨.inr ⟨k,fs,a',q',e2,e3⟩,λw=>?_⟩);rcases w with w|w
      ·exact nk' (env.own k i a' a1 fs o1 b q' hi e2 ha1 e3 w)
      ·exact nk (env.own k j a' a2 fs o2 b q' hj e2 ha2 e3 w)
  have up:∀{o:O} {a:Addr},OR K (off (λb=>(zof B γ σ b/\¬two o1 o2 a1 a2 b)\/two o1' o2' a1 a2 b) H') H' a o->OR K (off (zof B ((γ.set i<|some<|.own o1').set j (some<|.own o2')) σ) H') H' a o:=λh=>h.mono (Xx (Same.refl _) λb x hx z=>hzz b x hx z) λ_ _ _ q=>q;obtain⟨k1,k2⟩:=env1.change2 hij hi hj ha1 ha2 (λb x hx n1 n2=>A.same b x (XS hx λw=>w.elim n1 n2)) (λb hb=>hb.elim (λhb=>A.at1.mut b (A.old1 b hb)) λhb=>A.at2.mut b (A.old2 b hb)) A.new1 A.new2 A.apart (up A.at1) (up A.at2);exact⟨k1,(Fr.grow S1).trans k2,hzz⟩
 refine⟨o1,o2,a1,a2,ss',us,λb=>zof B γ σ b/\¬two o1 o2 a1 a2 b,_,_,rfl,λb hb=>⟨env1.zm b hb.1,hb.2⟩,(λb z y=>hij (env.own i j a1 a2 o1 o2 b hi hj ha1 ha2 z y)),down h4,down h6,?_,Bk hp,hc,λo1' o2' d v H' hR A rd=>?_,λo1' o2' e H' hX A=>?_⟩
 ·refine t1.pass env1.same env.zm S1 (λb x hx=>XS (env1.same b x hx) λw=>?_) (Xx (Same.refl _) λb _ _ z y=>z (y.elim (λy=>y.1)<|za b)) hp;rw[h0 b w]at hx;cases hx
 ·obtain⟨k1,k2,k3⟩:=aft o1' o2' H' A;exact q _ d v H' hR k1 k2 (Rp.mono (λb x h=>let ⟨p1,p2⟩:=P9 h;XS p1 (k3 b x p1 p2)) rd)
 ·obtain⟨k1,k2,_⟩:=aft o1' o2' H' A;exact qx _ e H' hX k1 k2
noncomputable def Zp2(i j:Nat)(c:Pw2)(r:PTA):PTW:=λγ R X=>match γ[i]?,γ[j]? with
 |some (some<|.own o1),some (some<|.own o2)=>r γ (λss=>match passes ss with|some ss'=>c o1 o2 ss' (λo1' o2' d=>R ((γ.set i<|some<|.own o1').set j (some<|.own o2')) d) (λo1' o2' e=>X ((γ.set i<|some<|.own o1').set j (some<|.own o2')) e)|none=>False) (X γ)
 |_,_=>False
noncomputable def Mv(i j:Nat)(c:Pw2)(r:PTA):PTW:=λγ R X=>match γ[i]?,γ[j]? with
 |some (some<|.own o1),some (some<|.own o2)=>r γ (λss=>match passes ss with|some ss'=>c o1 o2 ss' (λo1' o2' d=>R ((γ.set i<|some<|.own o1').set j (some<|.own o2')) d) (λ_ _ _=>False)|none=>False) (X γ)
 |_,_=>False
def Mj(i j:Nat)(hij:i≠j){c ta r}(hr:X6 K mg E ta r):PK K mg E (TK (Nz mg c K) [] E0<|Kl (Kz i)<|Kl (Kz j) ta) (Mv i j c r):=by
 intro H0 B H σ γ R X Q hB env h q qx;unfold Mv at h;split at h
 ·rename_i o1 o2 hi hj;obtain⟨v1,hv1,a1,rfl,_,_⟩:=env.slot i _ hi;obtain⟨v2,hv2,a2,rfl,_,_⟩:=env.slot j _ hj;refine⟨_,hv1,_,hv2,hr H0 B H σ γ _ _ _ env h (λss us H1 h1 S1 t1=>?_) λc H' hc S'=>qx γ c H' hc (env.grow S') (Fr.grow S')⟩;show Nz mg c K ((V.ref a1::V.ref a2::us)++[]) H1 Q E0;rw[QB];split at h1
  ·rename_i ss' ep;exact Zg0 (X:=λ_ _=>False) env hB S1 hij hi hj hv1 hv2 t1 ep h1 q λ_ _ _ z=>z.elim
  ·grind
 ·grind
abbrev PTV:=Γ->(Γ->Bool->Prop)->(Γ->Str->Prop)->Prop
def Fg(K:Yj)(mg:Yn)(E:L2.St->XK)(t:TT)(p:PTV):Prop:=∀(H0:Hp) (B:Addr->Prop) (H:Hp) (σ:L2.St) (γ:Γ) (R:Γ->Bool->Prop) (X:Γ->Str->Prop) (Q:Bool->Hp->Prop),(∀b,B b->∃o,H0 b=some o)->Xo K H0 B H σ γ->p γ R X->
 (∀γ' b H',R γ' b->Xo K H0 B H' σ γ'->Fr B H σ γ H' σ γ'->Q b H')->(∀γ' c H',X γ' c->Xo K H0 B H' σ γ'->Fr B H σ γ H' σ γ'->XE mg (E σ) c H')->t σ H Q
noncomputable def pVW(w:PTW):PTV:=λγ R X=>w γ (λγ' d=>match d with | .bl c=>R γ' c|_=>False) X
def Ma(hw:PK K mg E te w):Fg K mg E (AA K te) (pVW w):=by
 intro H0 B H σ γ R X Q hB env h q qx;refine hw H0 B H σ γ _ _ _ hB env h (λγ' d v H' h1 e1 f1 rd=>?_) qx;split at h1
 ·rw[rd.bl_inv];exact⟨_,rfl,q _ _ _ h1 e1 f1⟩
 ·grind
noncomputable def RO(p:PTV):PTV:=λγ R X=>p γ (λγ' b=>R γ' (!b)) X
def Re(hp:Fg K mg E t p):Fg K mg E (DT t) (RO p):=by
 intro H0 B H σ γ R X Q hB env h q qx;exact hp H0 B H σ γ _ _ _ hB env h (λγ' b H' h1 e1 f1=>q γ' (!b) H' h1 e1 f1) qx
noncomputable def Zcl(c:PTV)(p q:PTS):PTS:=λR γ=>c γ (λγ' b=>if b=true then p R γ' else q R γ') R.ex
def Rc{p q}(hc:Fg K mg E tt c)(hp:Xy K mg E t p)(hq:Xy K mg E u q):Xy K mg E (AL tt t u) (Zcl c p q):=by
 intro H0 B H σ γ R D hB env h e;refine hc H0 B H σ γ _ _ _ hB env h (λγ' b H' h1 e1 f1=>?_) λγ' c H' h1 e1 f1=>e.ex _ _ _ _ h1 e1 f1;cases b with
 |true=>
  exact hp H0 B H' σ γ' R D hB e1 (by grind) (e.from f1)
 |false=>
  exact hq H0 B H' σ γ' R D hB e1 (by grind) (e.from f1)
noncomputable def IB(i:Nat):PTW:=λγ R _=>match γ[i]? with
 |some (some<|.own<|.lsA x ds)=>∃d,ds[ds.length-1]?=some d/\R (γ.set i<|some<|.own<|.lsA x ds.dropLast) d
 |some (some<|.own<|.lst ds)=>∃d,ds[ds.length-1]?=some d/\R (γ.set i<|some<|.own<|.lst ds.dropLast) d
 |_=>False
def Zfo(i:Nat):PK K mg E (Bh K "list" DB<|Kz i) (IB i):=by
 intro H0 B H σ γ R X Q hB env h q qx;unfold IB at h;split at h
 ·rename_i x ds hi;obtain⟨d,ed,h⟩:=h;obtain⟨v,hv,b,rfl,hb0,rfl,us,hb,rb⟩:=env.slot i _ hi;obtain⟨u,hu,ru⟩:=rb.get ed;refine⟨_,hv,.inl ⟨rfl,us,SqL.of hb⟩,b,us,u,rfl,rfl,hb,by rw[rb.len];exact hu,?_⟩;obtain⟨e2,f2⟩:=env.mutate (es:=.lsA b ds.dropLast) (us:=.lst us.dropLast) hi hv trivial λF H' SF hF=>⟨rfl,_,hF,Rps.mono SF (Rps.dropLast rb)⟩;exact q _ _ _ _ h e2 f2 (Rp.mono f2.off ru)
 ·rename_i ds hi;obtain⟨d,ed,h⟩:=h;obtain⟨v,hv,b,rfl,hb0,us,hb,rb⟩:=env.slot i _ hi;obtain⟨u,hu,ru⟩:=rb.get ed;refine⟨_,hv,.inl ⟨rfl,us,SqL.of hb⟩,b,us,u,rfl,rfl,hb,by rw[rb.len];exact hu,?_⟩;obtain⟨e2,f2⟩:=env.mutate (es:=.lst ds.dropLast) (us:=.lst us.dropLast) hi hv trivial λF H' SF hF=>⟨_,hF,Rps.mono SF (Rps.dropLast rb)⟩;exact q _ _ _ _ h e2 f2 (Rp.mono f2.off ru)
 ·grind
abbrev Pq:=List S->(S->Prop)->(Str->Prop)->Prop
noncomputable def spS(mg:Yn)(c:Pq)(K:Yj):Sp:=λvs H Q E=>∃(ss:List S) (B:Addr->Prop) (R:S->Prop) (X:Str->Prop),(∀b,B b->Mut (H b))/\TVs K B H H H ss vs/\(∀s∈ss,s.flat)/\c ss R X/\
 (∀s v H',R s->Same H H'->TV K B H H H' s v->Q v H')/\∀e H',X e->Same H H'->XE mg E e H'
noncomputable def Nh(N:Ys)(ss:List S):Γ:=ss.map some++List.replicate (N.length-ss.length) none
def Zm9{ss us}(hB:∀b,B b->Mut (H b))(r:TVs K B H H H ss us)(hf:∀s∈ss,s.flat)(hn:ss.length<=N.length):Xo K H B H (start N us) (Nh N ss):=by
 have get:∀i s,(Nh N ss)[i]?=some (some s)->ss[i]?=some s:=λi s h=>by
  unfold Nh at h;by_cases hi:i<ss.length
  ·rw[Qs (by rw[WG];exact hi),WS,WH hi]at h;rw[WH hi];exact Q2 some (WW<|WW h)
  ·grind
 have noown:∀(i:Nat) es,(Nh N ss)[i]?≠some (some<|.own es):=λi es h=>hf _ (Qg<|get i _ h)
 have hz:∀b,zof B (Nh N ss) (start N us) b->B b:=λb z=>by
  rcases z with z|⟨i,es,a',h1,h2,h3⟩
  ·exact z
  ·exact absurd h1 (noown i es)
 refine⟨Same.refl _,?_,hB,λi j x x' es es' b h1 _ _ _ _ _=>absurd h1 (noown i es),λi s h=>?_⟩
 ·unfold L2.start Nh;simp[r.len]
 ·have hs:=get i s h;obtain⟨v,hv,tv⟩:=r.get hs;refine⟨v,?_,?_⟩
  ·unfold L2.start;rw[Qs (by rw[WG];exact(WZ.mp hv).1),WS,hv];rfl
  ·have:=hf s (Qg hs)
   cases s with
   |bor d=>exact tv
   |sh d=>exact Rp.mono (Xx (Same.refl _) λb _ _ z y=>z (hz b y)) tv
   |_=>exact this.elim
def Zns{t p vs Q Ec n}(h:spS mg c K vs H Q Ec)(snd:Xy K mg (λ_=>Ec) t p)(hn:n<=N.length)(hp:∀ss R X,c ss R X->ss.length=n/\p {nx:=λ_=>R (.sh .non),rt:=R,ex:=λ_ e=>X e} (Nh N ss)):t {nx:=λ_ H'=>Q .non H',rt:=Q} (start N vs) H:=by
 obtain⟨ss,B,R,X,hB,r,hf,hc,hQ,hX⟩:=h;obtain⟨e,hp⟩:=hp ss R X hc;exact snd H B H _ _ _ _ (λb z=>Tt (hB b z)) (Zm9 hB r hf<|by omega) hp ⟨λσ' γ' H' h1 e1 f1=>hQ _ _ H' h1 e1.same .non,λs v H' h1 S1 tv=>hQ s v H' h1 S1 tv,λσ' γ' c H' h1 e1 f1=>hX c H' h1 e1.same,λ_ _ _ z=>z.elim,λ_ _ _ z=>z.elim,λ_ _ _ _ _ z=>z.elim⟩
def Ro(h:spS mg c K vs H Q Ec)(hn:∀ss R X,c ss R X->ss.length=n):vs.length=n:=by
 obtain⟨ss,B,R,X,_,r,_,hc,_⟩:=h;rw[r.len]
 grind
def TV.backS (env:Xo K H0 B H1 σ γ) (S1:Same H H1) (S2:Same H1 H') (h:TV K (zof B γ σ) H1 H1 H' s v):TV K (zof B γ σ) H0 H H' s.back v:=by
 cases s with
 |bor d=>exact PU (λb z=>PZ S2 (env.zm b z)) (Rp.mono S2 h)
 |own ds=>
  obtain⟨a,rfl,e0,r⟩:=h;exact⟨a,rfl,(λb hb=>S1.free (e0 b hb)),r⟩
 |view ds=>
  obtain⟨a,rfl,r⟩:=h;exact r.rp off_sub
 |_=>exact h
def TV.passS {v} (env:Xo K H0 B H1 σ γ) (hm:∀b,zof B γ σ b->Mut (H b)) (S1:Same H H1) (h:TV K (zof B γ σ) H0 H H1 s v) (e:s.pass=some s'):TV K (zof B γ σ) H1 H1 H1 s' v:=by
 have shd:∀d,s.shd=some d->Rp K (off (zof B γ σ) H1) d v:=λd ed=>h.shd env.same hm S1 ed;cases s with
 |view o=>cases e
 |tmp d=>
  unfold S.pass at e;cases q:imm d with
  |false=>simp_all
  |true=>simp[q]at e;subst e;exact shd d (by unfold S.shd;simp[q])
 |bor d=>
  unfold S.pass at e;cases q:imm d with
  |false=>simp[q]at e;subst e;exact Rp.mono env.same h
  |true=>simp[q]at e;subst e;exact shd d (by unfold S.shd;simp[q])
 |_=>cases e;exact shd _ rfl
theorem TVs.passS (env:Xo K H0 B H1 σ γ) (hm:∀b,zof B γ σ b->Mut (H b)) (S1:Same H H1):∀{ss ss'}{vs:List V},TVs K (zof B γ σ) H0 H H1 ss vs->passes ss=some ss'->TVs K (zof B γ σ) H1 H1 H1 ss' vs
 |_,_,_,.nil,e=>by cases e;exact .nil
 |_,_,_,.cons h r,e=>by
  unfold passes at e;split at e
  ·rename_i s1 r1 e1 e2;cases e
   exact .cons (h.passS env hm S1 e1) (TVs.passS env hm S1 r e2)
  ·grind
noncomputable def Zcq(c:Pq)(r:PTA):PTE:=λγ R X=>r γ (λss=>match passes ss with|some ss'=>c ss' (λs=>R s.back) (λ_=>False)|none=>False) X
def SA{ta r}(hr:X6 K mg E ta r):Xj K mg E (TK (spS mg c K) [] E0 ta) (Zcq c r):=by
 intro H0 B H σ γ R X Q env p q qx;refine hr H0 B H σ γ _ X _ env p (λss vs H1 h1 S1 t1=>?_) qx;rw[QB];have env1:=env.grow S1;split at h1
 ·rename_i ss' ep;exact⟨ss',zof B γ σ,_,_,env1.zm,t1.passS env1 env.zm S1 ep,Bk ep,h1,λs v H' hs S2 tv=>q _ _ H' hs (S1.trans S2) (tv.backS env1 S1 S2),λ_ _ z=>z.elim⟩
 ·grind
noncomputable def Zp5(a:PTE)(l u:PTO):PTE:=λγ R X=>a γ (λs=>l γ (λlo=>u γ (λhi=>match s.d with | .lst ds=>R (.tmp<|.lst<|cutD ds lo hi)|_=>False) X) X) X
noncomputable def Zkz(a:PTE)(l u:PTO):PTI:=λγ R X=>a γ (λs=>l γ (λlo=>u γ (λhi=>match s with
 | .bor d=>(match d.strip with | .lst ds=>R (cutD ds lo hi).length (λi=>arg ((cutD ds lo hi).getD i .non))|_=>False)
 |_=>False) X) X) X
def Zdn{a l u}(ha:Xj K mg E te a)(hl:Tx K mg E tl l)(hu:Tx K mg E th u):NQ K mg E (SC K<|tSl (SY K) te tl th) (Zkz a l u):=by
 intro H0 B H σ γ R X Q env p q qx;refine ha H0 B H σ γ _ X _ env p (λx v H1 h1 S1 t1=>?_) qx;refine hl H0 B H1 σ γ _ X _ (env.grow S1) h1 (λlo H2 h2 S2=>?_) λc H' hc S'=>qx c H' hc (S1.trans S');refine hu H0 B H2 σ γ _ X _ ((env.grow S1).grow S2) h2 (λhi H3 h3 S3=>?_) λc H' hc S'=>qx c H' hc ((S1.trans S2).trans S');have S13:=(S1.trans S2).trans S3;split at h3
 ·rename_i d;split at h3
  ·rename_i ds ed;have t1:=Rp.strip t1;rw[ed]at t1;obtain⟨b,us,rfl,hb,r⟩:=Rp.lst_inv t1;refine⟨b,us,rfl,SqL.of ((env.grow S13).same _ _ hb),λm nm=>?_⟩;have S4:Same H3 (upd H3 m<|.lst<|Ts us lo hi):=Kb nm;have rc:Rps K H0 (cutD ds lo hi) (Ts us lo hi):=r.cut;refine⟨m,rfl,⟨_,SqL.of X4⟩,q _ _ _ _ h3 (S13.trans S4) ⟨λi H' Z' hlt S5 lt=>?_,λH' Z' S5 lt=>⟨_,SqL.of (S5 _ _ X4),by rw[rc.len];exact WQ _⟩⟩⟩;have hd:(cutD ds lo hi)[i]?=some ((cutD ds lo hi).getD i .non):=by rw[Qb,WH hlt];rfl
   obtain⟨u,h4,h5⟩:=rc.get hd;have tu:TV K Z' H0 H' H' (arg ((cutD ds lo hi).getD i .non)) u:=N3 lt.2.1 lt.1 h5;refine⟨⟨_,u,SqL.of (S5 _ _ X4),h4⟩,λx H'' y=>?_⟩;obtain⟨rfl,y⟩:=y
   have:=y _ (SqL.of<|S5 _ _ X4)
   rw[h4]at this;cases this
   exact⟨Same.refl _,tu⟩
  ·exact h3.elim
 ·exact h3.elim
def Zbo{α:Type}{φ}{γ}{g}{c}{e}{R}{xs:List α}{emb}(f:α->Option D)(hz:xs.length<=100000)(turn:∀x∈xs,g (arg<|emb x) (atP φ γ) λγ2=>c γ2 (λb=>if b=true then e γ2 (λs=>∃d,s.shd=some d/\f x=some d) (λ_=>False)else f x=none) λ_=>False)(done:R (.own<|xs.filterMap f)) :
  Sw φ γ g c e (xs.map emb).length (λi=>arg ((xs.map emb).getD i .non)) R:=by
 refine⟨⟨by rw[WG];exact hz,λi=>(xs[i]?).bind f,λi hi=>?_,?_⟩⟩
 ·simp_all
 ·have:(List.range (xs.map emb).length).filterMap (λi=>(xs[i]?).bind f)=xs.filterMap f:=by
   rw[WG]
   have key:∀l:List α,(List.range l.length).filterMap (λi=>(l[i]?).bind f)=l.filterMap f:=λl=>by
    induction l with
    |nil=>rfl
    |cons x r ih=>
     rw[Qi,List.range_succ_eq_map,QU,List.filterMap_map,QU];simp only[List.getElem?_cons_zero,Option.bind_some];have e:((λi=>((x::r)[i]?).bind f)∘Nat.succ)=λi=>(r[i]?).bind f:=rfl;rw[e,ih]
   exact key xs
  grind
noncomputable def Zha(a:PTE)(l u:PTO):PTE:=λγ R X=>a γ (λs=>l γ (λlo=>u γ (λhi=>match s.d with | .scr ns=>R (.own ((cutD ns lo hi).map D.int))|_=>False) X) X) X
def Zpj(ns:Yl)(lo hi:Option Int):Ts (ns.map V.int) lo hi=(cutD ns lo hi).map V.int:=by
 unfold Ts cutD;simp
def Zov{a l u}(ha:Xj K mg E te a)(hl:Tx K mg E tl l)(hu:Tx K mg E th u):Xj K mg E (tSl (SY K) te tl th) (Zha a l u):=by
 intro H0 B H σ γ R X Q env p q qx;refine ha H0 B H σ γ _ X _ env p (λx v H1 h1 S1 t1=>?_) qx;refine hl H0 B H1 σ γ _ X _ (env.grow S1) h1 (λlo H2 h2 S2=>?_) λc H' hc S'=>qx c H' hc (S1.trans S');refine hu H0 B H2 σ γ _ X _ ((env.grow S1).grow S2) h2 (λhi H3 h3 S3=>?_) λc H' hc S'=>qx c H' hc ((S1.trans S2).trans S');have S13:=(S1.trans S2).trans S3;split at h3
 ·rename_i ns e;have rx:=(t1.grow<|S2.trans S3).rp (env.grow S13).same;rw[e]at rx;obtain⟨b,rfl,hb⟩:=rx.scr_inv;refine⟨b,_,rfl,hb,λm nm=>?_⟩;rw[Zpj];exact q _ _ _ h3 (S13.trans<|Kb nm) (N5 S13 nm<|Rps.of_ints _)
 ·grind
end
open M
inductive Dd where
 |sell (p h:Int)|part (p w:Int)|unite (p:Int)|wish (a b:Int)|drop (a b:Int)
noncomputable def Dd.q:Dd->Str×Yl
 | .sell p h=>("sell",[p,h]) | .part p w=>("part",[p,w]) | .unite p=>("unite",[p]) | .wish a b=>("wish",[a,b]) | .drop a b=>("drop",[a,b])
noncomputable def Dd.land:Dd->Bool
 | .sell _ _=>true | .part _ _=>true | .unite _=>true|_=>false
noncomputable def Dd.err (f w:Yk):Dd->Option Str
 | .sell p h=>XO f p h | .part p v=>Kq f p v | .unite p=>Kc f p | .wish a b=>Kd w a b | .drop a b=>Kr w a b
noncomputable def Dd.fld (f:Yk):Dd->Yk
 | .sell p h=>X8 f p h | .part p v=>P3 f p v | .unite p=>PM f p|_=>f
noncomputable def Dd.wsh (w:Yk):Dd->Yk
 | .wish a b=>w++[(a,b)] | .drop a b=>NO w a b|_=>w
noncomputable def codeN:Option Str->Int
 |none=>0
 |some c=>if c=("NoStrip" : Str)then 1 else if c=("BadHolder" : Str)then 2 else if c=("OwnStrip" : Str)then 3 else if c=("BadPart" : Str)then 4 else if c=("TooManyStrips" : Str)then 5 else if c=("UnlikeHolders" : Str)then 6 else if c=("TooWide" : Str)then 7 else if c=("LikeHolders" : Str)then 8 else if c=("WishStands" : Str)then 9 else if c=("TooManyWishes" : Str)then 10 else 11
def BI:codeN (some "NoStrip")=1:=rfl
def Sq:codeN (some "BadHolder")=2:=rfl
def DU:codeN (some "OwnStrip")=3:=rfl
def Ct:codeN (some "BadPart")=4:=rfl
def LN:codeN (some "TooManyStrips")=5:=rfl
def EL:codeN (some "UnlikeHolders")=6:=rfl
def HC:codeN (some "TooWide")=7:=rfl
def Gv:codeN (some "LikeHolders")=8:=rfl
def Ht:codeN (some "WishStands")=9:=rfl
def Gj:codeN (some "TooManyWishes")=10:=rfl
def HX:codeN (some "NoWish")=11:=rfl
noncomputable def Dd.fld' (f:Yk) (x:Dd):Yk:=if x.err f []=none then x.fld f else f
noncomputable def Dd.wsh' (w:Yk) (x:Dd):Yk:=if x.err [] w=none then x.wsh w else w
noncomputable def Dd.nf (f w:Yk) (x:Dd):Yk:=if x.err f w=none then x.fld f else f
noncomputable def Dd.nw (f w:Yk) (x:Dd):Yk:=if x.err f w=none then x.wsh w else w
def Dd.err_land {x:Dd} (h:x.land=true) (f w u:Yk):x.err f w=x.err f u:=by
 cases x<;>first|rfl|cases h
def Dd.err_wish {x:Dd} (h:x.land=false) (f g w:Yk):x.err f w=x.err g w:=by
 cases x<;>first|rfl|cases h
def Dd.err_cases (f w : Yk) (x : Dd) : x.err f w = none ∨ x.err f w = some ("NoStrip" : Str) ∨ x.err f w = some ("BadHolder" : Str) ∨ x.err f w = some ("OwnStrip" : Str) ∨ x.err f w = some ("BadPart" : Str) ∨ x.err f w = some ("TooManyStrips" : Str) ∨ x.err f w = some ("UnlikeHolders" : Str) ∨ x.err f w = some ("TooWide" : Str) ∨ x.err f w = some ("LikeHolders" : Str) ∨ x.err f w = some ("WishStands" : Str) ∨ x.err f w = some ("TooManyWishes" : Str) ∨ x.err f w = some ("NoWish" : Str) := by
  cases x with
  | sell p h => show XO f p h = _ ∨ XO f p h = _ ∨ XO f p h = _ ∨ XO f p h = _ ∨ _; unfold XO; repeat' split
                all_goals simp
  | part p h => show Kq f p h = _ ∨ Kq f p h = _ ∨ Kq f p h = _ ∨ Kq f p h = _ ∨ Kq f p h = _ ∨ Kq f p h = _ ∨ _; unfold Kq; repeat' split
                all_goals simp
  | unite p => show Kc f p = _ ∨ Kc f p = _ ∨ Kc f p = _ ∨ Kc f p = _ ∨ Kc f p = _ ∨ Kc f p = _ ∨ Kc f p = _ ∨ Kc f p = _ ∨ _; unfold Kc; repeat' split
               all_goals simp
  | wish a b => show Kd w a b = _ ∨ Kd w a b = _ ∨ Kd w a b = _ ∨ Kd w a b = _ ∨ Kd w a b = _ ∨ Kd w a b = _ ∨ Kd w a b = _ ∨ Kd w a b = _ ∨ Kd w a b = _ ∨ Kd w a b = _ ∨ Kd w a b = _ ∨ _; unfold Kd; repeat' split
                all_goals simp
  | drop a b => show Kr w a b = _ ∨ Kr w a b = _ ∨ Kr w a b = _ ∨ Kr w a b = _ ∨ Kr w a b = _ ∨ Kr w a b = _ ∨ Kr w a b = _ ∨ Kr w a b = _ ∨ Kr w a b = _ ∨ Kr w a b = _ ∨ Kr w a b = _ ∨ Kr w a b = _; unfold Kr; repeat' split
                all_goals simp
abbrev Kf:=List (Dd×Yk×Yk)
noncomputable def bkH(hs:Kf):List (Str×Yl):=hs.map λh=>h.1.q
noncomputable def fsH(f0:Yk)(hs:Kf):List (Yk):=f0::hs.map λh=>h.2.1
noncomputable def wsH(hs:Kf):List (Yk):=[]::hs.map λh=>h.2.2
noncomputable def Su(h:Dd×Yk×Yk):D:=.tup [plD h.2.1,plD h.2.2,dD h.1.q]
noncomputable def Zcf(f0:Yk):D:=.tup [plD f0,.lst [],.tup []]
noncomputable def XX(f0:Yk)(hs:Kf):List D:=Zcf f0::hs.map Su
noncomputable def Xz(f0:Yk)(hs:Kf):Yk:=match hs.getLast? with|some h=>h.2.1|none=>f0
noncomputable def XD(hs:Kf):Yk:=match hs.getLast? with|some h=>h.2.2|none=>[]
def F8(f0:Yk)(hs:Kf):∃fs,fsH f0 hs=fs++[Xz f0 hs]/\fs.length=hs.length:=by
 unfold fsH Xz;rcases QX hs with rfl|⟨h,x,rfl⟩
 ·exact⟨[],rfl,rfl⟩
 ·refine⟨f0::h.map λh=>h.2.1,?_,by simp⟩;simp
def BL(hs:Kf):∃ws,wsH hs=ws++[XD hs]/\ws.length=hs.length:=by
 unfold wsH XD;rcases QX hs with rfl|⟨h,x,rfl⟩
 ·exact⟨[],rfl,rfl⟩
 ·refine⟨[]::h.map λh=>h.2.2,?_,by simp⟩;simp
def FN(f0:Yk)(hs:Kf):∃d,atI (XX f0 hs) (-1)=some (.tup [plD (Xz f0 hs),plD (XD hs),d]):=by
 have key:∀l (x:D),l≠[]->l[l.length-1]?=some x->atI l (-1)=some x:=λl x hn h=>by
  have hp:=V9.mpr hn;unfold atI ixN;rw[WN (by omega),WO (by omega)];show l[_]?=_;rw[show((-1:Int)+(l.length:Int)).toNat=l.length-1 by omega];omega
 unfold XX Xz XD;rcases QX hs with rfl|⟨h,x,rfl⟩
 ·exact⟨.tup [],key _ _ (by simp) rfl⟩
 ·refine⟨dD x.1.q,key _ _ (by simp) ?_⟩;rw[Vu,List.getLast?_concat,Qi,WG,WR,Vt,Ji,QI,Qc,Q1 (by simp),WG,Nat.sub_self];rfl
def CQ(hs:Kf)(h:Dd×Yk×Yk):bkH (hs++[h])=bkH hs++[h.1.q]:=by unfold bkH;rw[Qc];rfl
def F0(f0:Yk)(hs:Kf)(h:Dd×Yk×Yk):fsH f0 (hs++[h])=fsH f0 hs++[h.2.1]:=by unfold fsH;rw[Qc];rfl
def Fe(hs:Kf)(h:Dd×Yk×Yk):wsH (hs++[h])=wsH hs++[h.2.2]:=by unfold wsH;rw[Qc];rfl
def Eh(f0:Yk)(hs:Kf)(h:Dd×Yk×Yk):XX f0 (hs++[h])=XX f0 hs++[Su h]:=by unfold XX;rw[Qc];rfl
def BG(hs:Kf):(bkH hs).length=hs.length:=WG ..
def Zbe(f0:Yk)(hs:Kf):(fsH f0 hs).length=hs.length+1:=by unfold fsH;rw[Qi,WG]
def Zen(hs:Kf):(wsH hs).length=hs.length+1:=by unfold wsH;rw[Qi,WG]
def FT(f0:Yk)(hs:Kf):(XX f0 hs).length=hs.length+1:=by unfold XX;rw[Qi,WG]
def Dd.q_len (x:Dd):x.q.2.length<=2:=by cases x<;>simp[Dd.q]
end Pu
namespace Pu
@[irreducible] def mixP (c k:Int):Int:=((c % 2147483647+7919*k+1)*48271 % 2147483647+104729*k+11)*69621 % 2147483647
open L2 M Own PyProof.Rows PySem PySem.Spec
def Dd.fld_ok {d:Dd} (hF:Field f) (hl:f.length<=40) (e:d.err f w=none):Field (d.fld f)/\(d.fld f).length<=40:=by
 cases d with
 |sell p h=>exact⟨D3 hF e,by rw[show(Dd.sell p h).fld f=X8 f p h from rfl,Em];exact hl⟩
 |part p v=>
  have e:Kq f p v=none:=e;rcases Zmq f p v with⟨z,_⟩|⟨z,_⟩|⟨z,_⟩|⟨_,_,h1,h2,h3,h4,h5⟩
  ·grind
  ·rw[e]at z;cases z
  ·rw[e]at z;cases z
  ·exact⟨Ze9 hF h1 h2 h3 h4,by rw[show(Dd.part p v).fld f=P3 f p v from rfl,Zcx h1 h2];omega⟩
 |unite p=>
  have e:Kc f p=none:=e;rcases Zgm f p with⟨z,_⟩|⟨z,_⟩|⟨z,_⟩|⟨_,_,h1,h2⟩
  ·rw[e]at z;cases z
  ·rw[e]at z;cases z
  ·rw[e]at z;cases z
  ·exact⟨Zdq hF e,by rw[show(Dd.unite p).fld f=PM f p from rfl];have:=Zlw h1 h2;omega⟩
 |_=>exact⟨hF,hl⟩
def Dd.wsh_ok {f w}{d:Dd} (hW:Ta w) (e:d.err f w=none):Ta (d.wsh w):=by
 cases d with
 |wish a b=>exact Zad hW e
 |drop a b=>exact Zj7 hW
 |_=>trivial
def FineH(f0:Yk)(hs:Kf):Prop:=(∀g∈fsH f0 hs,Field g/\g.length<=40)/\∀g∈wsH hs,Ta g
def FineH.cur (h:FineH f0 hs):(Field (Xz f0 hs)/\(Xz f0 hs).length<=40)/\Ta (XD hs):=by
 obtain⟨fs,ef,_⟩:=F8 f0 hs;obtain⟨ws,ew,_⟩:=BL hs;exact⟨h.1 _ (by grind),h.2 _ (by grind)⟩
def FineH.nil (hF:Field f0) (hl:f0.length<=40):FineH f0 []:=
 ⟨λg hg=>by rw[show fsH f0 []=[f0]from rfl,WJ]at hg;subst hg;exact⟨hF,hl⟩,λg hg=>by rw[show wsH []=[[]]from rfl,WJ]at hg;subst hg;exact Zc2⟩
def FineH.snoc (h:FineH f0 hs) (h1:Field x.2.1/\x.2.1.length<=40) (h2:Ta x.2.2):FineH f0 (hs++[x]):=
 ⟨λg hg=>by rw[F0]at hg;rcases WV.mp hg with hg|hg;{exact h.1 g hg};{rw[WJ]at hg;subst hg;exact h1},λg hg=>by rw[Fe]at hg;rcases WV.mp hg with hg|hg;{exact h.2 g hg};{rw[WJ]at hg;subst hg;exact h2}⟩
def FineH.init (h:FineH f0 (hs++[x])):FineH f0 hs:=
 ⟨λg hg=>h.1 g (by rw[F0];exact Q9 _ hg),λg hg=>h.2 g (by rw[Fe];exact Q9 _ hg)⟩
def FineH.back (h:FineH f0 hs):FineH f0 hs.dropLast:=by
 rcases QX hs with rfl|⟨l,x,rfl⟩
 ·grind
 ·rw[Vu]at h ⊢;rw[Vi];exact h.init
noncomputable def Pk(f0:Yk)(hs:Kf)(d:Dd):Kf:=if d.err (Xz f0 hs) (XD hs)=none then hs++[(d,d.fld (Xz f0 hs),d.wsh (XD hs))]else hs
def G1(f0:Yk)(hs:Kf)(d:Dd):(Pk f0 hs d).length<=hs.length+1:=by
 unfold Pk;split
 ·simp
 ·simp
def FineH.add (h:FineH f0 hs) (d:Dd):FineH f0 (Pk f0 hs d):=by
 unfold Pk;split
 ·rename_i e;obtain⟨⟨h1,h2⟩,h3⟩:=h.cur;exact h.snoc (Dd.fld_ok h1 h2 e) (Dd.wsh_ok h3 e)
 ·omega
def FineH.len (h:FineH f0 hs):(∀g∈fsH f0 hs,g.length<=1000)/\∀g∈wsH hs,g.length<=1000:=⟨λg hg=>by have:=(h.1 g hg).2;omega,λg hg=>by have:=(h.2 g hg).1;omega⟩
def Dd.code_pos {x:Dd} (h:¬x.err f w=none):0<codeN (x.err f w):=by
 rcases x.err_cases f w with e|e|e|e|e|e|e|e|e|e|e|e<;>rw[e]at h ⊢
 ·grind
 ·trivial
 ·rw[Sq];decide
 ·rw[DU];decide
 ·rw[Ct];decide
 ·rw[LN];decide
 ·rw[EL];decide
 ·rw[HC];decide
 ·rw[Gv];decide
 ·rw[Ht];decide
 ·rw[Gj];decide
 ·rw[HX];decide
def Dd.not_back (d:Dd):¬d.q.1=("back" : Str):=by
 cases d with
 |sell p h=>exact(by decide +kernel:¬("sell" : Str) = "back")
 |part p h=>exact(by decide +kernel:¬("part" : Str) = "back")
 |unite p=>exact(by decide +kernel:¬("unite" : Str) = "back")
 |wish p h=>exact(by decide +kernel:¬("wish" : Str) = "back")
 |drop p h=>exact(by decide +kernel:¬("drop" : Str) = "back")
def Zij(hM:Tn m){v}(h:1<=v/\v<=10):Tn (m.set 0 v):=by
 obtain⟨a,b,c,d,e,rfl,ha,hb,hc,hd,he⟩:=hM;exact⟨v,b,c,d,e,rfl,h,hb,hc,hd,he⟩
end Pu
namespace Own
open L2
section
variable {prog:Program}{w:World}{A:Around}{E:Yo}{s:Shared}{l:Addr}{xs:Array (Int×Tok)}
def Zhs(hh:A.handled=none)(hl:s.heap.IsTuple l (intItems xs))(hne:0<xs.size)(h:∀v h' tk,(intItems xs)[argBest (λi j=>decide (numAt xs i<numAt xs j)) (xs.size-1)]?=some v->(∀b o,s.heap.get? b=some o->h'.get? b=some o)->Q v {s with heap:=h',toks:=tk}) :
  wpAny (model prog w) A (call (.builtin "min") [.ref l]) Q E s:=by
 have hlt:l<s.heap.objs.size:=by obtain⟨_,e,_⟩:=hl;exact WT e
 refine call_min_walk (wpAny_pyIter_tuple hl ?_);refine⟨_,[_,l],[_],_,_,_,_,rfl,Walks.tuple (A:=A.in1) hh _ l (Qk hlt) (intItems xs),⟨⟨_,WX _ rfl,rfl,rfl⟩,hl.push _⟩,λc hc=>?_,by simpa [intItems]using hne,CmpOf.ints_lt (numAt xs) (λ_ _=>intItems_at),λv h' tk hP hk=>?_⟩
 ·show c<(s.heap.push _).objs.size;rw[Vm];rcases Qa.mp hc with rfl|hc
  ·exact V4 _
  ·grind
 ·refine h v h' tk (by simpa [intItems]using hP) λb o e=>hk b o (λhm=>?_) (WM _ e);rcases Qa.mp hm with e1|hm
  ·exact absurd (e1▸WT e) (QP _)
  ·cases hm
def Zby(hh:A.handled=none)(hl:s.heap.IsTuple l (intItems xs))(hne:0<xs.size)(h:∀v h' tk,(intItems xs)[argBest (λi j=>decide (numAt xs i>numAt xs j)) (xs.size-1)]?=some v->(∀b o,s.heap.get? b=some o->h'.get? b=some o)->Q v {s with heap:=h',toks:=tk}) :
  wpAny (model prog w) A (call (.builtin "max") [.ref l]) Q E s:=by
 have hlt:l<s.heap.objs.size:=by obtain⟨_,e,_⟩:=hl;exact WT e
 refine call_max_walk (wpAny_pyIter_tuple hl ?_);refine⟨_,[_,l],[_],_,_,_,_,rfl,Walks.tuple (A:=A.in1) hh _ l (Qk hlt) (intItems xs),⟨⟨_,WX _ rfl,rfl,rfl⟩,hl.push _⟩,λc hc=>?_,by simpa [intItems]using hne,CmpOf.ints_gt (numAt xs) (λ_ _=>intItems_at),λv h' tk hP hk=>?_⟩
 ·show c<(s.heap.push _).objs.size;rw[Vm];rcases Qa.mp hc with rfl|hc
  ·exact V4 _
  ·grind
 ·refine h v h' tk (by simpa [intItems]using hP) λb o e=>hk b o (λhm=>?_) (WM _ e);rcases Qa.mp hm with e1|hm
  ·exact absurd (e1▸WT e) (QP _)
  ·cases hm
end
section
variable {X:Cx}{K:Yj}
def Zb7(hc:X.calm=true)(hK:autoParam (X.K=K) au_0):Kh X (.builtin "min") (λxs H Q=>∃p a b,xs=[.ref p]/\SqT K H p [.int a,.int b]/\Q (.int (if b<a then b else a)) H):=by
 subst hK;intro pins s σ H xs us Q I rv h;obtain⟨p,a,b,rfl,hS,q⟩:=h;obtain⟨u,rfl,ru⟩:=rv.one;obtain rfl:=ru;obtain⟨its,r,pl,_⟩:=I.tuple hS;cases r with
 |cons r1 r=>
  cases r with
  |cons r2 r=>
   cases r
   obtain⟨t1,rfl⟩:=r1;obtain⟨t2,rfl⟩:=r2;have hl:s.heap.IsTuple p (intItems #[(a,t1),(b,t2)]):=by have this:s.heap.IsTuple p _:=pl;simpa [intItems]using this
   refine Zhs (I.ok.hd hc) hl (by simp) λv h' tk hP hk=>?_;have hP':(intItems #[(a,t1),(b,t2)])[argBest (λi j=>decide (numAt #[(a,t1),(b,t2)] i<numAt #[(a,t1),(b,t2)] j)) 1]?=some v:=hP;by_cases hba:b<a
   ·have e:argBest (λi j=>decide (numAt #[(a,t1),(b,t2)] i<numAt #[(a,t1),(b,t2)] j)) 1=1:=by simp[argBest,numAt,hba]
    rw[e]at hP';obtain rfl:Value.int b t2=v:=by simpa [intItems]using hP'
    rw[WO hba]at q;exact⟨.int b,H,I.kept hk,⟨_,rfl⟩,q⟩
   ·have e:argBest (λi j=>decide (numAt #[(a,t1),(b,t2)] i<numAt #[(a,t1),(b,t2)] j)) 1=0:=by simp[argBest,numAt,hba]
    rw[e]at hP';obtain rfl:Value.int a t1=v:=by simpa [intItems]using hP'
    rw[WN hba]at q;exact⟨.int a,H,I.kept hk,⟨_,rfl⟩,q⟩
def Zoo(hc:X.calm=true)(hK:autoParam (X.K=K) au_0):Kh X (.builtin "max") (λxs H Q=>∃p a b,xs=[.ref p]/\SqT K H p [.int a,.int b]/\Q (.int (if b>a then b else a)) H):=by
 subst hK;intro pins s σ H xs us Q I rv h;obtain⟨p,a,b,rfl,hS,q⟩:=h;obtain⟨u,rfl,ru⟩:=rv.one;obtain rfl:=ru;obtain⟨its,r,pl,_⟩:=I.tuple hS;cases r with
 |cons r1 r=>
  cases r with
  |cons r2 r=>
   cases r
   obtain⟨t1,rfl⟩:=r1;obtain⟨t2,rfl⟩:=r2;have hl:s.heap.IsTuple p (intItems #[(a,t1),(b,t2)]):=by have this:s.heap.IsTuple p _:=pl;simpa [intItems]using this
   refine Zby (I.ok.hd hc) hl (by simp) λv h' tk hP hk=>?_;have hP':(intItems #[(a,t1),(b,t2)])[argBest (λi j=>decide (numAt #[(a,t1),(b,t2)] i>numAt #[(a,t1),(b,t2)] j)) 1]?=some v:=hP;by_cases hba:b>a
   ·have e:argBest (λi j=>decide (numAt #[(a,t1),(b,t2)] i>numAt #[(a,t1),(b,t2)] j)) 1=1:=by simp[argBest,numAt,hba]
    rw[e]at hP';obtain rfl:Value.int b t2=v:=by simpa [intItems]using hP'
    rw[WO hba]at q;exact⟨.int b,H,I.kept hk,⟨_,rfl⟩,q⟩
   ·have e:argBest (λi j=>decide (numAt #[(a,t1),(b,t2)] i>numAt #[(a,t1),(b,t2)] j)) 1=0:=by simp[argBest,numAt,hba]
    rw[e]at hP';obtain rfl:Value.int a t1=v:=by simpa [intItems]using hP'
    rw[WN hba]at q;exact⟨.int a,H,I.kept hk,⟨_,rfl⟩,q⟩
end
end Own
namespace Pu
open L2 Own
section
variable {K:Yj}{mg:Yn}{E:L2.St->XK}
def IA:List S->(S->Prop)->Prop
 |[s],R=>(match s.d with | .tup [.int a,.int b]=>R (.sh<|.int (if b<a then b else a))|_=>False)
 |_,_=>False
def M3:List S->(S->Prop)->Prop
 |[s],R=>(match s.d with | .tup [.int a,.int b]=>R (.sh<|.int (if b>a then b else a))|_=>False)
 |_,_=>False
def Zpk(hr:X6 K mg E ta r):Xj K mg E (tCB (λxs H Q=>∃p a b,xs=[.ref p]/\SqT K H p [.int a,.int b]/\Q (.int (if b<a then b else a)) H) ta) (pCB IA r):=by
 refine Pt hr λH0 H H1 Z ss vs R Q s0 s1 hm tv h q=>?_;unfold IA at h;split at h
 ·rename_i s;obtain⟨v,rfl,t1⟩:=tv.one_inv;have rv:=t1.rp s0;split at h
  ·rename_i a b e;rw[e]at rv;obtain⟨p,us,rfl,hp,r1⟩:=Rp.tup_inv rv;obtain⟨x,y,rfl,q1,q2⟩:=r1.two_inv;rw[q1.int_inv,q2.int_inv]at hp;exact⟨p,a,b,rfl,SqT.of hp,q _ _ H1 h (Same.refl _) (.int _)⟩
  ·exact h.elim
 ·exact h.elim
def Zgc(hr:X6 K mg E ta r):Xj K mg E (tCB (λxs H Q=>∃p a b,xs=[.ref p]/\SqT K H p [.int a,.int b]/\Q (.int (if b>a then b else a)) H) ta) (pCB M3 r):=by
 refine Pt hr λH0 H H1 Z ss vs R Q s0 s1 hm tv h q=>?_;unfold M3 at h;split at h
 ·rename_i s;obtain⟨v,rfl,t1⟩:=tv.one_inv;have rv:=t1.rp s0;split at h
  ·rename_i a b e;rw[e]at rv;obtain⟨p,us,rfl,hp,r1⟩:=Rp.tup_inv rv;obtain⟨x,y,rfl,q1,q2⟩:=r1.two_inv;rw[q1.int_inv,q2.int_inv]at hp;exact⟨p,a,b,rfl,SqT.of hp,q _ _ H1 h (Same.refl _) (.int _)⟩
  ·grind
 ·grind
end
section
variable {X:Cx}{k j:Nat}{x:Str}{ps:Ys}{sp:Sp}{e a b c:Expr}{es:Yt}{t:TA}{te tf tg:TE}{p pos:Pos}
def fz(C:Callee X.prog X.w X.K X.mg X.base CX0 k x ps sp)(hr:Xv j X.A)(ha:PA X (e::es) t)(hk:autoParam (k<=j) au_1)(hg:autoParam (Gl X x) au_0)(hdb:autoParam ((x==("__debug__" : Str))=false) au_1)(he:autoParam (starEach (e::es) X.env=(false,eval e X.env)::starEach es X.env) au_0)(hpl:autoParam ((backTo pos<|starEach es X.env).any (·.1)=false) au_0) :
  PE X (.Call (.Name x p) (e::es) [] pos) (TK sp [] E0 t):=Cy C (hr.mono hk) Ki ha hg hdb he hpl
def jx(K:Yj)(ha:PE X a te)(hb:PE X b tf)(hK:autoParam (X.K=K) au_0)(hs:autoParam (DR b) au_7):PE X (.Subscript a b pos) (tOp (λx y H Q=>SX K x y H Q\/SW K x y H Q) te tf):=OV (Gi hK) ha hb hs
def ln(K:Yj)(hm:X.mg "len"=none)(ha:PE X a te)(hK:autoParam (X.K=K) au_0)(hg:autoParam (Gl X "len") au_0)(hs:autoParam (starEach [a] X.env=(false,eval a X.env)::starEach [] X.env) au_0)(hpl:autoParam ((backTo pos<|starEach [] X.env).any (·.1)=false) au_0) :
  PE X (.Call (.Name "len" p) [a] [] pos) (tCB (λxs H Q=>∃x n,xs=[x]/\F6 K x H n/\Q (.int (n:Nat)) H)<|Kl te KO):=Ka (RV hK) hg hm PySem.boot_len (X7 ha Km hs) (by decide) rfl hs hpl
def cq(K:Yj)(hr:Xv j X.A)(ha:PE X a te)(hb:PE X b tf)(hK:autoParam (X.K=K) au_0):PT X (.Compare a [.Eq] [b] pos) (Fk<|tOp (λx y H Q=>rEq x y H Q\/Tp K false x y H Q) te tf):=Pb (NA hr.units0 hK) ha hb (KB _)
def cn(K:Yj)(hr:Xv j X.A)(ha:PE X a te)(hb:PE X b tf)(hK:autoParam (X.K=K) au_0):PT X (.Compare a [.NotEq] [b] pos) (Fk<|tOp (λx y H Q=>rNe x y H Q\/Tp K true x y H Q) te tf):=Pb (Zhd hr.units0 hK) ha hb (KB _)
def az(ha:PE X a te)(h1:autoParam (starEach [a] X.env=(false,eval a X.env)::starEach [] X.env) au_0):PA X [a] (Kl te KO):=X7 ha Km h1
def bz(ha:PE X a te)(hb:PE X b tf)(h1:autoParam (starEach [a,b] X.env=(false,eval a X.env)::starEach [b] X.env) au_0)(h2:autoParam (starEach [b] X.env=(false,eval b X.env)::starEach [] X.env) au_0):PA X [a,b] (Kl te<|Kl tf KO):=X7 ha (X7 hb Km h2) h1
def dz(ha:PE X a te)(hb:PE X b tf)(hc:PE X c tg)(h1:autoParam (starEach [a,b,c] X.env=(false,eval a X.env)::starEach [b,c] X.env) au_0)(h2:autoParam (starEach [b,c] X.env=(false,eval b X.env)::starEach [c] X.env) au_0)(h3:autoParam (starEach [c] X.env=(false,eval c X.env)::starEach [] X.env) au_0):PA X [a,b,c] (Kl te<|Kl tf<|Kl tg KO):=X7 ha (X7 hb (X7 hc Km h3) h2) h1
end
section
variable {K:Yj}{mg:Yn}{E:L2.St->XK}{ta tb tc:TE}{a b c:PTE}
def sz(ha:Xj K mg E ta a):X6 K mg E (Kl ta KO) (Ph a T3):=XN ha X9
def tz(ha:Xj K mg E ta a)(hb:Xj K mg E tb b):X6 K mg E (Kl ta<|Kl tb KO) (Ph a<|Ph b T3):=XN ha (sz hb)
def uz(ha:Xj K mg E ta a)(hb:Xj K mg E tb b)(hc:Xj K mg E tc c):X6 K mg E (Kl ta<|Kl tb<|Kl tc KO) (Ph a<|Ph b<|Ph c T3):=XN ha (tz hb hc)
end
section
variable {K:Yj}{h:Heap}{mg:Yn}{C C':Addr}{x m q:Str}{st:Stmt}{ps:Ys}
abbrev Bd(x q:Str)(st:Stmt)(ps:Ys):Prop:=∀(kV doc pm:Value) (an:Yw) (cdv ct:Value) (us:Yr),us.length=ps.length->bindArgs (PySem.W.fnOf x q (Pm st) (XQ st) (Xk st) .none kV doc pm an cdv ct) ⟨us,[]⟩=pure (ps.zip us)
def DI.e (D:DI K x st) (X:K.In h) (G0:h.Ns mainGlobals mg) (b:Bd x x st ps:=by
  intro _ _ _ _ _ _ us hl
  first
   |(obtain⟨_,rfl⟩:=Pu.Bi hl;rfl)
   |(obtain⟨_,_,rfl⟩:=Pu.By hl;rfl)
   |(obtain⟨_,_,_,rfl⟩:=Pu.FG hl;rfl)
   |(obtain⟨_,_,_,_,rfl⟩:=Pu.Es hl;rfl)
   |(obtain⟨_,_,_,_,_,rfl⟩:=Pu.Ziw hl;rfl)):Def K mg x st ps:=D.d X G0 b
def MI.e (D:MI K C m q st) (e:C'=C) (b:Bd m q st ps:=by
  intro _ _ _ _ _ _ us hl
  first
   |(obtain⟨_,rfl⟩:=Pu.Bi hl;rfl)
   |(obtain⟨_,_,rfl⟩:=Pu.By hl;rfl)
   |(obtain⟨_,_,_,rfl⟩:=Pu.FG hl;rfl)
   |(obtain⟨_,_,_,_,rfl⟩:=Pu.Es hl;rfl)):XA K (XF K C' m) m q st ps:=D.d e b
def MI.j (D:MI K C "__init__" q st) (e:C'=C) (mk:PySem.W.makesIn K C=true) (kc:PySem.W.keepIn K (.ref C)=true) (b:Bd "__init__" q st ps:=by
  intro _ _ _ _ _ _ us hl
  first
   |(obtain⟨_,rfl⟩:=Pu.Bi hl;rfl)
   |(obtain⟨_,_,rfl⟩:=Pu.By hl;rfl)
   |(obtain⟨_,_,_,rfl⟩:=Pu.FG hl;rfl)):XA K (Mk K C') "__init__" q st ps:=D.i e mk kc b
end
section
variable {P:Program}{w:World}{K:Yj}{mg:Yn}{base:Heap}{N ps:Ys}{sp:Sp}{p:PTS}{x q:Str}{st:Stmt}{k:Nat}{W:Addr->Prop}
structure Uz (K:Yj) (mg:Yn) (N ps:Ys) (sp:Sp) (p:PTS):Prop where
 len:∀vs H Q E,sp vs H Q E->vs.length=ps.length
 run:∀vs H Q E t,sp vs H Q E->Xy K mg (λ_=>E) t p->t {nx:=λ_ H'=>Q .non H',rt:=Q} (start N vs) H
def Uz.a (hp:∀ds R X,c ds R X->ds.length=ps.length/\p {nx:=λ_=>R (.sh .non),rt:=R,ex:=λ_ e=>X e} (PD N ds)) (hn:autoParam (ps.length<=N.length) au_1):Uz K mg N ps (Xs mg c K) p:=
 ⟨λ_ _ _ _ h=>Zpt h λds R X z=>(hp ds R X z).1,λ_ _ _ _ _ h s=>R7 h s hn hp⟩
def Uz.b (hp:∀ss R X,c ss R X->ss.length=ps.length/\p {nx:=λ_=>R (.sh .non),rt:=R,ex:=λ_ e=>X e} (Nh N ss)) (hn:autoParam (ps.length<=N.length) au_1):Uz K mg N ps (spS mg c K) p:=
 ⟨λ_ _ _ _ h=>Ro h λds R X z=>(hp ds R X z).1,λ_ _ _ _ _ h s=>Zns h s hn hp⟩
def Uz.c {c y} (hp:∀o ss R X,c o ss R X->ss.length=ps.length/\p (MU o R X) (TH N o ss)) (hn:autoParam (ps.length+1<=N.length) au_1):Uz K mg N (y::ps) (spW mg c K) p:=
 ⟨λ_ _ _ _ h=>Zk0 h λo ds R X z=>(hp o ds R X z).1,λ_ _ _ _ _ h s=>Zob h s hn hp⟩
def Uz.d {c y z} (hp:∀o1 o2 ss R X,c o1 o2 ss R X->ss.length=ps.length/\p (O9 o1 o2 R X) (Td N o1 o2 ss)) (hn:autoParam (ps.length+2<=N.length) au_1):Uz K mg N (y::z::ps) (Nz mg c K) p:=
 ⟨λ_ _ _ _ h=>Zav h λo1 o2 ds R X z=>(hp o1 o2 ds R X z).1,λ_ _ _ _ _ h s=>Zo2 h s hn hp⟩
def _root_.Own.Def.oz (D:Def K mg x st ps) (S:Xn N ps (Xk st))
  (tr:∀f cdv A outer s H E,Xv k (A.deeper<|envOfC x (Xk st) s.heap.objs.size f cdv)->
   ∃t,PSs (XY CX0 P w K mg base N x (Xk st) f cdv A outer s H E).nox (XQ st) t/\Xy K mg (λ_=>E) t p) (u:Uz K mg N ps sp p):Callee P w K mg base CX0 (k+1) x ps sp:=
 D.ok S u.len λf cdv A outer s H vs Q E hr h=>(tr f cdv A outer s H E hr).elim λt z=>⟨t,z.1,u.run _ _ _ _ _ h z.2⟩
def _root_.Own.Def.ox (D:Def K mg x st ps) (S:Xn N ps (Xk st))
  (tr:∀f cdv A outer s H E,Xv k (A.deeper<|envOfC x (Xk st) s.heap.objs.size f cdv)->
   ∃t,PSs (XY (ExcR.CXe P w) P w K mg base N x (Xk st) f cdv A outer s H E) (XQ st) t/\Xy K mg (λ_=>E) t p) (u:Uz K mg N ps sp p):Callee P w K mg base (ExcR.CXe P w) (k+1) x ps sp:=
 ExcR.Def.okX D S u.len λf cdv A outer s H vs Q E hr h=>(tr f cdv A outer s H E hr).elim λt z=>⟨t,z.1,u.run _ _ _ _ _ h z.2⟩
def XA.oz (D:XA K W x q st ps) (S:Xn N ps (Xk st))
  (tr:∀f cdv A outer s H E,Xv k (A.deeper<|envOfC q (Xk st) s.heap.objs.size f cdv)->
   ∃t,PSs (XY CX0 P w K mg base N q (Xk st) f cdv A outer s H E).nox (XQ st) t/\Xy K mg (λ_=>E) t p) (u:Uz K mg N ps sp p):Pa P w K mg base CX0 (k+1) W ps sp:=
 D.ok S u.len λf cdv A outer s H vs Q E hr h=>(tr f cdv A outer s H E hr).elim λt z=>⟨t,z.1,u.run _ _ _ _ _ h z.2⟩
def XA.ox (D:XA K W x q st ps) (S:Xn N ps (Xk st))
  (tr:∀f cdv A outer s H E,Xv k (A.deeper<|envOfC q (Xk st) s.heap.objs.size f cdv)->
   ∃t,PSs (XY (ExcR.CXe P w) P w K mg base N q (Xk st) f cdv A outer s H E) (XQ st) t/\Xy K mg (λ_=>E) t p) (u:Uz K mg N ps sp p):Pa P w K mg base (ExcR.CXe P w) (k+1) W ps sp:=
 D.okX S u.len λf cdv A outer s H vs Q E hr h=>(tr f cdv A outer s H E hr).elim λt z=>⟨t,z.1,u.run _ _ _ _ _ h z.2⟩
end
section
variable {K:Yj}{h:Heap}{mg:Yn}{x:Str}{C:Addr}
structure EI (K:Yj) (x:Str) (C:Addr):Prop where
 a:PySem.W.nsIn K mainGlobals x=some (some<|.ref C)
 g:ExcR.Kn K C
def ei(a:PySem.W.nsIn K mainGlobals x=some (some<|.ref C))(q:PySem.W.excIn K C [.type "ValueError",.type "Exception",.type "BaseException",.type "object"] "ValueError.__new__"=true)(ga:PySem.W.findIn K (.ref C) "__getattribute__"=some (some<|.builtin "BaseException.__getattribute__"))(gt:PySem.W.findIn K (.ref C) "__getattr__"=some none)(cl:PySem.W.findIn K (.ref C) "__class__"=some (some<|.builtin "object.__class__"))(i:PySem.W.clsIn K C=some d):EI K x C:=⟨a,⟨⟨q⟩,ga,gt,cl,by rw[i];rfl⟩⟩
def EI.c (y:EI K x C) (X:K.In h) (G0:h.Ns mainGlobals mg):ExcR.Xl mg x=C:=ExcR.Dn (QF X G0 y.a)
def EI.m (y:EI K x C) (X:K.In h) (G0:h.Ns mainGlobals mg):mg x=some (.ref<|ExcR.Xl mg x):=by rw[y.c X G0];exact QF X G0 y.a
def EI.k (y:EI K x C) (X:K.In h) (G0:h.Ns mainGlobals mg):ExcR.Kn K (ExcR.Xl mg x):=by rw[y.c X G0];exact y.g
end
theorem NoFld.of:∀{xs:Ys},(xs.all λx=>!(m==x))=true->NoFld m xs
 |[],_,_|_::_,_,[]=>rfl
 |x::xs,h,v::vs=>by
  rw[Ju,Q4]at h;show(match m==x with|true=>some v|false=>(xs.zip vs).lookup m)=none
  rw[show(m==x)=false by simpa using h.1];exact NoFld.of h.2 vs
theorem FldAt.of (h0:(f==f)=true):∀{xs}{j:Nat},((xs.take j).all λx=>!(f==x))=true->xs[j]?=some f->FldAt f xs j
 |[],_,_,e,_,_=>by simp at e
 |_::_,_,_,_,[],e=>rfl
 |x::xs,0,_,e,v::vs,_=>by
  simp_all
 |x::xs,j+1,h,e,v::vs,l=>by
  rw[List.take_succ_cons,Ju,Q4]at h;show(match f==x with|true=>some v|false=>(xs.zip vs).lookup f)=(v::vs)[j+1]?
  rw[show(f==x)=false by simpa using h.1];exact FldAt.of h0 h.2 (by grind) vs (by grind)
theorem PutAt.of:∀{xs:Ys},(xs.all λx=>decide (x≠f))=true->PutAt f xs
 |[],_,[],_,_=>rfl
 |[],_,_::_,_,e|_::_,_,[],_,e=>by cases e
 |x::xs,h,v::vs,y,e=>by
  rw[Ju,Q4]at h;show(if x=f then(x,y)::xs.zip vs else(x,v)::KE f y (xs.zip vs))=(x,v)::(xs++[f]).zip (vs++[y]);rw[WN (WK h.1),PutAt.of h.2 vs y (by grind)]
end Pu
namespace M
open L2 Own Pu
theorem OP{ws}(hu:∀q∈ws,q.1≠q.2)(hN:¬ ∃r,Ring hs ws r):∀n ms,ms.length=n->(∀x∈ms,x∈hs)->∃o,o.Perm ms/\Keeps ws o
 | 0,ms,hl,_=>⟨[],by rw[QN.mp hl],.nil⟩
 |n+1,ms,hl,hsub=>by
  have hne:ms≠[]:=λz=>by rw[z]at hl;simp at hl
  have hx:∃x∈ms,∀y∈ms,(y,x)∉ws:=Qj λz=>by
   obtain⟨r,R⟩:=Of hu hne λx hx=>Qj λk=>z ⟨x,hx,λy hy w=>k ⟨y,hy,w⟩⟩;exact hN ⟨r,{R with sub:=λx hx=>hsub x (R.sub x hx)}⟩
  obtain⟨x,hx,hy⟩:=hx;obtain⟨o,hp,hk⟩:=OP hu hN n (ms.erase x) (by grind) λz hz=>hsub z (List.mem_of_mem_erase hz);exact⟨x::o,(hp.cons x).trans (List.perm_cons_erase hx).symm,List.pairwise_cons.mpr ⟨λb hb=>hy b (List.mem_of_mem_erase<|hp.mem_iff.mp hb),hk⟩⟩
end M
namespace Lam
open L2 Own
section
variable {X:Cx}{pins:Ym}{σ:L2.St}{H:Hp}{A:Around}{E:Yo}{s:Shared}{kS D:Addr}{vs:Yr}{kz:Yl}{keys:Array Value}{e e1:Nat}
def RL{H h a o}(x:HOk P w H h)(hn:H a=none)(new:ObjOk P w (upd H a o) h a o):HOk P w (upd H a o) h:=λb u e=>by
 by_cases hb:b=a
 ·subst hb;rw[X4]at e;cases e;exact new
 ·rw[Xr hb]at e;exact(x b u e).stay (λc v _ q=>q) (λc q=>by rw[Xr (Kw q hn)];exact q) λc xs q=>by rw[Xr (Kw q hn)];exact q
variable {P:PySem.Fin->Shared->Prop}
end
end Lam
namespace ExcR
open L2
open Sem (wp)
section
variable {prog:Program}{w:World}{A:Around}{E:Yo}{h:Heap}{g:Array GenState}{d:Drawn}{t:Nat}{os:OsState}
variable {nm q:Str}{C N:Addr}{bs bm bmB:Yr}{hdct:Bool}{sn:Ys}{sub:Yr}{ab:Bool}{col:Option Bool}{dd:Yw}{k0 k1 k2 k3 k5:Yv}{B Bn newId nid initId inN:String}{bmN:Yr}
noncomputable def Tf(C t:Addr)(dx:Yw):Obj:={cls:=.ref C,dict:=dx,data:=.fields #[.ref t,.none,.none,.none,.bool false,.none]}
def Zpe(Fn:ExcBaseFacts Bn newId inN bmN)(hBn:bmB.contains (.type Bn)=true)(F:ExcBaseFacts B nid initId bmB)(T:OwnTail h bmB bm){mN rest fI oI Q}(hC:h.get? C=some (excClassObj nm q C N bs bm hdct sn sub ab col dd k0 k1 k2 k3 k5 newId))(hn:h.Ns N mN)(hi:mN "__init__"=some (.ref fI))(hfI:h.get? fI=some oI)(hfc:oI.cls=.type "function")(hq:∀h' e,Heap.MadeExcOf h h' e (.ref C) rest->wpAny (model prog w) A (call (.ref fI) (.ref e::rest)) (λr s'=>r=.none/\Q (.done<|.ret<|.ref e) s') E ⟨h',g,d,t,os⟩)(hrest:autoParam (rest.length<=sizeLine) au_8) :
  wpAny (model prog w) A (Builtin.«type.__call__» ⟨.ref C::rest,[]⟩) Q E ⟨h,g,d,t,os⟩:=by
 repeat (first|with_reducible refine Q8 hC ?_|with_reducible refine wpAny_madeBy_exc hC ?_|wp_step)
 refine codeAny_call_builtin_code (Jf _ Fn.quiet) (wpAny_check_new_subU Fn hBn T hC ?_);refine codeAny_exc_new_subU Fn hBn F T hC ?_ hrest;show wpAny _ _ _ _ _ _
 have k:∀b o,h.get? b=some o->((h.push {cls:=.type "tuple",data:=.seq rest.toArray}).push {cls:=.ref C,data:=.fields #[.ref h.objs.size,.none,.none,.none,.bool false,.none]}).get? b=some o:=
  λb o e=>WM _ (WM _ e)
 have hC₁:=k _ _ hC;have hfI₁:=k _ _ hfI;have hn₁:=hn.keeps k;have T₁:=T.keeps k
 have hget:((h.push {cls:=.type "tuple",data:=.seq rest.toArray}).push
   {cls:=.ref C,data:=.fields #[.ref h.objs.size,.none,.none,.none,.bool false,.none]}).get? (h.objs.size+1)=some
   {cls:=.ref C,data:=.fields #[.ref h.objs.size,.none,.none,.none,.bool false,.none]}:=by heap_get
 have hcC:(Value.ref C::bm).contains (.ref C)=true:=by simp
 unfold isInstance
 repeat (first|with_reducible refine Q8 hget ?_|(with_reducible refine V8 hC₁ ?_;rw[hcC])|wp_step)
 show wpAny _ _ (typeLookup (.ref C) _) _ _ _;refine wpAny_typeLookup_tail hC₁ hn₁ T₁ F.mroIs F.init.lookup ?_;rw[hi];refine QR (WE ?_);unfold bindSpecial;refine WE (wpAny_typeOf ⟨_,hfI₁,hfc⟩ ?_);rw[WO (by decide)];refine WL (WE (Qz (hq _ (h.objs.size+1) ⟨k,Vz (VF _),h.objs.size,hget,Vz (WQ _),?_⟩) (λr s' hr=>?_) λ_ _ x=>x))
 ·exact WM _ (Heap.get?_push_at rfl rfl)
 ·obtain⟨rfl,hQ⟩:=hr
  wp_walk
  exact hQ
def Zil(Fn:ExcBaseFacts Bn newId inN bmN)(hBn:bmB.contains (.type Bn)=true)(F:ExcBaseFacts B nid initId bmB)(T:OwnTail h bmB bm){mN rest fI oI Q}(hC:h.get? C=some (excClassObj nm q C N bs bm hdct sn sub ab col dd k0 k1 k2 k3 k5 newId))(hn:h.Ns N mN)(hi:mN "__init__"=some (.ref fI))(hfI:h.get? fI=some oI)(hfc:oI.cls=.type "function")(hq:∀h' e,Heap.MadeExcOf h h' e (.ref C) rest->wpAny (model prog w) (A.under<|.builtin "type.__call__" ⟨.ref C::rest,[]⟩) (call (.ref fI) (.ref e::rest)) (λr s'=>r=.none/\Q (.ref e) s') E ⟨h',g,d,t,os⟩)(hrest:autoParam (rest.length<=sizeLine) au_8) :
  wpAny (model prog w) A (call (.ref C) rest) Q E ⟨h,g,d,t,os⟩:=by
 have f1:=tc_lookup;have f2:=tc_bind (.ref C);have hT:(⟨h,g,d,t,os⟩:Shared).TypeIs (.ref C) "type":=⟨_,hC,rfl⟩;refine J4 (codeAny_of_tree ?_);show wpAny _ _ (callAny (.ref C) _) _ _ _
 repeat (any_goals (first|assumption|with_reducible refine Q8 hC ?_|wp_step))
 refine⟨rfl,?_⟩;refine codeAny_call_builtin_at (Jf _<|by decide +kernel) entry_typeCall (wpAny_check_type_call_sub hC (Zpe (hrest:=hrest) Fn hBn F T hC hn hi hfI hfc λh' e hm=>?_));exact hq h' e hm
end
section
variable {prog:Program}{w:World}{A:Around}{E:Yo}{s:Shared}{env:Env}
variable {nm q:Str}{C N:Addr}{bs bm bmB:Yr}{hdct:Bool}{sn:Ys}{sub:Yr}{ab:Bool}{col:Option Bool}{dd:Yw}{k0 k1 k2 k3 k5:Yv}{B Bn newId nid initId inN:String}{bmN:Yr}
def Zdp(hbase:bm.contains (.type "BaseException")=true)(hh:A.handled=none)(h:wpAny (model prog w) A x (λv s₁=>∃e t dx,v=.ref e/\s₁.heap.get? C=some (excClassObj nm q C N bs bm hdct sn sub ab col dd k0 k1 k2 k3 k5 newId)/\s₁.heap.get? e=some (Tf C t dx)/\E (.ref e) s₁) E s) :
  wpAny (model prog w) A (raiseStmt env (some x) none) Q E s:=by
 have hcB:(Value.ref C::bm).contains (.type "BaseException")=true:=by rw[VD,hbase,Bool.or_true]
 unfold raiseStmt;refine WE (Qz h (λv s₁ h₁=>?_) λ_ _ x=>x);obtain⟨e,t,dx,rfl,hC,he,hE⟩:=h₁;obtain⟨hp,g,d,tk,os⟩:=s₁;unfold Tf at he
 repeat (first|with_reducible refine Q8 he ?_|with_reducible refine Q8 hC ?_|(with_reducible refine V8 hC ?_;rw[hcB])|wp_step)
 exact wpAny_raiseNew_none hh hE
def Zdk(Fn:ExcBaseFacts Bn newId inN bmN)(hBn:bmB.contains (.type Bn)=true)(F:ExcBaseFacts B nid initId bmB){mN x np cpos pos args fI oI Q}(hbase:bm.contains (.type "BaseException")=true)(hh:A.handled=none)(hplain:(backTo cpos<|starEach args env).any (·.1)=false)(hi:mN "__init__"=some (.ref fI))(hfc:oI.cls=.type "function")
  (h:wpAny (model prog w) A (eval (.Name x np) env) (λf s₁=>f=.ref C/\wpAny (model prog w) A (evalArgs (.ref C) true (backTo cpos<|starEach args env) [])
   (λa s₂=>a.kw=[]/\a.pos.length<=sizeLine/\s₂.heap.get? C=some (excClassObj nm q C N bs bm hdct sn sub ab col dd k0 k1 k2 k3 k5 newId)/\s₂.heap.Ns N mN/\OwnTail s₂.heap bmB bm/\s₂.heap.get? fI=some oI/\
    ∀h' e,Heap.MadeExcOf s₂.heap h' e (.ref C) a.pos->wpAny (model prog w) (A.under<|.builtin "type.__call__" ⟨.ref C::a.pos,[]⟩) (call (.ref fI) (.ref e::a.pos))
     (λr s'=>r=.none/\s'.heap.get? C=some (excClassObj nm q C N bs bm hdct sn sub ab col dd k0 k1 k2 k3 k5 newId)/\(∃t dx,s'.heap.get? e=some (Tf C t dx))/\E (.ref e) s') E {s₂ with heap:=h'}) E s₁) E s) :
  wpAny (model prog w) A (exec (.Raise (some<|.Call (.Name x np) args [] cpos) none pos) env) Q E s:=by
 refine WE (VS<|Zdp (C:=C) (nm:=nm) (q:=q) (N:=N) (bs:=bs) (hdct:=hdct) (sn:=sn) (sub:=sub) (ab:=ab) (col:=col) (dd:=dd) (k0:=k0) (k1:=k1) (k2:=k2) (k3:=k3) (k5:=k5) (newId:=newId) hbase hh<|WE (Qz (wpAny_Call_ofName (Qz h (λf s₁ h₁=>?_) λ_ _ x=>x)) (λv s₃ h₃=>WE (VS<|WL h₃)) λ_ _ x=>x));obtain⟨rfl,h₁⟩:=h₁;refine WE (QR (Qz h₁ (λa s₂ h₂=>WE (VS ?_)) λ_ _ x=>x));obtain⟨apos,akw⟩:=a;obtain⟨hkw,hlen,hC,hn,T,hfI,h₂⟩:=h₂;obtain rfl:=hkw;simp only[hplain];refine WE (wpAny_keeperOf_exc hC ?_);refine WE (Zil Fn hBn F T hC hn hi hfI hfc λh' e hm=>Qz (h₂ h' e hm) (λr s' z=>?_) λ_ _ x=>x);obtain⟨rfl,hC',⟨t,dx,he⟩,hE⟩:=z;exact⟨rfl,WE (QR<|wpAny_point<|WL ⟨e,t,dx,rfl,hC',he,hE⟩)⟩
end
end ExcR
namespace ExcR
open L2
open Sem (wp)
open Builtin Builtin.ObjectAttr
noncomputable def NY:Yr:=[.type "ValueError",.type "Exception",.type "BaseException",.type "object"]
noncomputable def SH:Yr->Bool
 | .ref _::r=>SH r
 |l=>l==NY
theorem M2(self:Value):∀{l:Yr},SH l=true->refuseLoop self "__setattr__" l=pure ()
 | .ref c::r,e=>by rw[refuseLoop_ref];exact M2 self e
 |[],e=>rfl
 | .type n::r,e=>by
  have:=beq_iff_eq.mp e
  rw[this];exact PySem.F.store_ValueError.passes self
theorem OW:∀{l:Yr},SH l=true->l.contains (.type "object")=true
 | .ref c::r,e=>by rw[VD,OW (l:=r) e,Bool.or_true]
 |[],e=>by cases e
 | .type n::r,e=>by
  have:=beq_iff_eq.mp e
  rw[this];decide
structure BW (K:Yj) (C:Addr):Prop where
 po:(PySem.W.clsIn K C).any (λcd=>SH cd.mro&&cd.hasDict)=true
 sa:PySem.W.findIn K (.ref C) "__setattr__"=some (some<|.builtin "object.__setattr__")
section
variable {prog:Program}{w:World}{A:Around}{E:Yo}{s:Shared}{K:Yj}{x C t:Addr}{name:Str}{v:Value}
def Rt(X:K.In s.heap)(hx:s.heap.get? x=some (Tf C t none))(c:BW K C)(n:NoAttr K C name)
  (h:∀h',h'.get? x=some (Tf C t<|some s.heap.objs.size)->h'.Ns1 s.heap.objs.size (λy=>if y=name then some v else none)->(∀b o,b≠x->s.heap.get? b=some o->h'.get? b=some o)->s.heap.objs.size<=h'.objs.size->
   Q () {s with heap:=h',toks:=s.toks+2}):wpAny (model prog w) A (setAttr (.ref x) name v) Q E s:=by
 have SF:=PySem.F.store_object;have J:PySem.W.InstAt s.heap x (Tf C t none) C none:=⟨hx,rfl,rfl,True.intro⟩;obtain⟨cd,hc,ho⟩:=VQ c.po;obtain⟨ho,hd'⟩:=(Q4 _ _▸ho:_/\_);have ne:cd.mro.isEmpty=false:=by cases q:cd.mro with|nil=>rw[q]at ho;cases ho|cons _ _=>rfl
 have sub:PySem.W.Looks (model prog w) s.heap (isInstance (.ref x)<|.type "object") true:=J.type.andThen (PySem.W.looks_mroIn X<|by unfold PySem.W.mroIn;rw[hc,Option.bind_some,WN (by rw[ne];decide),OW ho]);have hm:PySem.W.Looks (model prog w) s.heap (mroOf<|.ref C) cd.mro:=(JE X hc).andThen .now;refine PySem.W.set_plain X J c.sa (V1 SF.slot.plain SF.entry (@PySem.W.check_slot (model prog w) _ _ {s with toks:=s.toks+1} "object.__setattr__" "object" "__setattr__" (.ref x) [.str name s.toks,v] [] _ SF.kind SF.split sub (SF.args (.ref x) (.str name s.toks) v) ?_))
 rw[PySem.W.osa_eq,refuse_eq];refine WE (WE<|J.type.here (s:={s with toks:=s.toks+1})<|WE<|hm.here (s:={s with toks:=s.toks+1}) ?_)
 rw[M2 _ ho];refine WL (WE<|J.type.here (s:={s with toks:=s.toks+1})<|WE<|JK (QO X n)<|WE<|WL ?_)
 refine WE (WL<|WE<|WE<|wpAny_loadPart hx<|WE<|JK (JE X hc) ?_);rw[hd'];have hx₁:(s.heap.push {cls:=.type "dict",data:=.dict #[]}).get? x=some (Tf C t none):=WM _ hx;have hxs:=Qk (WT hx);refine WE (wpAny_alloc' ?_);refine WE (wpAny_update' hx₁ ?_);refine WL ?_
 have hgd:((s.heap.push {cls:=.type "dict",data:=.dict #[]}).update x λo=>{cls:=o.cls,dict:=some s.heap.objs.size,data:=o.data,slots:=o.slots}).get? s.heap.objs.size
   = some {cls:=.type "dict",data:=.dict #[]}:=
  (Heap.get?_update_ne _ _ _ _ hxs.symm).trans (Heap.get?_push_at rfl rfl)
 have hnd:((s.heap.push {cls:=.type "dict",data:=.dict #[]}).update x λo=>{cls:=o.cls,dict:=some s.heap.objs.size,data:=o.data,slots:=o.slots}).Ns s.heap.objs.size (λ_=>none):=
  ⟨_,#[],_,hgd,rfl,λe he=>absurd he (by simp),λ_=>rfl⟩
 refine WE (WL<|WE (wpAny_nsSet1 (Heap.Ns1.of_empty hnd) λh' hn' hs=>?_));obtain⟨oD,esD,epD,hoD,hdD,hcD⟩:=hn'.count (Within.cons name v Within.nil);refine WE (wpAny_lookBehind hoD (by rw[hdD];exact pastItsLine_dict (WU hcD<|by rw[Qi,List.length_nil,JH];omega)) ?_);refine WL (h h' ?_ hn' (λb ob hbx hb=>?_) ?_)
 ·refine(hs.2 x hxs).trans (Q5 _ hx₁ rfl)
 ·exact(hs.2 b<|Qk<|WT hb).trans ((Heap.get?_update_ne _ _ _ _ hbx).trans (WM _ hb))
 ·rw[hs.1,Heap.size_update,Vm];exact VF _
end
end ExcR
namespace ExcR
open L2
open Sem (wp)
open Builtin Builtin.ObjectAttr
section
variable {prog:Program}{w:World}{A:Around}{E:Yo}{h:Heap}{g:Array GenState}{d:Drawn}{t:Nat}{os:OsState}{a C dx:Addr}{o:Obj}{K:Yj}{name:Str}{v:Value}{mA:Yn}
def RP(k:K.In h)(hh:PySem.W.hasDictIn K C=true)(hx:h.get? a=some o)(hc:o.cls=.ref C)(hd:o.dict=some dx)(nc:PySem.W.notCls o=true)(ns:h.Ns1 dx mA)(hv:mA name=some v) :
  PySem.W.Looks (model prog w) h (inOwnDict name<|.ref a) (some v):=by
 obtain⟨od,ho,hl⟩:=Hd ns;obtain⟨cd,hcd,hd'⟩:=VQ hh;refine PySem.W.looks_own k (od:=some od) ⟨hx,hc,nc,by rw[hd];exact ho⟩ hcd ?_;unfold PySem.W.ownOf
 grind
def Zpy{Q}(k:K.In h)(hh:PySem.W.hasDictIn K C=true)(n:NoAttr K C name)(hx:h.get? a=some o)(hc:o.cls=.ref C)(hd:o.dict=some dx)(nc:PySem.W.notCls o=true)(ns:h.Ns1 dx mA)(hv:mA name=some v)(hq:Q (.done<|.ret v) ⟨h,g,d,t,os⟩):wpAny (model prog w) A (Builtin.«object.__getattribute__» ⟨[.ref a,.str name tk],[]⟩) Q E ⟨h,g,d,t,os⟩:=by
 have L:=QO (M:=model prog w) k n
 repeat (any_goals (first|assumption|(with_reducible refine Q8 hx ?_;rw[hc])|with_reducible refine L.at ?_|with_reducible refine(RP (prog:=prog) (w:=w) k hh hx hc hd nc ns hv).at ?_|wp_step))
def Zf2{fill expr Q}(k:K.In h)(ga:PySem.W.findIn K (.ref C) "__getattribute__"=some (some<|.builtin "BaseException.__getattribute__"))(gt:PySem.W.findIn K (.ref C) "__getattr__"=some none)(ck:∀{A E t u} {Q:Unit->Shared->Prop},Q () ⟨h,g,d,t,os⟩->wpAny (model prog w) A (checkBuiltinCall "BaseException.__getattribute__" ⟨[.ref a,u],[]⟩) Q E ⟨h,g,d,t,os⟩)(hh:PySem.W.hasDictIn K C=true)(n:NoAttr K C name)(hx:h.get? a=some o)(hc:o.cls=.ref C)(hd:o.dict=some dx)(nc:PySem.W.notCls o=true)(ns:h.Ns1 dx mA)(hv:mA name=some v)(hv':PySem.W.handedIn v=true)(hq:Q v ⟨h,g,d,t,os⟩):wpAny (model prog w) A (getAttrBy (.ref a) (.str name tk) fill expr) Q E ⟨h,g,d,t,os⟩:=by
 have f0:=F.attrBase_ValueError.ga.bind (.ref a);have hx0:(expr&&onTheHeap (Value.builtin "BaseException.__getattribute__"))=false:=by cases expr<;>rfl
 have x2:(Value.builtin "BaseException.__getattribute__" == Value.builtin "object.__getattribute__")=false:=by decide +kernel
 have x1:(onTheHeap (Value.ref C)&&Value.builtin "BaseException.__getattribute__" == Value.builtin "object.__getattribute__")=false:=by rw[x2];rfl
 have L:=QO (M:=model prog w) k ga;have L2:=QO (M:=model prog w) k gt
 repeat (any_goals (first|assumption|(with_reducible refine Q8 hx ?_;rw[hc])|with_reducible refine L.at ?_|with_reducible refine L2.at ?_|wp_step))
 refine V1 F.attrBase_ValueError.ga.plain F.entry_bexc_ga (ck<|Zpy k hh n hx hc hd nc ns hv ?_);have hh':=PySem.W.handedOut_of hv';unfold handedOut at hh'
 repeat (any_goals (first|assumption|rw[hh']|wp_step))
def Zg8{Q}(k:K.In h)(ga:PySem.W.findIn K (.ref C) "__getattribute__"=some (some<|.builtin "BaseException.__getattribute__"))(gt:PySem.W.findIn K (.ref C) "__getattr__"=some none)(ck:∀{A E t u} {Q:Unit->Shared->Prop},Q () ⟨h,g,d,t,os⟩->wpAny (model prog w) A (checkBuiltinCall "BaseException.__getattribute__" ⟨[.ref a,u],[]⟩) Q E ⟨h,g,d,t,os⟩)(hh:PySem.W.hasDictIn K C=true)(n:NoAttr K C name)(hx:h.get? a=some o)(hc:o.cls=.ref C)(hd:o.dict=some dx)(nc:PySem.W.notCls o=true)(ns:h.Ns1 dx mA)(hv:mA name=some v)(hv':PySem.W.handedIn v=true)(hq:Q v ⟨h,g,d,t+1,os⟩):wpAny (model prog w) A (getAttr (.ref a) name expr) Q E ⟨h,g,d,t,os⟩:=by
 repeat (any_goals (first|assumption|with_reducible apply Zf2 k ga gt ck hh n hx hc hd nc ns hv hv'|wp_step))
end
end ExcR
namespace ExcR
open L2
section
variable {X:Cx}{pins:Ym}{σ:L2.St}{H:Hp}{s:Shared}{a b:Addr}
def OQ(I:Inv X pins σ H s)(hn:H b=none)(hL:b≠X.env.locals)(hc:∀x c,X.env.cells.lookup x=some c->c≠b)(hp:∀p∈X.pn++pins,p.1≠b)(ne:∀c u,X.s₀.heap.get? c=some u->c≠b)(new:ObjOk X.prog X.w (upd H b o) s.heap b o):Inv X pins σ (upd H b o) s:=by
 refine⟨I.ok,I.os,I.bare,⟨λc u g n1 n2 n3=>I.base.keep c u g n1 n2 n3,λc u g n1 n2 n3=>I.base.slot c u g n1 n2 n3,λc u g n1 n2=>?_,I.base.there,λc ys g=>?_,λc u v g=>?_,λc ps g=>?_⟩,I.loc,I.cell,?_,λx c g=>?_,λp hp'=>?_,?_,I.len⟩
 ·rw[Xr (ne c u g)];exact I.base.free c u g n1 n2
 ·rw[Xr (Kw (I.base.tups c ys g) hn)];exact I.base.tups c ys g
 ·rw[Xr (Kw (I.base.frzs c u v g) hn)];exact I.base.frzs c u v g
 ·obtain⟨m,q⟩:=I.base.tbls c ps g;exact⟨m,by rw[Xr (Kw q hn)];exact q⟩
 ·rw[Xr (Ne.symm hL)];exact I.free
 ·rw[Xr (hc x c g)];exact I.freeC x c g
 ·obtain⟨a1,a2,a3,a4,a5⟩:=I.pin p hp';exact⟨a1,by rw[Xr (hp p hp')];exact a2,a3,a4,a5⟩
 ·exact Lam.RL I.hok hn new
def Zgl(I:Inv X pins σ H s)(hex:X.ex=[])(na:s.heap.get? b=none)(k:∀c u,s.heap.get? c=some u->h'.get? c=some u)(new:ObjOk X.prog X.w (upd H b o) h' b o) :
  Inv X pins σ (upd H b o) {s with heap:=h',toks:=t'}:=by
 have ne:∀{c u},s.heap.get? c=some u->c≠b:=λ{c u} e z=>by rw[z,na]at e;cases e
 refine OQ (I.kept k) (Ej I.hok na) ?_ (λx c e=>?_) (λp hp=>ne (I.pin p hp).1) (λc u e=>?_) new
 ·obtain⟨m,⟨o1,es,ep,e1,_⟩,_⟩:=I.loc
  grind
 ·obtain⟨v,o1,e1,_⟩:=I.cell x c e
  grind
 ·obtain⟨u1,e1⟩:=I.base.there c u e (by grind);exact ne e1
noncomputable def er(H:Hp)(a:Addr):Hp:=λb=>if b=a then none else H b
def BD:er H a a=none:=by unfold er;rw[WO rfl]
def TX(h:b≠a):er H a b=H b:=by unfold er;rw[WN h]
def Zpp(h:er H a b=some o):H b=some o:=by
 by_cases z:b=a
 ·rw[z,BD]at h;cases h
 ·rw[TX z]at h;exact h
def forget(I:Inv X pins σ H s)(ha:H a=some (.ext φ)):Inv X pins σ (er H a) s:=by
 have ne:∀{c o},H c=some o->(∀ψ,o≠HO.ext ψ)->c≠a:=λ{c o} e n z=>by rw[z,ha]at e;exact n _ (WW e).symm
 have no:∀{c},H c=none->er H a c=none:=λ{c} e=>by
  by_cases z:c=a
  ·rw[z];exact BD
  ·rw[TX z];exact e
 refine⟨I.ok,I.os,I.bare,⟨λc u g n1 n2 n3=>I.base.keep c u g n1 n2 n3,λc u g n1 n2 n3=>I.base.slot c u g n1 n2 n3,λc u g n1 n2=>no (I.base.free c u g n1 n2),I.base.there,λc ys g=>?_,λc u v g=>?_,λc ps g=>?_⟩,I.loc,I.cell,no I.free,λx c g=>no (I.freeC x c g),λp hp'=>?_,λc o e=>?_,I.len⟩
 ·have q:=I.base.tups c ys g;rw[TX (ne q λ_ z=>nomatch z)];exact q
 ·have q:=I.base.frzs c u v g;rw[TX (ne q λ_ z=>nomatch z)];exact q
 ·obtain⟨m,q⟩:=I.base.tbls c ps g;exact⟨m,by rw[TX (ne q λ_ z=>nomatch z)];exact q⟩
 ·obtain⟨a1,a2,a3,a4,a5⟩:=I.pin p hp'
  grind
 ·refine(I.hok c o<|Zpp e).stay (λ_ _ _ z=>z) (λd z=>?_) λd xs z=>?_
  ·rw[TX (ne z λ_ w=>nomatch w)];exact z
  ·rw[TX (ne z λ_ w=>nomatch w)];exact z
def Zcg(I:Inv X pins σ H s)(h:H l=some (.lst xs)):∃o,Inv X pins σ (upd H l<|.frz o<|.lst xs) s:=by
 obtain⟨z,its,n,r,e⟩:=(I.hok l _ h);exact⟨_,Ft I (by rw[h];trivial) ⟨rfl,λ_ _=>rfl⟩ ⟨_,e⟩ ⟨e,z,its,n,r,e⟩⟩
end
def Zjl(K:Yj)(C f:Addr):Prop:=∃(dd:Yw) (cd:ClassData) (sl:Array (Yv)) (bm:Yr) (k0 k1 k2 k3 k5:Yv),K.lookup C=some ⟨.type "type",dd,.cls cd,sl⟩/\cd.mro=.ref C::bm/\
 sl.toList=[k0,k1,k2,k3,some (.builtin "ValueError.__new__"),k5]/\cd.hasDel=false/\PySem.W.tailIn K NY bm=true/\PySem.W.nsOkIn K cd.ns=true/\PySem.W.nsIn K cd.ns "__init__"=some (some<|.ref f)
def Zk6{K h N mg n v}(X:K.In h)(G:h.Ns N mg)(e:PySem.W.nsIn K N n=some (some v)):mg n=some v:=by
 obtain⟨o,es,ep,ho,hd,_,hf⟩:=G;unfold PySem.W.nsIn at e;split at e
 ·rename_i c d es' n' sl q
  have:=X _ _ q
  split at e
  ·rename_i en he;rw[←hf];unfold nsFind findBy
   grind
  ·grind
 ·cases e
structure KD (K:Yj) (C f:Addr):Prop where
 q:Zjl K C f
 fn:PySem.W.typeIn K (.ref f)=some (.type "function")
 st:BW K C
 ga:PySem.W.findIn K (.ref C) "__getattribute__"=some (some<|.builtin "BaseException.__getattribute__")
 gt:PySem.W.findIn K (.ref C) "__getattr__"=some none
 nm:NoAttr K C "members"
 cl:PySem.W.findIn K (.ref C) "__class__"=some (some<|.builtin "object.__class__")
def KD.hd {K C f} (c:KD K C f):PySem.W.hasDictIn K C=true:=by
 obtain⟨cd,h1,h2⟩:=VQ c.st.po;unfold PySem.W.hasDictIn
 grind
def KD.obj {K C f h} (c:KD K C f) (k:K.In h):∃bm N nm q bs hdct sn sub ab col dd k0 k1 k2 k3 k5 mN,h.get? C=some (excClassObj nm q C N bs bm hdct sn sub ab col dd k0 k1 k2 k3 k5 "ValueError.__new__")/\h.Ns N mN/\mN "__init__"=some (.ref f)/\
  OwnTail h NY bm:=by
 obtain⟨dd,cd,sl,bm,k0,k1,k2,k3,k5,ho,hm,hs,e3,e4,e5,e6⟩:=c.q;have hg:=k _ _ ho;cases cd with
 |mk nm bs mro ns qn hd sn sub ab col del=>
  simp only at hm e3 e5 e6;have hsl:sl=#[k0,k1,k2,k3,some (.builtin "ValueError.__new__"),k5]:=by grind
  rw[hm,e3,hsl]at hg;exact⟨bm,ns,nm,qn,bs,hd,sn,sub,ab,col,dd,k0,k1,k2,k3,k5,_,hg,.of_isNs (JN k e5),Zk6 k (.of_isNs<|JN k e5) e6,PySem.W.tail_of_in k e4⟩
def KD.any {K C f} (c:KD K C f):Pr K C:=
 ⟨λk=>by
  obtain⟨bm,N,nm,q,bs,hdct,sn,sub,ab,col,dd,k0,k1,k2,k3,k5,mN,hC,hN,hni,hT⟩:=c.obj k
  exact⟨bm,N,nm,q,bs,hdct,sn,sub,ab,col,dd,k0,k1,k2,k3,k5,hC,hT⟩,c.ga,c.gt,c.cl,by
   obtain⟨cd,h1,_⟩:=VQ c.st.po;rw[h1];rfl⟩
noncomputable def PN(a C t:Addr)(dx:Yw):HO:=.ext λh=>h.get? a=some (Tf C t dx)
def HE{a C t dx}(e:h.get? a=some (Tf C t dx)):ObjOk P w H h a (PN a C t dx):=⟨e,⟨_,e⟩,λ_ _ q k=>k _ q⟩
noncomputable def OZ(K:Yj)(f:Str)(ta te:TE):TS:=λD σ H=>te σ H λy H1=>ta σ H1 λx H2=>∃a C t l xs,x=.ref a/\y=.ref l/\H2 a=some (PN a C t none)/\BW K C/\NoAttr K C f/\H2 l=some (.lst xs)/\
 ∀o dx,H2 dx=none->D.nx σ (upd (upd (upd H2 l<|.frz o<|.lst xs) a<|PN a C t<|some dx) dx<|.xd [(f,.ref l)])
def Zhy{pos pos'}{ta tv}(ha:PE X o ta)(hv:PE X value tv)(hs:swapsWith value (some<|.Attribute o f pos') pos.line X.env=pure false):PS X (.Assign [.Attribute o f pos'] value pos) (OZ X.K f ta tv):=by
 intro pins s σ H D I h;refine plainObj_wpAny_Assign_Attribute (thn (hv pins s σ H _ I h) ?_) hs;rintro u s1 ⟨y,H1,I1,ry,q⟩;refine thn (ha pins s1 σ H1 _ I1 q) ?_;rintro ov s2 ⟨x,H2,I2,rx,a,C,t,l,xs,ex,ey,ea,c,n,hl,q2⟩;subst ex ey;obtain rfl:=rx;obtain rfl:=ry;obtain⟨ob,I3⟩:=Zcg I2 hl;have ea3:upd H2 l (.frz ob<|.lst xs) a=some (PN a C t none):=by rw[Xr (Ep ea hl λz=>nomatch z)];exact ea
 have hn:=I2.hok.fresh (WQ _);refine Rt I2.kIn ((I2.hok a _ ea).1) c n λh' h1 h2 h3 h4=>?_;have f0:=I3.fpOk (H':=upd (upd H2 l<|.frz ob<|.lst xs) a (PN a C t<|some s2.heap.objs.size)) (WQ _) (by rw[Xr (Kw ea hn |>.symm)];exact(I3.hok.fresh<|WQ _))
 have I4:Inv X pins σ (upd (upd H2 l<|.frz ob<|.lst xs) a<|PN a C t<|some s2.heap.objs.size) {s2 with heap:=h',toks:=s2.toks+2}:=
  I3.write (by rw[ea3];exact True.intro) (.inl rfl) (λb q hb z=>h3 b q hb z) ⟨_,h1⟩ (HE h1)
 have I5:=OQ (o:=.xd [(f,.ref l)]) I4 f0.1 f0.2.1 f0.2.2.2.2.1 f0.2.2.2.2.2 (λc u e z=>by
  have:=WT e
  rw[z]at this
  exact absurd (Qq this I2.sz) (QP _)) ⟨_,h2,λg=>by
   by_cases hb:g=f
   ·subst hb;simp only[List.lookup,beq_self_eq_true];exact rfl
   ·rw[WN hb];simp only[List.lookup,Vk.mpr hb];exact True.intro⟩
 exact⟨σ,_,I5,q2 ob _ hn⟩
noncomputable def Hw(K:Yj)(f:Str)(ta:TE):TE:=λσ H Q=>ta σ H λx H1=>∃a C g dx fs v,x=.ref a/\H1 a=some (KY a C<|some dx)/\KD K C g/\NoAttr K C f/\H1 dx=some (.xd fs)/\fs.lookup f=some v/\Q v H1
def Zn7{h g d t os a C f o K v Q}(k:K.In h)(G:KD K C f)(hx:h.get? a=some o)(hc:o.cls=.ref C)(hq:Q () ⟨h,g,d,t,os⟩) :
  wpAny (model prog w) A (checkBuiltinCall "BaseException.__getattribute__" ⟨[.ref a,v],[]⟩) Q E ⟨h,g,d,t,os⟩:=by
 obtain⟨bm,N,nm,q,bs,hdct,sn,sub,ab,col,dd,k0,k1,k2,k3,k5,mN,hC,hN,hni,hT⟩:=G.obj k;have hbe:(Value.ref C::bm).contains (.type "BaseException")=true:=by rw[VD,hT.hasType (b:=true) (by decide +kernel)];rfl
 have e1:builtinKind "BaseException.__getattribute__"=some .slot:=by decide +kernel
 have e2:splitId "BaseException.__getattribute__"=some ("BaseException","__getattribute__"):=by decide +kernel
 have e3:=F.args_bexc_ga (.ref a) v;simp only[checkBuiltinCall,e1,e2];refine WE ?_;unfold isInstance
 repeat (first|(with_reducible refine Q8 hx ?_;rw[hc])|(with_reducible refine V8 hC ?_;rw[hbe])|wp_step)
 exact hq
def Zh9{ta}(he:PE X e ta)(hb:attributeBase e f X.env (eval e X.env)=eval e X.env):PE X (.Attribute e f pos) (Hw X.K f ta):=by
 intro pins s σ H Q I h;refine Hn hb (thn (he pins s σ H _ I h) ?_);rintro u s1 ⟨x,H1,I1,rx,a,C,g,dx,fs,v,ex,ea,c,n,hd,l,q⟩;subst ex;obtain rfl:=rx;obtain⟨⟨o,g1,g2,vs,g3⟩,_⟩:=(I1.hok a _ ea);obtain⟨mA,ns,rl⟩:=(I1.hok dx _ hd);obtain⟨w,hw,rw'⟩:=RelO.some_of (by rw[←l];exact rl f);have hc:=Q2 Prod.fst g2;refine Zg8 I1.kIn c.ga c.gt (λhq=>Zn7 I1.kIn c g1 hc hq) c.hd n g1 hc (Q2 Prod.snd g2) (by unfold PySem.W.notCls;rw[g3]) ns hw (EZ rw') ⟨v,H1,I1.tok _,rw',q⟩
def LQ(X:Cx)(E:XK):Prop:=∀(pins:Ym) (σ:L2.St) (H:Hp) (s:Shared) (C a t:Addr) (dx:Yw),Inv X pins σ H s->s.heap.get? a=some (Tf C t dx)->H a=none->X.s₀.heap.get? a=none->E (.ref C) dx H->X.xe (.ref a) s
noncomputable def Br(K:Yj):Sp:=λvs H Q _=>∃(a C t p:Addr) (xs:List V),vs=[.ref a,.ref p]/\H a=some (PN a C t none)/\SqL K H p xs/\BW K C/\NoAttr K C "members"/\
 ∀(l dx:Addr) (o:Obj),H l=none->H dx=none->dx≠l->Q .non (upd (upd (upd H l<|.frz o<|.lst xs) a<|PN a C t<|some dx) dx<|.xd [("members",.ref l)])
noncomputable def Ik(K:Yj)(C:Addr)(E:XK)(t:TA):TS:=λ_ σ H=>t σ H λvs H1=>∃(p:Addr) (xs:List V),vs=[.ref p]/\SqL K H1 p xs/\
 ∀(l dx:Addr) (o:Obj),H1 l=none->H1 dx=none->dx≠l->E (.ref C) (some dx) (upd (upd H1 l<|.frz o<|.lst xs) dx<|.xd [("members",.ref l)])
def Zi2{a l dx o0 o1 F D}(ha:H a=none)(hl:l≠a)(hd:dx≠a):er (upd (upd (upd (upd H a o0) l F) a o1) dx D) a=upd (upd H l F) dx D:=by
 funext b;by_cases z:b=a
 ·subst z;rw[BD,Xr (Ne.symm hd),Xr (Ne.symm hl),ha]
 ·rw[TX z];by_cases y:b=dx
  ·rw[y,X4,X4]
  ·rw[Xr y,Xr y,Xr z];by_cases x:b=l
   ·rw[x,X4,X4]
   ·rw[Xr x,Xr x,Xr z]
section
variable {X:Cx}{x:Str}{C:Addr}{E:XK}{e:Expr}{t:TA}{p cpos pos:Pos}{k:Nat}{ps:Ys}
def Zaa(Ci:Pu.Pa X.prog X.w X.K X.mg X.base CX0 k (KD X.K C) ps (Br X.K))(hr:Xv (k+1) X.A)(hm:X.mg x=some (.ref C))(hR:LQ X E)(hex:X.ex=[])(hc:X.calm=true)(ha:PA X [e] t)(hg:autoParam (Gl X x) au_0)(hdb:autoParam ((x==("__debug__" : Str))=false) au_1)(he:autoParam (starEach [e] X.env=[(false,eval e X.env)]) au_0):PS X (.Raise (some<|.Call (.Name x p) [e] [] cpos) none pos) (Ik X.K C E t):=by
 obtain⟨f,fd,F,G,hb⟩:=Ci.ex;intro pins s σ H D I h;obtain⟨bm,N,nm,q,bs,hdct,sn,sub,ab,col,dd,k0,k1,k2,k3,k5,mN,hC,hN,hni,hT⟩:=G.obj I.ok.mod.kin;obtain⟨oI,hoI,hcI⟩:=Option.map_eq_some_iff.mp G.fn
 have hpl:(backTo cpos<|starEach [e] X.env).any (·.1)=false:=by
  rw[he];rfl
 refine Zdk (nm:=nm) (q:=q) (N:=N) (bs:=bs) (hdct:=hdct) (sn:=sn) (sub:=sub) (ab:=ab) (col:=col) (dd:=dd) (k0:=k0) (k1:=k1) (k2:=k2) (k3:=k3) (k5:=k5)
  Vv (by decide +kernel) Vv (hT.hasType<|by decide +kernel) (I.ok.hd hc) hpl hni hcI (NX I hg hm ⟨rfl,?_⟩ hdb)
 have hA:=ha cpos pins s σ H _ I h;rw[he]at hA ⊢;refine J6 (thn hA ?_);rintro us s2 ⟨vs,H2,I2,r2,p2,xs,ev,hp,q2⟩;subst ev;obtain⟨u,rfl,ru⟩:=r2.one;obtain rfl:=ru;refine⟨rfl,by show 1<=_;rw[JH];omega,I2.bk _ _ hC,hN.keeps I2.bk,hT.keeps I2.bk,I2.bk _ _ (I.ok.mod.kin _ _ hoI),λh' a hm'=>?_⟩;obtain⟨t0,ht,_,_⟩:=hm'.there;have na:=Ej I2.hok hm'.new;have I3:=Zgl (t':=s2.toks) I2 hex hm'.new hm'.keeps (HE ht)
 have hsp:Br X.K [.ref a,.ref p2] (upd H2 a<|PN a C t0 none) (λv H3=>v=.non/\∃l dx o,H2 l=none/\H2 dx=none/\dx≠l/\l≠a/\dx≠a/\H3=upd (upd (upd (upd H2 a<|PN a C t0 none) l<|.frz o<|.lst xs) a<|PN a C t0<|some dx) dx (.xd [("members",.ref l)])) (λ_ _ _=>False):=by
  refine⟨a,C,t0,p2,xs,rfl,X4,(Own.Kb na).seq hp,G.st,G.nm,λl dx o h1 h2 h3=>⟨rfl,l,dx,o,?_⟩⟩;have e1:l≠a:=λz=>by rw[z,X4]at h1;cases h1
  have e2:dx≠a:=λz=>by rw[z,X4]at h2;cases h2
  rw[Xr e1]at h1;rw[Xr e2]at h2;exact⟨h1,h2,h3,e1,e2,rfl⟩
 have r3:Vals [V.ref a,V.ref p2] [Value.ref a,Value.ref p2]:=.cons rfl (.cons rfl .nil)
 have hl:([Value.ref a,Value.ref p2]++[]).length=ps.length:=by
  have:=F.len _ _ _ _ hsp
  exact this
 refine J4 (Vp (F.run _ X.stack _ _ ⟨[Value.ref a,Value.ref p2],[]⟩ [Value.ref a,Value.ref p2] _ _ (λ_ _ _=>False) (hr.make C [.ref p2] []) (I3.env0.make C [.ref p2] []) (hb _ [Value.ref a,Value.ref p2] I3.kIn hl) r3 hsp) λr s' hq'=>?_);cases r with
 |error e=>exact False.elim hq'
 |ok fl=>
  cases fl with
  |ret u=>
   obtain⟨v,H',I4,rv,ev,l,dx,o,n1,n2,n3,n4,n5,eH⟩:=I3.after hq';subst ev;obtain rfl:=rv;have ea:H' a=some (PN a C t0<|some dx):=by rw[eH,Xr (Ne.symm n5),X4]
   have hg':=(I4.hok a _ ea).1;refine⟨rfl,I4.bk _ _ hC,⟨t0,some dx,hg'⟩,hR pins σ (er H' a) s' C a t0 (some dx) (forget I4 ea) hg' BD (Sx I2 hex hm'.new) ?_⟩;rw[eH,Zi2 na n4 n5];exact q2 l dx o n1 n2 n3
  |_=>exact False.elim hq'
def Rx{K mg base N qual scope f cd A outer s H E} :
  LQ (XY (CXe P w) P w K mg base N qual scope f cd A outer s H E) E:=by
 intro pins σ H1 s1 C a t dx I hg fa na q;exact Qz (M9 I rfl rfl rfl na fa hg rfl rfl rfl rfl) (λ_ s3 ⟨T2,y⟩=>⟨a,T2,C,dx,H1,rfl,y,q⟩) λ_ _ z=>z
def Zoi{K vs H Q E D}(h:Br K vs H Q E)(hD:D.nx=λ_ H'=>Q .non H') :
  OZ K "members" (Kz 0) (tCB (λxs H Q=>∃p ys,xs=[.ref p]/\(SqL K H p ys\/SqT K H p ys)/\∀l,H l=none->Q (.ref l) (upd H l<|.lst ys))<|Kl (Kz 1) KO) D (start ["self","members"] vs) H:=by
 obtain⟨a,C,t,p,xs,rfl,ha,hp,c,n,q⟩:=h;refine⟨_,rfl,p,xs,rfl,.inl hp,λl nl=>⟨_,rfl,a,C,t,l,xs,rfl,rfl,?_,c,n,X4,λo dx nd=>?_⟩⟩
 ·rw[Xr (Kw ha nl)];exact ha
 ·have e1:dx≠l:=λz=>by rw[z,X4]at nd;cases nd
  rw[Xr e1]at nd;rw[hD,Mg]
  grind
end
end ExcR
namespace Pu
open L2 Own M
section
variable {K:Yj}{mg:Yn}{E:L2.St->XK}{H0 H H1 H':Hp}{B Z Z':Addr->Prop}{σ:L2.St}{γ:Γ}
theorem IJ:∀{ns:Yl}{vs:List V},Rps K H (ns.map D.int) vs->vs=ns.map V.int
 |[],_,h=>by cases h;rfl
 |n::ns,_,h=>by
  cases h with
  |cons h r=>rw[IJ r,h.int_inv];rfl
noncomputable def Zed(r:PTA):PTS:=λR γ=>r γ (λss=>match ss with
 |[s]=>(∃ns:Yl,s.d=.lst (ns.map D.int)/\R.ex γ (PX ns))
 |_=>False) (R.ex γ)
def Zf4{Ec}(hr:X6 K mg (λ_=>Ec) ta r):Xy K mg (λ_=>Ec) (ExcR.Ik K (ExcR.Xl mg "Ringed") Ec ta) (Zed r):=by
 intro H0 B H σ γ R D hB env h e;refine hr H0 B H σ γ _ _ _ env h (λss vs H1 h1 S1 t1=>?_) λc H' hc S'=>e.ex σ γ c H' hc (env.grow S') (Fr.grow S');split at h1
 ·rename_i s;obtain⟨ns,ed,h2⟩:=h1;obtain⟨v,rfl,tv⟩:=t1.one_inv;have rv:=tv.rp (env.grow S1).same;rw[ed]at rv;obtain⟨p,vs,rfl,hp,rr⟩:=rv.lst_inv;rw[IJ rr]at hp;refine⟨p,_,rfl,SqL.of hp,λl dx o nl nd ne=>?_⟩;have S2:Same H1 (upd (upd H1 l<|.frz o<|.lst<|ns.map V.int) dx<|.xd [("members",.ref l)]):=(Kb nl).trans (Kb<|by rw[Xr ne];exact nd);have S3:=S1.trans S2;exact(e.ex σ γ (PX ns) _ h2 (env.grow S3)<|Fr.grow S3).mem X4 (by rw[Xr (Ne.symm ne)];exact X4)
 ·grind
noncomputable def Zet(C0:Addr)(a:PTE):PTE:=λγ R X=>a γ (λs=>match s.d with
 | .erM C r=>C=C0/\R (.sh<|.fL r)
 |_=>False) X
def Zaj(hc:∃g,ExcR.KD K C0 g)(ha:Xj K mg E te a):Xj K mg E (ExcR.Hw K "members" te) (Zet C0 a):=by
 obtain⟨g,c⟩:=hc;intro H0 B H σ γ R X Q env p q qx;refine ha H0 B H σ γ _ X _ env p (λs v H1 h1 S1 t1=>?_) qx;have env1:=env.grow S1;have rv:=t1.rp env1.same;split at h1
 ·rename_i C r ed;obtain⟨rfl,h2⟩:=h1;rw[ed]at rv;obtain⟨b,dx,l,o,rfl,g1,g2,g3⟩:=rv.erM_inv;exact⟨b,_,g,dx,_,.ref l,rfl,g1,c,c.nm,g2,rfl,q _ _ H1 h2 S1 (.fL (XS g3 λz=>by have:=env1.zm l z;rw[g3]at this;exact this))⟩
 ·grind
end
end Pu
namespace Pu
open L2 Own
structure RI (K:Yj) (x:Str) (C:Addr) (q:Str) (st:Stmt):Prop where
 a:PySem.W.nsIn K mainGlobals x=some (some<|.ref C)
 ex:∃f fd,ExcR.KD K C f/\Fun K "__init__" q st f fd
section
variable {K:Yj}{h:Heap}{mg:Yn}{x q:Str}{st:Stmt}{C M N f:Addr}
def Zn9{cd:ClassData}(m:PySem.W.excIn K M ExcR.NY "ValueError.__new__"=true):PySem.W.tailIn K ExcR.NY (.ref M::ExcR.NY)=true:=by
 unfold PySem.W.excIn at m;split at m
 next dd cd sl ho=>
  split at m
  next C1 bm k0 k1 k2 k3 n k5 hm hs=>
   simp only[Q4,beq_iff_eq,Bool.not_eq_true']at m;obtain⟨⟨⟨_,e4⟩,e5⟩,e6⟩:=m;unfold PySem.W.tailIn;rw[Bool.or_eq_true];right
   try dsimp only
   rw[ho]
   try dsimp only
   rw[e5,e6];rfl
  grind
 next=>cases m
def ri{cd sl s1 k0 k1 k2 k3 k5 c1 es n oc od an osl kV doc pm cdv ct}(a:PySem.W.nsIn K mainGlobals x=some (some<|.ref C))(l:K.lookup C=some ⟨.type "type",dd,.cls cd,sl⟩)(mr:cd.mro=.ref C :: .ref M::[.type "ValueError",.type "Exception",.type "BaseException",.type "object"])(dl:cd.hasDel=false)(hdt:cd.hasDict=true)(hsl:sl.toList=[k0,k1,k2,k3,some (.builtin "ValueError.__new__"),k5])(hN:cd.ns=N)(lN:K.lookup N=some ⟨c1,d1,.dict es n,s1⟩)(okN:(es.toList.all λe=>match e.key with | .str _ _=>true|_=>false)=true)(i:PySem.W.nsIn K N "__init__"=some (some<|.ref f))(m:PySem.W.excIn K M [.type "ValueError",.type "Exception",.type "BaseException",.type "object"] "ValueError.__new__"=true)(fn:PySem.W.isFn K (.ref f)=true)(sa:PySem.W.findIn K (.ref C) "__setattr__"=some (some<|.builtin "object.__setattr__"))(ga:PySem.W.findIn K (.ref C) "__getattribute__"=some (some<|.builtin "BaseException.__getattribute__"))(gt:PySem.W.findIn K (.ref C) "__getattr__"=some none)(kl:PySem.W.findIn K (.ref C) "__class__"=some (some<|.builtin "object.__class__"))(nm:PySem.W.findIn K (.ref C) "members"=some none)(lf:K.lookup f=some ⟨oc,od,.func (PySem.W.fnOf "__init__" q (Pm st) (XQ st) (Xk st) .none kV doc pm an cdv ct),osl⟩)(c:PySem.W.codeIn K cdv q=true)(k:PySem.W.keepIn K (.ref f)=true):RI K x C q st:=by
 have cl:PySem.W.clsIn K C=some cd:=by unfold PySem.W.clsIn;rw[l]
 refine⟨a,f,_,⟨?_,beq_iff_eq.mp fn,⟨?_,sa⟩,ga,gt,nm,kl⟩,BU lf c k⟩
 ·refine⟨dd,cd,sl,_,k0,k1,k2,k3,k5,l,mr,hsl,dl,Zn9 (cd:=cd) m,?_,by rw[hN];exact i⟩;rw[hN];unfold PySem.W.nsOkIn;rw[lN];show(es.all _)=true;rw[←Array.all_toList];omega
 ·rw[cl];show(ExcR.SH cd.mro&&cd.hasDict)=true;rw[mr,hdt];rfl
def RI.c (y:RI K x C q st) (X:K.In h) (G0:h.Ns mainGlobals mg):ExcR.Xl mg x=C:=ExcR.Dn (QF X G0 y.a)
def RI.m (y:RI K x C q st) (X:K.In h) (G0:h.Ns mainGlobals mg):mg x=some (.ref<|ExcR.Xl mg x):=by rw[y.c X G0];exact QF X G0 y.a
def RI.i (y:RI K x C q st) (X:K.In h) (G0:h.Ns mainGlobals mg):∃g,ExcR.KD K (ExcR.Xl mg x) g:=by
 obtain⟨f,fd,e,_⟩:=y.ex;rw[y.c X G0]
 grind
def RI.d (y:RI K x C q st) (e:C'=C)
  (b:∀kV doc pm an cdv ct us,us.length=ps.length->bindArgs (PySem.W.fnOf "__init__" q (Pm st) (XQ st) (Xk st) .none kV doc pm an cdv ct) ⟨us,[]⟩=pure (ps.zip us)):XA K (ExcR.KD K C') "__init__" q st ps:=
 let ⟨_,_,i,F⟩:=y.ex
 ⟨_,_,F,by rw[e];exact i,F.binds b⟩
def RI.j (y:RI K x C q st) (e:C'=C) (b:Bd "__init__" q st ps:=by
  intro _ _ _ _ _ _ us hl;obtain⟨_,_,rfl⟩:=Pu.By hl;rfl):XA K (ExcR.KD K C') "__init__" q st ps:=y.d e b
end
end Pu
namespace M
open L2 Own Pu
def PY(hs:Yl)(ws:Yk)(X:Str->Prop)(A:Prop):Prop:=(∀r,FR hs ws r->r≠[]->X (PX r))/\((¬ ∃r,Ring hs ws r)->A)
def FR.one (h:FR hs ws r) (h':FR hs ws r'):r=r':=by
 rcases h with⟨rfl,h⟩|⟨l,t,rfl,hl,hc,hm⟩
 ·rcases h' with⟨rfl,_⟩|⟨l',t',rfl,hl',hc',_⟩
  ·rfl
  ·exact absurd hc' (h l' hl' t')
 ·rcases h' with⟨rfl,h'⟩|⟨l',t',rfl,hl',hc',hm'⟩
  ·exact absurd hc (h' l hl t)
  ·rcases hm l' hl' t' hc' with z|⟨z,y⟩
   ·grind
   ·rcases hm' l hl t hc with z'|⟨_,y'⟩
    ·omega
    ·rcases y with y|⟨rfl,y⟩
     ·rcases y' with y'|⟨rfl,_⟩<;>omega
     ·rcases y' with y'|⟨_,y'⟩
      ·omega
      ·rcases y with rfl|y
       ·rfl
       ·rcases y' with rfl|y'
        ·rfl
        ·exact absurd y' (O3 y)
noncomputable def pcc(ps:Yk):Int->Int->Int:=λx y=>pcM ps x y ps.length
end M
namespace ExcR
open L2
noncomputable def hxL(K:Yj):List (Addr×Option Nat×TS)->Ends->L2.St->XK
 |[],_=>λ_ _ _ _=>False
 |(C0,oi,ts)::r,D=>λσ c dx H=>∃C b,c=.ref C/\PySem.W.exmOne K (.ref C) (.ref C0)=some b/\
  if b=true then(match oi with
   |some i=>∀a,H a=none->ts (LH i D) (σ.set i<|some<|.ref a) (upd H a<|KY a C dx)
   |none=>ts D σ H)else hxL K r D σ c dx H
section
variable {X:Cx}{pins pins1:Ym}{σ:L2.St}{H H':Hp}{s s':Shared}{h3:Heap}{a T C C0:Addr}{dx:Yw}{fl:Value}{D:Ends}{hs:List ExceptHandler}{L:List (Addr×Option Nat×TS)}
structure Pre (X:Cx) (pins:Ym) (σ:L2.St) (H H':Hp) (s s':Shared) (h3:Heap) (a T C:Addr) (dx:Yw) (fl:Value):Prop where
 I:Inv X pins σ H s
 os:s'.os=s.os
 bare:AllBare s'.gens
 na:s.heap.get? a=none
 nT:s.heap.get? T=none
 fa:H' a=none
 fT:H' T=none
 tr:Trc h3 a T (.ref C,dx) fl
 u:Un (frs X.stack) [] H H' s.heap h3
 ok:HOk X.prog X.w H' h3
def Pre.inv (p:Pre X pins σ H H' s s' h3 a T C dx fl):Inv X pins σ H' {s' with heap:=h3}:=p.I.call' p.os p.u p.ok p.bare λb z=>absurd z (by simp)
def PH(X:Cx)(hs:List ExceptHandler)(L:List (Addr×Option Nat×TS)):Prop:=∀(pins:Ym) (σ:L2.St) (H H':Hp) (s s':Shared) (h3:Heap) (a T C:Addr) (dx:Yw) (fl:Value) (D:Ends),
 Pre X pins σ H H' s s' h3 a T C dx fl->hxL X.K L D σ (.ref C) dx H'->wpAny (model X.prog X.w) X.A (handleBy (.ref a) X.env hs) (SP X pins D) X.xe {s' with heap:=h3}
def Zo6:PH X [] []:=λ_ _ _ _ _ _ _ _ _ _ _ _ _ _ h=>h.elim
section
variable {x n:Str}{np hpos:Pos}{b0:Stmt}{suite:Yu}{i:Nat}{ts:TS}
def IX(hN:X.N.Nodup)(hi:X.N[i]?=some n)(hk:X.env.scope.names.lookup n=some .local)(hg:Gl X x)(hm:X.mg x=some (.ref C0))(hdb:(x==("__debug__" : Str))=false)(hss:∀a,PSs (TU X a) (b0::suite) ts)(hr:PH X hs L):PH X (.ExceptHandler (some<|.Name x np) (some n) (b0::suite) hpos::hs) ((C0,some i,ts)::L):=by
 rintro pins σ H H' s s' h3 a T C dx fl D p ⟨C',b,ec,em,q⟩;obtain rfl:=Value.ref.inj ec;have J3:=p.inv;have S3:Inv (TU X a) pins σ H' {s' with heap:=h3}:=OA J3
 refine wpAny_handleBy_cons (codeAny_handlers_test<|NX S3 hg hm ?_ hdb) (by intro z;cases z);obtain⟨_,⟨oe,vs,g1,g2,g3,g4⟩,_⟩:=id p.tr;refine(PySem.W.exm_one J3.kIn ((show oe.cls=Value.ref C from Q2 Prod.fst g2)▸(PySem.W.Looks.ld g1).andThen .now) em).here ?_
 cases b with
 |false=>exact hr pins σ H H' s s' h3 a T C dx fl D p q
 |true=>
 refine codeAny_handlers_suite_as (Fq p.tr λh4 tr4 k4=>?_);have u4:=A1 p.u (k4.mono (by simp) λ_ z=>z) λb hb=>by rw[WJ.mp hb];exact p.nT
 have u5:Un (frs X.stack) [] H (upd H' a<|KY a C dx) s.heap h4:=by
  have ne:∀b o,s.heap.get? b=some o->b≠a:=λb o z w=>by rw[w,p.na]at z;cases z
  have ne2:∀b o,H' b=some o->b≠a:=λb o z w=>by rw[w,p.fa]at z;cases z
  refine⟨u4.keep,u4.slot,λb o z n m=>by rw[Xr (ne b o z)];exact u4.free b o z n m,u4.there,λb xs z=>?_,λb o u z=>?_,λb ps z=>?_⟩
  ·rw[Xr (ne2 b _<|u4.tups b xs z)];exact u4.tups b xs z
  ·rw[Xr (ne2 b _<|u4.frzs b o u z)];exact u4.frzs b o u z
  ·obtain⟨more,z1⟩:=u4.tbls b ps z;exact⟨more,by rw[Xr (ne2 b _ z1)];exact z1⟩
 have ok5:HOk X.prog X.w (upd H' a<|KY a C dx) h4:=λb ob e=>by
  by_cases hb:b=a
  ·subst hb;rw[X4]at e;cases e
   exact Zid tr4
  ·rw[Xr hb]at e;refine((Sy p.ok k4 (by simp) λb hb=>by rw[WJ.mp hb];exact p.fT) b ob e).stay (λ_ _ _ z=>z) (λc z=>?_) λc xs z=>?_
   ·rw[Xr λw=>by rw[w,p.fa]at z;cases z];exact z
   ·rw[Xr λw=>by rw[w,p.fa]at z;cases z];exact z
 have J5:Inv X pins σ (upd H' a<|KY a C dx) {s' with heap:=h4}:=p.I.call' p.os u5 ok5 p.bare λb z=>absurd z (by simp)
 have S5:Inv (TU X a) pins σ (upd H' a<|KY a C dx) {s' with heap:=h4}:=OA J5
 refine SE (X:=TU X a) S5 hN hi (.inl hk) (v:=.ref a) rfl (λs6 S6=>?_) (.inr hk);refine Qz (hss a pins s6 _ _ _ S6<|q a p.fa) (λf s7 h7=>?_) λ_ _ z=>z.elim
 have gone:∀{σ':L2.St} {H7:Hp} {R:Unit->Shared->Prop},Inv (TU X a) pins σ' H7 s7->(∀s8,Inv X pins (σ'.set i none) H7 s8->R () s8)->wpAny (model X.prog X.w) X.A (do bindName X.env n .none;unbindBehindTheSuite X.env n hpos) R X.xe s7:=λ{σ' H7 R} S7 hR=>by
  obtain⟨m,hn,hl⟩:=id S7.loc;exact wpAny_nameGoes_keeps hk hn (by rw[show X.env.scope.kind=.function from J5.ok.kind];rfl) λh8 v hn8 hs8=>hR _ (Zg4 (Zhw J5.ok S7) hN hi hk hl hn hn8 hs8)
 cases f with
 |ret u=>obtain⟨v,σ',H7,S7,rv,q7⟩:=h7;exact gone S7 λs8 I8=>⟨v,_,_,I8,rv,q7⟩
 |_=>obtain⟨σ',H7,S7,q7⟩:=h7;exact gone S7 λs8 I8=>⟨_,_,I8,q7⟩
end
noncomputable def Bx(X:Cx)(pins:Ym)(D:Ends)(hs:List ExceptHandler):Cx:=
 {X with pn:=X.pn++pins,xe:=λe s1=>wpAny (model X.prog X.w) X.A (noteFrame e X.env) (λ_ s2=>wpAny (model X.prog X.w) X.A (setFlight e none) (λ_ s3=>wpAny (model X.prog X.w) X.A (handleBy e X.env hs) (SP X pins D) X.xe s3) X.xe s2) X.xe s1}
def Ziy(I:Inv X pins σ H s):Inv (Bx X pins D hs) [] σ H s:=⟨⟨I.ok.mod,I.ok.kind,I.ok.glob,I.ok.blt,I.ok.above,I.ok.inj,I.ok.has,I.ok.cab,I.ok.hd,I.ok.frames,I.ok.stk,I.ok.exf,I.ok.bs,I.ok.bsz,I.ok.noex,I.ok.exfs,I.ok.funs,I.ok.frf⟩,I.os,I.bare,I.base,I.loc,I.cell,I.free,I.freeC,λp hp=>I.pin p (by simpa [Bx]using hp),I.hok,I.len⟩
def Fp(I:Inv (Bx X pins D hs) pins1 σ H s):Inv X pins σ H s:=⟨⟨I.ok.mod,I.ok.kind,I.ok.glob,I.ok.blt,I.ok.above,I.ok.inj,I.ok.has,I.ok.cab,I.ok.hd,I.ok.frames,I.ok.stk,I.ok.exf,I.ok.bs,I.ok.bsz,I.ok.noex,I.ok.exfs,I.ok.funs,I.ok.frf⟩,I.os,I.bare,I.base,I.loc,I.cell,I.free,I.freeC,λp hp=>I.pin p (Q9 _ hp),I.hok,I.len⟩
def Zgp(hst:X.stack=X.env::X.outer)(hfr:X.env.frame=some X.env.locals)(hp:PH X hs L):E1 (CXe X.prog X.w) (Bx X pins D hs) (hxL X.K L D):=by
 rintro pins1 σ H s e s' I ⟨a,T,C,dx,H',rfl,y,q⟩;have I:=Fp I;have J:=I.call' y.os y.un y.hok y.bare λb z=>absurd z (by simp);have hF:=J.stack;have hA:=J.ok.frames;rw[hst]at hF hA;refine G3 hA hF hfr y.tr λh2 T2 hT2 tr2 k2=>?_
 have nT2:s.heap.get? T2=none:=by
  cases z:s.heap.get? T2 with
  |none=>rfl
  |some o=>
   obtain⟨o1,z1⟩:=y.un.there T2 o z (by simp);exact absurd (WT z1) (J8.mpr hT2)
 have fT2:=y.hok.fresh hT2
 have u2:Un (frs X.stack) [] H H' s.heap h2:=A1 y.un (by rw[hst];exact k2) λb hb=>by
  rcases Qa.mp hb with rfl|hb
  ·exact y.na
  ·rw[WJ.mp hb];exact y.nT
 have ok2:=Sy y.hok k2 (λb hb=>J.stkFree b (by grind)) λb hb=>by
  rcases Qa.mp hb with rfl|hb
  ·exact y.fa
  ·rw[WJ.mp hb];exact y.fT
 refine Fq tr2 λh3 tr3 k3=>?_;exact hp pins σ H H' s s' h3 a T2 C dx _ D ⟨I,y.os,y.bare,y.na,nT2,y.fa,fT2,tr3,A1 u2 (k3.mono (by simp) λ_ z=>z) λb hb=>by rw[WJ.mp hb];exact nT2,Sy ok2 k3 (by simp) λb hb=>by rw[WJ.mp hb];exact fT2⟩ q
def Zgv{tb:Ends->TS}(hb:∀pins D,PSs (Bx X pins D (h0::hs)) body (tb D)):PS X (.Try body (h0::hs) [] [] pos) (λD σ H=>tb D D σ H):=by
 intro pins s σ H D I h;refine wpAny_Try_except (Qz (hb pins D [] s σ H D (Ziy I) h) (λf s1 h1=>?_) λ_ _ z=>z);cases f with
 |next=>
  obtain⟨σ',H',J,q⟩:=h1;exact WL ⟨σ',H',Fp J,q⟩
 |ret u=>obtain⟨v,σ',H',J,r,q⟩:=h1;exact⟨v,σ',H',Fp J,r,q⟩
 |_=>obtain⟨σ',H',J,q⟩:=h1;exact⟨σ',H',Fp J,q⟩
end
end ExcR
namespace Pu
open L2 Own
noncomputable def SS(c n:Str):Bool:=decide (c=n) || decide (n=("MeldError" : Str))
noncomputable def Znd(oi:Option Nat)(R:PP):PP:=match oi with
 |some i=>{nx:=λg=>R.nx (g.set i none),rt:=R.rt,ex:=λ_ _=>False,bk:=λg=>R.bk (g.set i none),ct:=λg=>R.ct (g.set i none),rv:=R.rv}
 |none=>{R with ex:=λ_ _=>False}
noncomputable def Zca(oi:Option Nat)(d:D)(γ:Γ):Γ:=match oi with
 |some i=>γ.set i (some<|.sh d)
 |none=>γ
def pHs:List (Str×Option Nat×PTS)->Str->D->PP->Γ->Prop
 |[],_,_,_,_=>False
 |(n,oi,p)::r,c,d,R,γ=>if SS c n=true then p (Znd oi R) (Zca oi d γ)else pHs r c d R γ
noncomputable def Zan(mg:Yn)(cs:Ys)(hs:List (Str×Option Nat×PTS))(pb:PTS):PTS:=λR γ=>pb {R with ex:=λγ' c=>(c∈cs/\pHs hs c (.err<|ExcR.Xl mg c) R γ')\/∃r,c=PX r/\pHs hs "Ringed" (.erM (ExcR.Xl mg "Ringed") r) R γ'} γ
def ExOk(K:Yj)(mg:Yn)(cs ns:Ys):Prop:=∀c∈cs,∀n∈ns,PySem.W.exmOne K (.ref<|ExcR.Xl mg c) (.ref<|ExcR.Xl mg n)=some (SS c n)
inductive HsS (K:Yj) (mg:Yn) (E:L2.St->XK):List (Addr×Option Nat×TS)->List (Str×Option Nat×PTS)->Prop
 |nil:HsS K mg E [] []
 |cons {n:Str} {oi:Option Nat} {ts:TS} {p:PTS} {L:List (Addr×Option Nat×TS)} {hs:List (Str×Option Nat×PTS)}:Xy K mg E ts p->HsS K mg E L hs->HsS K mg E ((ExcR.Xl mg n,oi,ts)::L) ((n,oi,p)::hs)
section
variable {K:Yj}{mg:Yn}{E:L2.St->XK}
theorem DY{B σ σ'}{γ γ'}{R D c d C dx}(hB:∀b,B b->∃o,H0 b=some o)(e:SR K mg E H0 B H σ γ R D)(e':Xo K H0 B H' σ' γ')(f':Fr B H σ γ H' σ' γ'){E'}(hd:∀a,H' a=none->Rp K (off (zof B γ' σ')<|upd H' a<|ExcR.KY a C dx) d (.ref a)):∀{L} {hs:List (Str×Option Nat×PTS)},HsS K mg E' L hs->(∀n∈hs.map (·.1),PySem.W.exmOne K (.ref C) (.ref<|ExcR.Xl mg n)=some (SS c n))->pHs hs c d R γ'->ExcR.hxL K L D σ' (.ref C) dx H'
 |_,_,.nil,_,h=>h
 |_,_,.cons (n:=n) (oi:=oi) hh r,hx,h=>by
  refine⟨C,SS c n,rfl,hx n Qu,?_⟩;unfold pHs at h;split at h
  ·rename_i hc;rw[WO hc];cases oi with
   |none=>exact hh H0 B H' σ' γ' _ _ hB e' h ⟨λσ3 γ3 H3 q3 e3 f3=>e.nx _ _ H3 q3 e3 (f'.trans f3),e.rt,λ_ _ _ _ z=>z.elim,λσ3 γ3 H3 q3 e3 f3=>e.bk _ _ H3 q3 e3 (f'.trans f3),λσ3 γ3 H3 q3 e3 f3=>e.ct _ _ H3 q3 e3 (f'.trans f3),λσ3 γ3 d v H3 q3 e3 f3=>e.rv σ3 γ3 d v H3 q3 e3 (f'.trans f3)⟩
   |some i=>
    intro a na;obtain⟨e2,f2⟩:=e'.set (s:=.sh d) (Kb na) (hd a na) rfl;have f12:=f'.trans f2;refine hh H0 B _ _ _ _ _ hB e2 h ⟨λσ3 γ3 H3 q3 e3 f3=>?_,e.rt,λ_ _ _ _ z=>z.elim,λσ3 γ3 H3 q3 e3 f3=>?_,λσ3 γ3 H3 q3 e3 f3=>?_,λσ3 γ3 d v H3 q3 e3 f3=>e.rv σ3 γ3 d v H3 q3 e3 (f12.trans f3)⟩
    ·obtain⟨e4,f4⟩:=e3.gone i;exact e.nx _ _ H3 q3 e4 (f12.trans<|f3.trans f4)
    ·obtain⟨e4,f4⟩:=e3.gone i;exact e.bk _ _ H3 q3 e4 (f12.trans<|f3.trans f4)
    ·obtain⟨e4,f4⟩:=e3.gone i;exact e.ct _ _ H3 q3 e4 (f12.trans<|f3.trans f4)
  ·rename_i hc;rw[WN hc];exact DY hB e e' f' hd r (λn hn=>hx n (Qe _ hn)) h
def RZ{tb:Ends->TS}{pb}{E'}(cs ns:Ys)(hx:ExOk K mg ("Ringed" :: cs) ns)(hh:HsS K mg E' L hs)(hb:∀D,Xy K mg (ExcR.hxL K L D) (tb D) pb)(hn:autoParam (hs.map (·.1)=ns) au_0)(hd:autoParam (∀c∈cs,TJ c=none) au_1):Xy K mg E (λD σ H=>tb D D σ H) (Zan mg cs hs pb):=by
 subst hn;intro H0 B H σ γ R D hB env h e;refine hb D H0 B H σ γ _ D hB env h ⟨e.nx,e.rt,λσ' γ' c H' hc e' f'=>?_,e.bk,e.ct,e.rv⟩;rcases hc with⟨hin,hp⟩|⟨r,rfl,hp⟩
 ·exact .of (hd c hin) (DY hB e e' f' (λa na=>.err (XS X4 λz=>by have:=e'.zm a z;rw[na]at this;exact this)) hh (hx c<|Qe _ hin) hp)
 ·refine .ofM λdx l o hdx hl=>DY hB e e' f' (λa na=>?_) hh (hx _ Qu) hp;have S1:=Kb (o:=ExcR.KY a (ExcR.Xl mg "Ringed") (some dx)) na;exact .erM (XS X4 λz=>by have:=e'.zm a z;rw[na]at this;exact this) (XS (S1 _ _ hdx) λz=>by have:=e'.zm dx z;rw[hdx]at this;exact this) (XS (S1 _ _ hl) λz=>by have:=e'.zm l z;rw[hl]at this;exact this)
end
def ExOk.sub {K mg cs ns cs' ns'} (h:ExOk K mg cs ns) (h1:∀c∈cs',c∈cs) (h2:∀n∈ns',n∈ns):ExOk K mg cs' ns':=λc hc n hn=>h c (h1 c hc) n (h2 n hn)
noncomputable def Gn(K:Yj)(cs ns:Yx):Bool:=cs.all λc=>ns.all λn=>decide (PySem.W.exmOne K (.ref c.2) (.ref n.2)=some (SS c.1 n.1))
def Zd9{K mg cs ns}(h:Gn K (cs.map λc=>(c,ExcR.Xl mg c)) (ns.map λn=>(n,ExcR.Xl mg n))=true):ExOk K mg cs ns:=λc hc n hn=>
 WK (Vb.mp (Vb.mp h _<|Qp.mpr ⟨c,hc,rfl⟩) _<|Qp.mpr ⟨n,hn,rfl⟩)
end Pu
namespace M
open L2 Own Pu
theorem MP{P:Int->Prop}:∀{hs:Yl},(∃l∈hs,P l)->∃l∈hs,P l/\∀m∈hs,P m->l<=m
 |[],h=>by obtain⟨_,h,_⟩:=h;cases h
 |a::hs,h=>by
  by_cases c:∃l∈hs,P l
  ·obtain⟨l,h1,h2,h3⟩:=MP c;by_cases d:P a/\a<=l
   ·grind
   ·grind
  ·grind
theorem Mn{hs:Yl}:∀n {P:Yl->Prop},(∃t,P t/\t.length=n/\∀x∈t,x∈hs)->∃t,P t/\t.length=n/\∀u,P u->u.length=n->(∀x∈u,x∈hs)->t=u\/sl t u
 | 0,P,⟨t,h1,h2,_⟩=>⟨t,h1,h2,λu _ hu _=>.inl (by grind)⟩
 |n+1,P,h=>by
  have h':∃l∈hs,∃t,P (l::t)/\t.length=n/\∀x∈t,x∈hs:=by
   obtain⟨t,h1,h2,h3⟩:=h;cases t with
   |nil=>cases h2
   |cons l t=>grind
  obtain⟨l,_,h2,h3⟩:=MP h';obtain⟨t,k1,k2,k3⟩:=Mn n h2;refine⟨l::t,k1,by rw[Qi,k2],λu hu hl hm=>?_⟩;cases u with
  |nil=>cases hl
  |cons m u=>
   have hl2:=Nat.succ.inj hl;have hmu:=λx hx=>hm x (Qe _ hx);by_cases e:l=m
   ·subst e;rcases k3 u hu hl2 hmu with rfl|z
    ·exact .inl rfl
    ·exact .inr (.inr ⟨rfl,z⟩)
   ·have:=h3 m (hm m Qu) ⟨u,hu,hl2,hmu⟩
    exact .inr (.inl<|by omega)
def FR.ex (hs:Yl) (ws:Yk):∃r,FR hs ws r:=by
 by_cases c:∃l∈hs,∃t,Ko hs ws l t
 ·have key:∀n,∀l∈hs,∀t,Ko hs ws l t->t.length<=n->∃r,FR hs ws r:=λn=>by
   induction n using Nat.strongRecOn with
   |ind n ih=>
    intro l hl t hc ht;by_cases d:∃m∈hs,∃u,Ko hs ws m u/\u.length<t.length
    ·obtain⟨m,hm,u,hu,hlt⟩:=d;exact ih u.length (by omega) m hm u hu (WQ _)
    ·have mem:∀m∈hs,∀u,Ko hs ws m u->∀x∈m::u,x∈hs:=λm hm u hu x hx=>by
      rcases Qa.mp hx with rfl|hx
      ·exact hm
      ·exact(NI hu.1 x hx).1
     obtain⟨v,⟨m,u,rfl,hm,hu⟩,k2,k3⟩:=Mn (t.length+1) (P:=λv=>∃m u,v=m::u/\m∈hs/\Ko hs ws m u) ⟨l::t,⟨l,t,rfl,hl,hc⟩,rfl,mem l hl t hc⟩;have hlu:=Nat.succ.inj k2;refine⟨m::u,.inr ⟨m,u,rfl,hm,hu,λm' hm' u' hu'=>?_⟩⟩;have h1:¬u'.length<t.length:=λz=>d ⟨m',hm',u',hu',z⟩;by_cases e:u'.length=t.length
     ·refine .inr ⟨by omega,?_⟩;rcases k3 (m'::u') ⟨m',u',rfl,hm',hu'⟩ (by rw[Qi,e]) (mem m' hm' u' hu')with z|z|z
      ·grind
      ·exact .inl z
      ·exact .inr ⟨z.1,.inr z.2⟩
     ·exact .inl (by omega)
  obtain⟨l,hl,t,ht⟩:=c;exact key t.length l hl t ht (WQ _)
 ·exact⟨[],.inl ⟨rfl,λl hl t ht=>c ⟨l,hl,t,ht⟩⟩⟩
def Iv(he:XO f p h=some e):e = "NoStrip"\/e = "BadHolder"\/e = "OwnStrip":=by
 unfold XO at he;split at he
 ·grind
 split at he
 ·grind
 split at he
 ·grind
 ·grind
end M
namespace Pu
open L2 Own
def hq{A}(h:Xv j A)(hk:autoParam (k<=j) au_1):Xv k A:=h.mono hk
section
variable {X:Cx}{sc:Scope}{elt iter tg:Expr}{ifs:Yt}{pos:Pos}{wi:TI}{g:TG}{tc:TT}{te:TE}{x:Str}
def cz(N':Ys)(φ:Yp)(hi:PI X tg iter wi)(hin:∀{cl C s₃ H₃ ex},PG (Kj X N' sc cl C s₃ H₃ ex) tg g/\N0 (Kj X N' sc cl C s₃ H₃ ex) ifs tc/\PE (Kj X N' sc cl C s₃ H₃ ex) elt te)(hcalm:autoParam (X.calm=true) au_0)(S:autoParam (Bm sc X.env.scope X.N N' φ=true) au_0)(hs:autoParam (∀x,foldedSetIterable iter X.env x=pure x) au_3):PE X (.ListComp elt [⟨tg,iter,ifs,0⟩] sc pos) (Ba φ wi g tc te):=Am hcalm (.of S) hi (λ_ _ _ _ _=>hin) hs
def gk(i:Nat)(hN:autoParam (decide X.N.Nodup=true) au_9)(hi:autoParam (X.N[i]?=some x) au_0)(hx:autoParam (Loc X.env.scope x) au_6)(hf:autoParam (X.fn x=true\/X.env.scope.names.lookup x=some .local) au_2):PG X (.Name x pos) (Sm i):=EC (WK hN) hi hx hf
end
section
variable {P:Program}{w:World}{K:Yj}{mg:Yn}{base:Heap}{N ps:Ys}{sp:Sp}{p:PTS}{x q:Str}{st:Stmt}{k:Nat}{W:Addr->Prop}
def _root_.Own.Def.ez (D:Def K mg x st ps) (S:Xn N ps (Xk st))
  (tr:∀{f cdv A outer s H} {E:XK},Xv k (A.deeper<|envOfC x (Xk st) s.heap.objs.size f cdv)->
   ∃t,PSs (XY CX0 P w K mg base N x (Xk st) f cdv A outer s H E).nox (XQ st) t/\Xy K mg (λ_=>E) t p) (u:Uz K mg N ps sp p):Callee P w K mg base CX0 (k+1) x ps sp:=D.oz S (λ_ _ _ _ _ _ _=>tr) u
def _root_.Own.Def.ey (D:Def K mg x st ps) (S:Xn N ps (Xk st))
  (tr:∀{f cdv A outer s H} {E:XK},Xv k (A.deeper<|envOfC x (Xk st) s.heap.objs.size f cdv)->
   ∃t,PSs (XY (ExcR.CXe P w) P w K mg base N x (Xk st) f cdv A outer s H E) (XQ st) t/\Xy K mg (λ_=>E) t p) (u:Uz K mg N ps sp p):Callee P w K mg base (ExcR.CXe P w) (k+1) x ps sp:=D.ox S (λ_ _ _ _ _ _ _=>tr) u
def XA.ez (D:XA K W x q st ps) (S:Xn N ps (Xk st))
  (tr:∀{f cdv A outer s H} {E:XK},Xv k (A.deeper<|envOfC q (Xk st) s.heap.objs.size f cdv)->
   ∃t,PSs (XY CX0 P w K mg base N q (Xk st) f cdv A outer s H E).nox (XQ st) t/\Xy K mg (λ_=>E) t p) (u:Uz K mg N ps sp p):Pa P w K mg base CX0 (k+1) W ps sp:=D.oz S (λ_ _ _ _ _ _ _=>tr) u
def XA.ey (D:XA K W x q st ps) (S:Xn N ps (Xk st))
  (tr:∀{f cdv A outer s H} {E:XK},Xv k (A.deeper<|envOfC q (Xk st) s.heap.objs.size f cdv)->
   ∃t,PSs (XY (ExcR.CXe P w) P w K mg base N q (Xk st) f cdv A outer s H E) (XQ st) t/\Xy K mg (λ_=>E) t p) (u:Uz K mg N ps sp p):Pa P w K mg base (ExcR.CXe P w) (k+1) W ps sp:=D.ox S (λ_ _ _ _ _ _ _=>tr) u
end
structure Fit {ι:Type} (F:ι->Cx) (K:Yj) (mg:Yn):Prop where
 k:∀j,(F j).K=K
 m:∀j,(F j).mg=mg
section
variable {ι:Type} (F:ι->Cx) (K:Yj) (mg:Yn) (E:L2.St->XK)
structure CE (e:Expr) (p:PTE):Prop where
 h:Fit F K mg->∃t,(∀j,PE (F j) e t)/\Xj K mg E t p
structure CT (e:Expr) (p:PTT):Prop where
 h:Fit F K mg->∃t,(∀j,PT (F j) e t)/\K6 K mg E t p
structure CW (e:Expr) (p:PTT):Prop where
 h:Fit F K mg->∃t,(∀j,PW (F j) e t)/\K6 K mg E t p
structure CA (es:Yt) (p:PTA):Prop where
 h:Fit F K mg->∃t,(∀j,PA (F j) es t)/\X6 K mg E t p
structure CS (s:Stmt) (p:PTS):Prop where
 h:Fit F K mg->∃t,(∀j,PS (F j) s t)/\Xy K mg E t p
structure CB (b:Yu) (p:PTS):Prop where
 h:Fit F K mg->∃t,(∀j,PSs (F j) b t)/\Xy K mg E t p
structure CI (tg e:Expr) (p:PTI):Prop where
 h:Fit F K mg->∃t,(∀j,PI (F j) tg e t)/\SndI K mg E t p
structure CJ (tg e:Expr) (p:PTI):Prop where
 h:Fit F K mg->∃t,(∀j,PI (F j) tg e t)/\NQ K mg E t p
structure CG (e:Expr) (is:Yq) (p:PTG):Prop where
 h:Fit F K mg->∃t,(∀j,PG (F j) e t)/\Ng K is t p
structure CGs (es:Yt) (is:Yq) (p:NK):Prop where
 h:Fit F K mg->∃t,(∀j,PGs (F j) es t)/\B0 K is t p
structure CF (es:Yt) (p:PTT):Prop where
 h:Fit F K mg->∃t,(∀j,N0 (F j) es t)/\K6 K mg E t p
end
section
variable {ι:Type}{F:ι->Cx}{K:Yj}{mg:Yn}{E:L2.St->XK}{e f g:Expr}{es:Yt}{a b c:PTE}{r:PTA}{x:Str}{pos p1:Pos}{k n:Nat}{s:Stmt}{d1 d2:Yu}{p q:PTS}{t u:PTT}{is:Yq}{pg:PTG}{it:PTI}
def xv(i:Nat)(hN:autoParam (∀j,(F j).N[i]?=some x) au_3)(hv:autoParam (∀j,Vis (F j).env.scope x) au_10)(hd:autoParam ((x==("__debug__" : Str))=false) au_1)(hc:autoParam ((x==("__classdict__" : Str))=false) au_1):CE F K mg E (.Name x pos) (D2 i):=.mk λ_=>⟨_,λj=>pv i (hN j) (hv j) hd hc,Xi i⟩
def xi:CE F K mg E (.Constant (.int i) k pos) (pC<|.int i):=.mk λ_=>⟨_,λ_=>Xt,Xq⟩
def xb:CE F K mg E (.Constant (.bool i) k pos) (pC<|.bl i):=.mk λ_=>⟨_,λ_=>Py,Pz⟩
def xs:CE F K mg E (.Constant (.str i) k pos) (pC<|.str i):=.mk λ_=>⟨_,λ_=>TM,Nl⟩
def xe(h:∀{j},PE (F j) e te)(k:Xj K mg E te a):CE F K mg E e a:=.mk λ_=>⟨_,λ_=>h,k⟩
def xo{r}(ho:∀{X},OpR X (binaryOp op) r)(hs:∀{t u},Xj K mg E t a->Xj K mg E u b->Xj K mg E (tOp r t u) c)(A:CE F K mg E e a)(B:CE F K mg E f b):CE F K mg E (.BinOp e op f pos) c:=
 .mk λh=>let ⟨_,h1,k1⟩:=A.h h;let ⟨_,h2,k2⟩:=B.h h;⟨_,λj=>PQ ho (h1 j) (h2 j),hs k1 k2⟩
def xx(A:CE F K mg E e a)(B:CE F K mg E f b)(hs:autoParam (DR f) au_7):CE F K mg E (.Subscript e f pos) (p2 a b fIx):=
 .mk λh=>let ⟨_,h1,k1⟩:=A.h h;let ⟨_,h2,k2⟩:=B.h h;⟨_,λj=>jx K (h1 j) (h2 j) (h.k j) hs,XM k1 k2⟩
def xl(hm:mg "len"=none)(A:CE F K mg E e a)(hg:autoParam (∀j,Gl (F j) "len") au_3)(hs:autoParam (∀j,starEach [e] (F j).env=(false,eval e (F j).env)::starEach [] (F j).env) au_3)(hpl:autoParam (∀j,(backTo pos (starEach [] (F j).env)).any (·.1)=false) au_3) :
  CE F K mg E (.Call (.Name "len" p1) [e] [] pos) (pCB Dw<|Ph a T3):=
 .mk λh=>let ⟨_,h1,k1⟩:=A.h h;⟨_,λj=>ln K (by rw[h.m j];exact hm) (h1 j) (h.k j) (hg j) (hs j) (hpl j),B3 (sz k1)⟩
def xf{ps cc}(C:Callee P w K mg base CX0 k x ps (Xs mg cc K))(hr:∀j,Xv m (F j).A)(A:CA F K mg E (e::es) r)(hP:autoParam (∀j,(F j).prog=P/\(F j).w=w/\(F j).base=base) au_11)(hk:autoParam (k<=m) au_1)(hg:autoParam (∀j,Gl (F j) x) au_3)(hdb:autoParam ((x==("__debug__" : Str))=false) au_1)(he:autoParam (∀j,starEach (e::es) (F j).env=(false,eval e (F j).env)::starEach es (F j).env) au_3)(hpl:autoParam (∀j,(backTo pos (starEach es (F j).env)).any (·.1)=false) au_3) :
  CE F K mg E (.Call (.Name x p1) (e::es) [] pos) (Mo cc r):=
 .mk λh=>let ⟨_,h1,k1⟩:=A.h h;⟨_,λj=>fz (by obtain⟨q1,q2,q3⟩:=hP j;rw[q1,q2,q3,h.k j,h.m j];exact C) (hr j) (h1 j) hk (hg j) hdb (he j) (hpl j),Nc k1⟩
def xt(A:CA F K mg E es r):CE F K mg E (.Tuple es k pos) (L3 r):=.mk λh=>let ⟨_,h1,k1⟩:=A.h h;⟨_,λj=>P4 (h1 j),P0 k1⟩
def xL(A:CA F K mg E es r):CE F K mg E (.List es pos) (Os r):=.mk λh=>let ⟨_,h1,k1⟩:=A.h h;⟨_,λj=>K9 (h1 j),KC k1⟩
def a0:CA F K mg E [] T3:=.mk λ_=>⟨_,λ_=>Km,X9⟩
def ac(A:CE F K mg E e a)(B:CA F K mg E es r)(h1:autoParam (∀j,starEach (e::es) (F j).env=(false,eval e (F j).env)::starEach es (F j).env) au_3):CA F K mg E (e::es) (Ph a r):=
 .mk λh=>let ⟨_,i1,k1⟩:=A.h h;let ⟨_,i2,k2⟩:=B.h h;⟨_,λj=>X7 (i1 j) (i2 j) (h1 j),XN k1 k2⟩
def a1(A:CE F K mg E e a)(h1:autoParam (∀j,starEach [e] (F j).env=(false,eval e (F j).env)::starEach [] (F j).env) au_3):CA F K mg E [e] (Ph a T3):=ac A a0 h1
def a2(A:CE F K mg E e a)(B:CE F K mg E f b)(h1:autoParam (∀j,starEach [e,f] (F j).env=(false,eval e (F j).env)::starEach [f] (F j).env) au_3)(h2:autoParam (∀j,starEach [f] (F j).env=(false,eval f (F j).env)::starEach [] (F j).env) au_3):CA F K mg E [e,f] (Ph a<|Ph b T3):=ac A (a1 B h2) h1
def a3(A:CE F K mg E e a)(B:CE F K mg E f b)(C:CE F K mg E g c)(h1:autoParam (∀j,starEach [e,f,g] (F j).env=(false,eval e (F j).env)::starEach [f,g] (F j).env) au_3)(h2:autoParam (∀j,starEach [f,g] (F j).env=(false,eval f (F j).env)::starEach [g] (F j).env) au_3)(h3:autoParam (∀j,starEach [g] (F j).env=(false,eval g (F j).env)::starEach [] (F j).env) au_3):CA F K mg E [e,f,g] (Ph a<|Ph b<|Ph c T3):=ac A (a2 B C h2 h3) h1
def te(h:∀{j},PT (F j) e tt)(k:K6 K mg E tt t):CT F K mg E e t:=.mk λ_=>⟨_,λ_=>h,k⟩
def tc{r}(ho:∀{X},OpR X (compareOp op) r)(hs:∀{t u},Xj K mg E t a->Xj K mg E u b->Xj K mg E (tOp r t u) c)(A:CE F K mg E e a)(B:CE F K mg E f b)(hm:behindInMarks op f=false:=by exact KB _):CT F K mg E (.Compare e [op] [f] pos) (ND c):=
 .mk λh=>let ⟨_,h1,k1⟩:=A.h h;let ⟨_,h2,k2⟩:=B.h h;⟨_,λj=>Pb ho (h1 j) (h2 j) hm,KH (hs k1 k2)⟩
def tq(hr:∀j,Xv n (F j).A)(A:CE F K mg E e a)(B:CE F K mg E f b):CT F K mg E (.Compare e [.Eq] [f] pos) (ND<|p2 a b<|NT false):=
 .mk λh=>let ⟨_,h1,k1⟩:=A.h h;let ⟨_,h2,k2⟩:=B.h h;⟨_,λj=>cq K (hr j) (h1 j) (h2 j) (h.k j),KH (Nu k1 k2)⟩
def tn(hr:∀j,Xv n (F j).A)(A:CE F K mg E e a)(B:CE F K mg E f b):CT F K mg E (.Compare e [.NotEq] [f] pos) (ND<|p2 a b<|NT true):=
 .mk λh=>let ⟨_,h1,k1⟩:=A.h h;let ⟨_,h2,k2⟩:=B.h h;⟨_,λj=>cn K (hr j) (h1 j) (h2 j) (h.k j),KH (HF k1 k2)⟩
def ti(hr:∀j,Xv n (F j).A)(A:CE F K mg E e a)(B:CE F K mg E f b)(hm:autoParam (behindInMarks .In f=false) au_12):CT F K mg E (.Compare e [.In] [f] pos) (ND<|p2 a b<|fIn false):=
 .mk λh=>let ⟨_,h1,k1⟩:=A.h h;let ⟨_,h2,k2⟩:=B.h h;⟨_,λj=>Pb (Mh (PV<|hr j)<|h.k j) (h1 j) (h2 j) hm,KH (FM k1 k2)⟩
def tI(hr:∀j,Xv n (F j).A)(A:CE F K mg E e a)(B:CE F K mg E f b)(hm:autoParam (behindInMarks .NotIn f=false) au_12):CT F K mg E (.Compare e [.NotIn] [f] pos) (ND<|p2 a b<|fIn true):=
 .mk λh=>let ⟨_,h1,k1⟩:=A.h h;let ⟨_,h2,k2⟩:=B.h h;⟨_,λj=>Pb (Ho (PV<|hr j)<|h.k j) (h1 j) (h2 j) hm,KH (FM k1 k2)⟩
def tt(A:CE F K mg E e a)(he:autoParam (∀j whole,isTrue e (F j).env whole=(do let v ←whole;standAt e.pos;holding [v] (truthy v))) au_7):CT F K mg E e (Om a):=.mk λh=>let ⟨_,h1,k1⟩:=A.h h;⟨_,λj=>Ee (h1 j) (h.k j) (he j),Zbf k1⟩
def tN(A:CT F K mg E e t):CT F K mg E (.UnaryOp .Not e pos) (GQ t):=.mk λh=>let ⟨_,h1,k1⟩:=A.h h;⟨_,λj=>A9 (h1 j),RB k1⟩
def tp(A:CW F K mg E e t):CT F K mg E e t:=.mk λh=>let ⟨_,h1,k1⟩:=A.h h;⟨_,λj=>(h1 j).pt,k1⟩
def wa(A:CT F K mg E e t)(B:CW F K mg E (.BoolOp .And (f::es) pos) u):CW F K mg E (.BoolOp .And (e::f::es) pos) (OE t u):=.mk λh=>let ⟨_,h1,k1⟩:=A.h h;let ⟨_,h2,k2⟩:=B.h h;⟨_,λj=>Zbj (h1 j) (h2 j),Zn6 k1 k2⟩
def wo(A:CT F K mg E e t)(B:CW F K mg E (.BoolOp .Or (f::es) pos) u):CW F K mg E (.BoolOp .Or (e::f::es) pos) (pOr t u):=.mk λh=>let ⟨_,h1,k1⟩:=A.h h;let ⟨_,h2,k2⟩:=B.h h;⟨_,λj=>Zon (h1 j) (h2 j),Zi5 k1 k2⟩
def wA(A:CT F K mg E e t):CW F K mg E (.BoolOp .And [e] pos) t:=.mk λh=>let ⟨_,h1,k1⟩:=A.h h;⟨_,λj=>Znp (h1 j),k1⟩
def wO(A:CT F K mg E e t):CW F K mg E (.BoolOp .Or [e] pos) t:=.mk λh=>let ⟨_,h1,k1⟩:=A.h h;⟨_,λj=>Zlr (h1 j),k1⟩
def se(h:∀{j},PS (F j) s ts)(k:Xy K mg E ts p):CS F K mg E s p:=.mk λ_=>⟨_,λ_=>h,k⟩
def sS(i:Nat)(hN:∀j,(F j).N.Nodup)(A:CE F K mg E e a)(hi:autoParam (∀j,(F j).N[i]?=some x) au_3)(hx:autoParam (∀j,Loc (F j).env.scope x) au_13)(hs:autoParam (∀j,swapsWith e (some<|.Name x p1) pos.line (F j).env=pure false) au_3)(hf:autoParam (∀j,(F j).fn x=true\/(F j).env.scope.names.lookup x=some .local) au_14):CS F K mg E (.Assign [.Name x p1] e pos) (Eo a<|Bt i):=
 .mk λh=>let ⟨_,h1,k1⟩:=A.h h;⟨_,λj=>pz i (hN j) (h1 j) (hi j) (hx j) (hs j) (hf j),Tr k1 (Kt i)⟩
def sR(A:CE F K mg E e a):CS F K mg E (.Return (some e) pos) (Gs a):=.mk λh=>let ⟨_,h1,k1⟩:=A.h h;⟨_,λj=>Ks (h1 j),E4 k1⟩
def sF(i:Nat)(A:CS F K mg E s p):CS F K mg E s (EV i p):=.mk λh=>let ⟨_,h1,k1⟩:=A.h h;⟨_,h1,Zi8 i k1⟩
def sI(A:CT F K mg E e t)(B:CB F K mg E d1 p)(C:CB F K mg E d2 q):CS F K mg E (.If e d1 d2 pos) (Ox t p q):=.mk λh=>let ⟨_,h1,k1⟩:=A.h h;let ⟨_,h2,k2⟩:=B.h h;let ⟨_,h3,k3⟩:=C.h h;⟨_,λj=>Dg (h1 j) (h2 j) (h3 j),Zo0 k1 k2 k3⟩
def sE(A:CE F K mg E e a)(hs:autoParam (∀j,swapsWith e none pos.line (F j).env=pure false) au_3):CS F K mg E (.Expr e pos) (Mm a):=.mk λh=>let ⟨_,h1,k1⟩:=A.h h;⟨_,λj=>Pe (h1 j) (hs j),NN k1⟩
def sO(js:Yq)(hp:∀{j},PassesOwn (model (F j).prog (F j).w) (F j).A (F j).env (F j).xe)(I:CI F K mg E f e it)(G:CG F K mg f is pg)(B:CB F K mg E d1 p)(hc:autoParam (∀j,(F j).calm=true) au_3)(hs:autoParam (∀j x,foldedSetIterable e (F j).env x=pure x) au_7) :
  CS F K mg E (.For f e d1 [] pos) (Hl js it pg p):=
 .mk λh=>let ⟨_,h1,k1⟩:=I.h h;let ⟨_,h2,k2⟩:=G.h h;let ⟨_,h3,k3⟩:=B.h h;⟨_,λj=>Zna hp (hc j) (h1 j) (h2 j) (h3 j) (hs j),Zfx js k1 k2 k3⟩
def sW(js:Yq)(hp:∀{j},PassesOwn (model (F j).prog (F j).w) (F j).A (F j).env (F j).xe)(A:CT F K mg E e t)(B:CB F K mg E d1 p):CS F K mg E (.While e d1 [] pos) (Gd js t p):=
 .mk λh=>let ⟨_,h1,k1⟩:=A.h h;let ⟨_,h3,k3⟩:=B.h h;⟨_,λj=>Zj3 hp (h1 j) (h3 j),Zal js k1 k3⟩
def b0:CB F K mg E [] Mq:=.mk λ_=>⟨_,λ_=>FZ,An⟩
def b1(A:CS F K mg E s p):CB F K mg E [s] p:=.mk λh=>let ⟨_,h1,k1⟩:=A.h h;⟨_,λj=>Na (h1 j),k1⟩
def bc(A:CS F K mg E s p)(B:CB F K mg E d1 q):CB F K mg E (s::d1) (GR p q):=.mk λh=>let ⟨_,h1,k1⟩:=A.h h;let ⟨_,h2,k2⟩:=B.h h;⟨_,λj=>HW (h1 j) (h2 j),Ra k1 k2⟩
def bj(A:CS F K mg E s p)(B:CB F K mg E d1 q):CB F K mg E (s::d1) (LS p q):=.mk λh=>let ⟨_,h1,k1⟩:=A.h h;let ⟨_,h2,k2⟩:=B.h h;⟨_,λj=>Zms (h1 j) (h2 j),Zpu k1 k2⟩
def iL(A:CE F K mg E e a):CI F K mg E f e (pIL a):=.mk λh=>let ⟨_,h1,k1⟩:=A.h h;⟨_,λj=>TB (h1 j) (h.k j),Ziz k1⟩
def ir(hm:mg "range"=none)(A:CA F K mg E [e] r)(hg:autoParam (∀j,Gl (F j) "range") au_3)(hs:autoParam (∀j,starEach [e] (F j).env=[(false,eval e (F j).env)]) au_3):CI F K mg E f (.Call (.Name "range" p1) [e] [] pos) (Lu r):=
 .mk λh=>let ⟨_,h1,k1⟩:=A.h h;⟨_,λj=>Znv (hg j) (by rw[h.m j];exact hm) (h1 j) (hs j),Zjv k1⟩
def iR(hm:mg "range"=none)(A:CA F K mg E [e,g] r)(hg:autoParam (∀j,Gl (F j) "range") au_3)(hs:autoParam (∀j,starEach [e,g] (F j).env=[(false,eval e (F j).env),(false,eval g (F j).env)]) au_3)(hs2:autoParam (∀j,starEach [g] (F j).env=[(false,eval g (F j).env)]) au_3):CI F K mg E f (.Call (.Name "range" p1) [e,g] [] pos) (IC r):=
 .mk λh=>let ⟨_,h1,k1⟩:=A.h h;⟨_,λj=>Zde (hg j) (by rw[h.m j];exact hm) (h1 j) (hs j) (hs2 j),Zix k1⟩
def je(h:∀{j},PI (F j) f e wi)(k:NQ K mg E wi it):CJ F K mg E f e it:=.mk λ_=>⟨_,λ_=>h,k⟩
def jL(A:CE F K mg E e a):CJ F K mg E f e (Gu a):=.mk λh=>let ⟨_,h1,k1⟩:=A.h h;⟨_,λj=>TB (h1 j) (h.k j),Sa k1⟩
def jI(I:CI F K mg E f e it):CJ F K mg E f e it:=.mk λh=>let ⟨_,h1,k1⟩:=I.h h;⟨_,h1,k1.c⟩
def gN(i:Nat)(hN:autoParam (∀j,decide (F j).N.Nodup=true) au_15)(hi:autoParam (∀j,(F j).N[i]?=some x) au_3)(hx:autoParam (∀j,Loc (F j).env.scope x) au_13)(hf:autoParam (∀j,(F j).fn x=true\/(F j).env.scope.names.lookup x=some .local) au_14):CG F K mg (.Name x pos) [i] (Bt i):=.mk λ_=>⟨_,λj=>gk i (hN j) (hi j) (hx j) (hf j),Kt i⟩
def gT(n:Nat){pr}(G:CGs F K mg es is pr)(hc:autoParam (∀j,(F j).calm=true) au_3)(hn:autoParam (∀j,(assignEach es (F j).env).length=n) au_3)(hst:autoParam (∀j,(assignEach es (F j).env).findIdx? (·.1)=none) au_3):CG F K mg (.Tuple es k pos) is (D8 n pr):=
 .mk λh=>let ⟨_,h1,k1⟩:=G.h h;⟨_,λj=>E3 (hc j) (h1 j) (h.k j) (hn j) (hst j),EM k1⟩
def g0:CGs F K mg [] [] Lq:=.mk λ_=>⟨_,λ_=>AO,Ir⟩
def gc(G:CG F K mg e is pg)(B:CGs F K mg es js pr)(hs:autoParam (∀j,(assignEach (e::es) (F j).env).map (·.2)=assign e (F j).env::(assignEach es (F j).env).map (·.2)) au_3):CGs F K mg (e::es) (is++js) (L4 pg pr):=
 .mk λh=>let ⟨_,h1,k1⟩:=G.h h;let ⟨_,h2,k2⟩:=B.h h;⟨_,λj=>SZ (h1 j) (h2 j) (hs j),CH k1 k2⟩
def f0:CF F K mg E [] OH:=.mk λ_=>⟨_,λ_=>Nm,NV⟩
def f1(A:CT F K mg E e t):CF F K mg E [e] t:=.mk λh=>let ⟨_,h1,k1⟩:=A.h h;⟨_,λj=>FA (h1 j),k1⟩
noncomputable abbrev Blk(F:ι->Cx)(N':Ys)(sc:Scope):ι×Yx×Addr×Shared×Hp×List Addr->Cx:=λj=>Kj (F j.1) N' sc j.2.1 j.2.2.1 j.2.2.2.1 j.2.2.2.2.1 j.2.2.2.2.2
def xC(N':Ys)(φ:Yp)(I:CJ F K mg E f e it)(G:CG (Blk F N' sc) K mg f is pg)(T:CF (Blk F N' sc) K mg E es t)(A:CE (Blk F N' sc) K mg E g a)(hc:autoParam (∀j,(F j).calm=true) au_3)(S:autoParam (∀j,Bm sc (F j).env.scope (F j).N N' φ=true) au_3)(hs:autoParam (∀j x,foldedSetIterable e (F j).env x=pure x) au_7)(h1:autoParam ((φ.filterMap id).Nodup) au_1)(h2:autoParam (∀j∈is,φ[j]?=some none) au_1) :
  CE F K mg E (.ListComp g [⟨f,e,es,0⟩] sc pos) (AV φ it pg t a):=.mk λh=>by
 have hb:Fit (Blk F N' sc) K mg:=⟨λj=>h.k j.1,λj=>h.m j.1⟩;obtain⟨_,i1,k1⟩:=I.h h;obtain⟨_,i2,k2⟩:=G.h hb;obtain⟨_,i3,k3⟩:=T.h hb;obtain⟨_,i4,k4⟩:=A.h hb;exact⟨_,λj=>Am (hc j) (.of<|S j) (i1 j) (λcl C s₃ H₃ ex=>⟨i2 (j,cl,C,s₃,H₃,ex),i3 (j,cl,C,s₃,H₃,ex),i4 (j,cl,C,s₃,H₃,ex)⟩) (hs j),To k1 k2 k3 k4 h1 h2⟩
def sN(i:Nat)(A:CS F K mg E s p):CS F K mg E s (pNm i p):=.mk λh=>let ⟨_,h1,k1⟩:=A.h h;⟨_,h1,Zio i k1⟩
def sr(A:CE F K mg E e a):CS F K mg E (.Return (some e) pos) (OL a):=.mk λh=>let ⟨_,h1,k1⟩:=A.h h;⟨_,λj=>Ks (h1 j),Zma k1⟩
def sV(i:Nat)(hN:autoParam (∀j,(F j).N[i]?=some x) au_3)(hv:autoParam (∀j,Vis (F j).env.scope x) au_10)(hd:autoParam ((x==("__debug__" : Str))=false) au_1)(hc:autoParam ((x==("__classdict__" : Str))=false) au_1):CS F K mg E (.Return (some<|.Name x p1) pos) (DW i):=.mk λ_=>⟨_,λj=>Ks (pv i (hN j) (hv j) hd hc),Zgi i⟩
def sA(i:Nat)(A:CE F K mg E e a)(hN:autoParam (∀j,(F j).N[i]?=some x) au_3)(hv:autoParam (∀j,Vis (F j).env.scope x) au_10)(hd:autoParam ((x==("__debug__" : Str))=false) au_1)(hc:autoParam ((x==("__classdict__" : Str))=false) au_1){apos cpos}(hbase:autoParam (∀j,attributeBase (.Name x p1) "append" (F j).env (eval (.Name x p1) (F j).env)=eval (.Name x p1) (F j).env) au_3)(hfew:autoParam (∀j,((backTo cpos (starEach [e] (F j).env)).all (λx=>!x.1)&&(backToKw cpos (keywordEach [] (F j).env)).all (λx=>x.1.isSome)&&decide ([e].length+([]:List Keyword).length+(if ([]:List Keyword).isEmpty then 0 else 1)<30))=true) au_3)(hline:autoParam ((apos.endLine==cpos.line)=true) au_0)(hs:autoParam (∀j,starEach [e] (F j).env=(false,eval e (F j).env)::starEach [] (F j).env) au_3)(hplain:autoParam (∀j,(backTo cpos (starEach [] (F j).env)).any (·.1)=false) au_3)(hw:autoParam (∀j,swapsWith (.Call (.Attribute (.Name x p1) "append" apos) [e] [] cpos) none pos.line (F j).env=pure false) au_3):CS F K mg E (.Expr (.Call (.Attribute (.Name x p1) "append" apos) [e] [] cpos) pos) (D6 i a):=
 .mk λh=>let ⟨_,h1,k1⟩:=A.h h;⟨_,λj=>Pe (FH Qx V6 V7 Sz (pv i (hN j) (hv j) hd hc) (X7 (h1 j) Km<|hs j) (h.k j) (hbase j) (hfew j) hline (hs j)<|hplain j) (hw j),Zhv i k1⟩
def sU(i:Nat){op o}(hN:∀j,(F j).N.Nodup)(ho:∀{X},PIp X op (ipI o))(A:CE F K mg E e a)(hi:autoParam (∀j,(F j).N[i]?=some x) au_3)(hx:autoParam (∀j,Loc (F j).env.scope x) au_13)(hf:autoParam (∀j,(F j).fn x=true\/(F j).env.scope.names.lookup x=some .local) au_14):CS F K mg E (.AugAssign (.Name x p1) op e pos) (E2 i o a):=
 .mk λh=>let ⟨_,h1,k1⟩:=A.h h;⟨_,λj=>Zmh (hN j) (hi j) (hx j) (h1 j) ho (hf j),Zh7 k1⟩
def sC(i:Nat)(N':Ys)(φ:Yp){y py spos}(hN:∀j,(F j).N.Nodup)(I:CJ F K mg E f e it)(G:CG (Blk F N' sc) K mg f is pg)(T:CF (Blk F N' sc) K mg E es t)(A:CE (Blk F N' sc) K mg E g a)(hy:autoParam (∀j,(F j).N[i]?=some y) au_3)(hl:autoParam (∀j,(F j).env.scope.names.lookup y=some .local) au_3)(hc:autoParam (∀j,(F j).calm=true) au_3)(S:autoParam (∀j,Bm sc (F j).env.scope (F j).N N' φ=true) au_3)(hs:autoParam (∀j x,foldedSetIterable e (F j).env x=pure x) au_7)(h1:autoParam ((φ.filterMap id).Nodup) au_1)(h2:autoParam (∀j∈is,φ[j]?=some none) au_1)(hw:autoParam (∀j,swapsWith (.ListComp g [⟨f,e,es,0⟩] sc pos) (some<|.Name y py) spos.line (F j).env=pure true) au_3) :
  CS F K mg E (.Assign [.Name y py] (.ListComp g [⟨f,e,es,0⟩] sc pos) spos) (Eo (AV φ it pg t a)<|Bt i):=.mk λh=>by
 have hb:Fit (Blk F N' sc) K mg:=⟨λj=>h.k j.1,λj=>h.m j.1⟩;obtain⟨_,i1,k1⟩:=I.h h;obtain⟨_,i2,k2⟩:=G.h hb;obtain⟨_,i3,k3⟩:=T.h hb;obtain⟨_,i4,k4⟩:=A.h hb;exact⟨_,λj=>Zdl (hN j) (hy j) (hl j) (hc j) (.of<|S j) (i1 j) (λcl C s₃ H₃ ex=>⟨i2 (j,cl,C,s₃,H₃,ex),i3 (j,cl,C,s₃,H₃,ex),i4 (j,cl,C,s₃,H₃,ex)⟩) (hs j) (hw j),Tr (To k1 k2 k3 k4 h1 h2) (Kt i)⟩
def sX(i:Nat)(B:CE F K mg E f b)(A:CE F K mg E e a)(hN:autoParam (∀j,(F j).N[i]?=some x) au_3)(hv:autoParam (∀j,Vis (F j).env.scope x) au_10)(hd:autoParam ((x==("__debug__" : Str))=false) au_1)(hc:autoParam ((x==("__classdict__" : Str))=false) au_1){q1}(ha:autoParam (∀j v,assign (.Subscript (.Name x p1) f q1) (F j).env v=(do
   let ov ←holding [v] (eval (.Name x p1) (F j).env)
   let iv ←holding [v,ov] (eval f (F j).env)
   standAt q1
   holding [v,ov,iv] (setItem ov iv v)
   release [v,ov,iv] [])) au_7)(hs:autoParam (∀j,swapsWithSole [.Subscript (.Name x p1) f q1] e pos.line (F j).env=pure false) au_3)(hw:autoParam (∀j,swappedStores [.Subscript (.Name x p1) f q1] e (F j).env=pure none) au_3)(h1:autoParam (∀j,(assignEach [.Subscript (.Name x p1) f q1] (F j).env).map (·.2)=[assign (.Subscript (.Name x p1) f q1) (F j).env]) au_3):CS F K mg E (.Assign [.Subscript (.Name x p1) f q1] e pos) (Df i b a):=
 .mk λh=>let ⟨_,i1,k1⟩:=B.h h;let ⟨_,i2,k2⟩:=A.h h;⟨_,λj=>Zlx (i2 j) (Zjt (pv i (hN j) (hv j) hd hc) (i1 j) Zao<|ha j) (hs j) (hw j) (h1 j),Zmm i k1 k2⟩
structure CO {ι:Type} (F:ι->Cx) (K:Yj) (mg:Yn) (E:L2.St->XK) (o:Option Expr) (p:PTO):Prop where
 h:Fit F K mg->∃t,(∀j,PO (F j) o t)/\Tx K mg E t p
def o0:CO F K mg E none LM:=.mk λ_=>⟨_,λ_=>Md,MB⟩
def o1(A:CE F K mg E e a):CO F K mg E (some e) (LX a):=.mk λh=>let ⟨_,h1,k1⟩:=A.h h;⟨_,λj=>Fm (h1 j),BX k1⟩
def xp{lo hi l u q1}(A:CE F K mg E e a)(L:CO F K mg E lo l)(U:CO F K mg E hi u):CE F K mg E (.Subscript e (.Slice lo hi none q1) pos) (pSl a l u):=
 .mk λh=>let ⟨_,h1,k1⟩:=A.h h;let ⟨_,h2,k2⟩:=L.h h;let ⟨_,h3,k3⟩:=U.h h;⟨_,λj=>AB (Cm<|h.k j) (h1 j) (h2 j) (h3 j),Zbc k1 k2 k3⟩
def xn(A:CE F K mg E e a):CE F K mg E (.UnaryOp .Not e pos) (LB a):=.mk λh=>let ⟨_,h1,k1⟩:=A.h h;⟨_,λj=>M5 (h1 j),EW k1⟩
def sQ{cpos Ec}(hg:ExcR.Kn K (ExcR.Xl mg x))(hm:mg x=some (.ref<|ExcR.Xl mg x))(hR:∀{j},ExcR.CV (F j) Ec)(A:CA F K mg (λ_=>Ec) (e::es) r)(hc:autoParam (∀j,(F j).calm=true) au_3)(hl:autoParam (∀j,Gl (F j) x) au_3)(hdb:autoParam ((x==("__debug__" : Str))=false) au_1)(he:autoParam (∀j,starEach (e::es) (F j).env=(false,eval e (F j).env)::starEach es (F j).env) au_3)(hpl:autoParam (∀j,(backTo cpos (starEach es (F j).env)).any (·.1)=false) au_3)(hx:autoParam (TJ x=none) au_0) :
  CS F K mg (λ_=>Ec) (.Raise (some<|.Call (.Name x p1) (e::es) [] cpos) none pos) (HQ x r):=
 .mk λh=>let ⟨_,h1,k1⟩:=A.h h;⟨_,λj=>ExcR.Zgx (by rw[h.k j];exact hg.c) (by rw[h.m j];exact hm) hR (hc j) (h1 j) (hl j) hdb (he j) (hpl j),Zmn k1 hx⟩
def xg{ps cc Ec}(C:Callee P w K mg base (ExcR.CXe P w) k x ps (Xs mg cc K))(hr:∀j,Xv m (F j).A)(hx:∀{j},Pj (ExcR.CXe P w) (F j) Ec)(A:CA F K mg (λ_=>Ec) (e::es) r)(hP:autoParam (∀j,(F j).prog=P/\(F j).w=w/\(F j).base=base) au_11)(hk:autoParam (k<=m) au_1)(hg:autoParam (∀j,Gl (F j) x) au_3)(hdb:autoParam ((x==("__debug__" : Str))=false) au_1)(he:autoParam (∀j,starEach (e::es) (F j).env=(false,eval e (F j).env)::starEach es (F j).env) au_3)(hpl:autoParam (∀j,(backTo pos (starEach es (F j).env)).any (·.1)=false) au_3) :
  CE F K mg (λ_=>Ec) (.Call (.Name x p1) (e::es) [] pos) (MG cc r):=
 .mk λh=>let ⟨_,h1,k1⟩:=A.h h;⟨_,λj=>Cy (by obtain⟨q1,q2,q3⟩:=hP j;rw[q1,q2,q3,h.k j,h.m j];exact C) ((hr j).mono hk) hx (h1 j) (hg j) hdb (he j) (hpl j),Zkt k1⟩
variable {pw:PTW}
end
section
variable {P:Program}{w:World}{K:Yj}{mg:Yn}{base:Heap}{N ps:Ys}{sp:Sp}{p:PTS}{x q:Str}{st:Stmt}{k:Nat}{W:Addr->Prop}
def _root_.Own.Def.fz (D:Def K mg x st ps) (S:Xn N ps (Xk st))
  (tr:∀{f cdv A outer s H} {E:XK},(∀{ι:Type},ι->Xv k (A.deeper<|envOfC x (Xk st) s.heap.objs.size f cdv))->(Unit->N.Nodup)->
   CB (λ_:Unit=>(XY CX0 P w K mg base N x (Xk st) f cdv A outer s H E).nox) K mg (λ_=>E) (XQ st) p) (u:Uz K mg N ps sp p):Callee P w K mg base CX0 (k+1) x ps sp:=
 D.ez S (λhr=>let ⟨t,h,l⟩:=(tr (λ_=>hr) λ_=>S.nd).h ⟨λ_=>rfl,λ_=>rfl⟩;⟨t,h (),l⟩) u
def _root_.Own.Def.fy (D:Def K mg x st ps) (S:Xn N ps (Xk st))
  (tr:∀{f cdv A outer s H} {E:XK},(∀{ι:Type},ι->Xv k (A.deeper<|envOfC x (Xk st) s.heap.objs.size f cdv))->(Unit->N.Nodup)->
   CB (λ_:Unit=>XY (ExcR.CXe P w) P w K mg base N x (Xk st) f cdv A outer s H E) K mg (λ_=>E) (XQ st) p) (u:Uz K mg N ps sp p):Callee P w K mg base (ExcR.CXe P w) (k+1) x ps sp:=
 D.ey S (λhr=>let ⟨t,h,l⟩:=(tr (λ_=>hr) λ_=>S.nd).h ⟨λ_=>rfl,λ_=>rfl⟩;⟨t,h (),l⟩) u
def XA.fz (D:XA K W x q st ps) (S:Xn N ps (Xk st))
  (tr:∀{f cdv A outer s H} {E:XK},(∀{ι:Type},ι->Xv k (A.deeper<|envOfC q (Xk st) s.heap.objs.size f cdv))->(Unit->N.Nodup)->
   CB (λ_:Unit=>(XY CX0 P w K mg base N q (Xk st) f cdv A outer s H E).nox) K mg (λ_=>E) (XQ st) p) (u:Uz K mg N ps sp p):Pa P w K mg base CX0 (k+1) W ps sp:=
 D.ez S (λhr=>let ⟨t,h,l⟩:=(tr (λ_=>hr) λ_=>S.nd).h ⟨λ_=>rfl,λ_=>rfl⟩;⟨t,h (),l⟩) u
def XA.fy (D:XA K W x q st ps) (S:Xn N ps (Xk st))
  (tr:∀{f cdv A outer s H} {E:XK},(∀{ι:Type},ι->Xv k (A.deeper<|envOfC q (Xk st) s.heap.objs.size f cdv))->(Unit->N.Nodup)->
   CB (λ_:Unit=>XY (ExcR.CXe P w) P w K mg base N q (Xk st) f cdv A outer s H E) K mg (λ_=>E) (XQ st) p) (u:Uz K mg N ps sp p):Pa P w K mg base (ExcR.CXe P w) (k+1) W ps sp:=
 D.ey S (λhr=>let ⟨t,h,l⟩:=(tr (λ_=>hr) λ_=>S.nd).h ⟨λ_=>rfl,λ_=>rfl⟩;⟨t,h (),l⟩) u
end
mutual
noncomputable def py:D->PyData
 | .int i=>.int i
 | .bl b=>.bool b
 | .str x=>.str x
 | .tup ds=>.tuple (pys ds)
 | .lst ds=>.list (pys ds)
 | .fL ns=>.list (ns.map .int)
 |_=>.none
noncomputable def pys:List D->List PyData
 |[]=>[]
 |d::r=>py d::pys r
end
end Pu
namespace T
open L2
noncomputable def top(i:Nat):Stmt:=PySem.Challenge.pw_stripmeld_k33_offer.main.body.getD i (.Pass ⟨0,0,0,0⟩)
noncomputable abbrev FX:Stmt:=inClass (top 17) 0
def Zos:Xn ["self","members"] ["self","members"] (Xk FX):=Pu.fs
noncomputable abbrev FW:Stmt:=top 22
def Zkv:Xn ["holder"] ["holder"] (Xk FW):=Pu.fs
noncomputable abbrev Da:Stmt:=top 23
def Ze0:Xn ["width"] ["width"] (Xk Da):=Pu.fs
noncomputable abbrev Ex:Stmt:=top 24
def Zgu:Xn ["strips","holder","width"] ["strips"] (Xk Ex):=Pu.fs
noncomputable abbrev DX:Stmt:=top 25
def Zf3:Xn ["strips"] ["strips"] (Xk DX):=Pu.fs
noncomputable abbrev A3:Stmt:=top 27
def Zbs:Xn ["strips","ahead","behind","to_pass","cost","holder","width"] ["strips","ahead","behind"] (Xk A3):=Pu.fs
noncomputable abbrev Ei:Stmt:=top 29
def Zn0:Xn ["strips","place"] ["strips","place"] (Xk Ei):=Pu.fs
noncomputable abbrev Cz:Stmt:=top 32
def IK:Xn ["paths","left","wishes","longer","reached","path","holder"] ["paths","left","wishes"] (Xk Cz):=Pu.fs
noncomputable abbrev Cu:Stmt:=top 33
def Zjr:Xn ["least","holders","wishes","paths","left","rings","reached"] ["least","holders","wishes"] (Xk Cu):=Pu.fs
noncomputable abbrev E6:Stmt:=top 34
def Zls:Xn ["holders","wishes","ring","least","found"] ["holders","wishes"] (Xk E6):=Pu.fs
noncomputable abbrev Aw:Stmt:=top 35
def RX:Xn ["strips","wishes","ring"] ["strips","wishes"] (Xk Aw):=Pu.fs
noncomputable abbrev D4:Stmt:=top 37
def Zev:Xn ["strips","place"] ["strips","place"] (Xk D4):=Pu.fs
noncomputable abbrev Dx:Stmt:=top 38
def Zbq:Xn ["strips","place","holder","strip"] ["strips","place","holder"] (Xk Dx):=Pu.fs
noncomputable abbrev Ck:Stmt:=top 39
def Zo7:Xn ["strips","place","width","strip"] ["strips","place","width"] (Xk Ck):=Pu.fs
noncomputable abbrev AF:Stmt:=top 40
def Zcw:Xn ["strips","place","left","right"] ["strips","place"] (Xk AF):=Pu.fs
noncomputable abbrev Av:Stmt:=top 41
def Znq:Xn ["wishes","ahead","behind"] ["wishes","ahead","behind"] (Xk Av):=Pu.fs
noncomputable abbrev AC:Stmt:=top 42
def Zj1:Xn ["wishes","ahead","behind"] ["wishes","ahead","behind"] (Xk AC):=Pu.fs
noncomputable abbrev Di:Stmt:=top 44
def Lo:Xn ["strips","holders","costs","ahead","behind"] ["strips"] (Xk Di):=Pu.fs
noncomputable abbrev AK:Stmt:=top 45
def Zkp:Xn ["holders","sets","holder"] ["holders"] (Xk AK):=Pu.fs
noncomputable abbrev A0:Stmt:=top 46
def Zb2:Xn ["members","holder"] ["members","holder"] (Xk A0):=Pu.fs
noncomputable abbrev Ca:Stmt:=top 47
def Zmz:Xn ["members","holder","wishes"] ["members","holder","wishes"] (Xk Ca):=Pu.fs
noncomputable abbrev DS:Stmt:=top 48
def Zeu:Xn ["members","last","least","pairs","others"] ["members","last","least","pairs"] (Xk DS):=Pu.fs
noncomputable abbrev Ao:Stmt:=top 49
def Ij:Xn ["strips","wishes","pairs","least","members","lasts"] ["strips","wishes","pairs"] (Xk Ao):=Pu.fs
noncomputable abbrev AD:Stmt:=top 50
def Zda:Xn ["strips","wishes","least"] ["strips","wishes"] (Xk AD):=Pu.fs
noncomputable abbrev AE:Stmt:=top 51
def Zcu:Xn ["strips","wishes"] ["strips","wishes"] (Xk AE):=Pu.fs
noncomputable abbrev Cn:Stmt:=inClass (top 54) 0
def Zl4:Xn ["self","strips"] ["self","strips"] (Xk Cn):=Pu.fs
noncomputable abbrev Ef:Stmt:=inClass (top 54) 1
def Zkk:Xn ["self"] ["self"] (Xk Ef):=Pu.fs
noncomputable abbrev Ae:Stmt:=inClass (top 54) 2
def Zll:Xn ["self"] ["self"] (Xk Ae):=Pu.fs
noncomputable abbrev DE:Stmt:=inClass (top 54) 3
def Zfq:Xn ["self"] ["self"] (Xk DE):=Pu.fs
noncomputable abbrev Cg:Stmt:=inClass (top 54) 4
def Zm6:Xn ["self"] ["self"] (Xk Cg):=Pu.fs
noncomputable abbrev Dc:Stmt:=inClass (top 54) 5
def Zht:Xn ["self","deed","field","wishes"] ["self","deed","field","wishes"] (Xk Dc):=Pu.fs
noncomputable abbrev A7:Stmt:=inClass (top 54) 6
def Zou:Xn ["self","place","holder","field"] ["self","place","holder"] (Xk A7):=Pu.fs
noncomputable abbrev D7:Stmt:=inClass (top 54) 7
def Zl7:Xn ["self","place","width","field"] ["self","place","width"] (Xk D7):=Pu.fs
noncomputable abbrev CY:Stmt:=inClass (top 54) 8
def Zpz:Xn ["self","place","field"] ["self","place"] (Xk CY):=Pu.fs
noncomputable abbrev De:Stmt:=inClass (top 54) 9
def Zjk:Xn ["self","ahead","behind","wishes"] ["self","ahead","behind"] (Xk De):=Pu.fs
noncomputable abbrev DQ:Stmt:=inClass (top 54) 10
def Rq:Xn ["self","ahead","behind","wishes"] ["self","ahead","behind"] (Xk DQ):=Pu.fs
noncomputable abbrev Ea:Stmt:=inClass (top 54) 11
def Zie:Xn ["self"] ["self"] (Xk Ea):=Pu.fs
noncomputable abbrev Ax:Stmt:=inClass (top 54) 15
def Zlz:Xn ["self"] ["self"] (Xk Ax):=Pu.fs
noncomputable abbrev DZ:Stmt:=inClass (top 54) 21
def Zcv:Xn ["self","place","holder","field","cost"] ["self","place","holder"] (Xk DZ):=Pu.fs
noncomputable abbrev Cp:Stmt:=top 56
def Zhi:Xn ["_law_script","_law_k"] ["_law_script","_law_k"] (Xk Cp):=Pu.fs
noncomputable abbrev DA:Stmt:=top 57
def Zdy:Xn ["_law_found"] ["_law_found"] (Xk DA):=Pu.fs
noncomputable abbrev AH:Stmt:=top 58
def Zmt:Xn ["_law_cell","_law_place_here","_law_first"] ["_law_cell","_law_place_here"] (Xk AH):=Pu.fs
noncomputable abbrev A8:Stmt:=top 59
def Zo8:Xn ["_law_script","_law_k"] ["_law_script","_law_k"] (Xk A8):=Pu.fs
noncomputable abbrev CZ:Stmt:=top 60
def Zfl:Xn ["_law_script"] ["_law_script"] (Xk CZ):=Pu.fs
noncomputable abbrev Ah:Stmt:=top 61
def Zaq:Xn ["_law_cell","_law_wide","_law_least"] ["_law_cell"] (Xk Ah):=Pu.fs
noncomputable abbrev AG:Stmt:=top 62
def Zks:Xn ["_law_menu_here","_law_k"] ["_law_menu_here","_law_k"] (Xk AG):=Pu.fs
noncomputable abbrev Cq:Stmt:=top 63
def Zek:Xn ["_law_found","_law_due_here","_law_k"] ["_law_found","_law_due_here"] (Xk Cq):=Pu.fs
noncomputable abbrev Dl:Stmt:=top 64
def Zi9:Xn ["_law_found","_law_due_here","_law_k","_law_j"] ["_law_found","_law_due_here"] (Xk Dl):=Pu.fs
noncomputable abbrev EA:Stmt:=top 65
def Zaf:Xn ["_law_found","_law_due_here","_law_j"] ["_law_found","_law_due_here"] (Xk EA):=Pu.fs
noncomputable abbrev A4:Stmt:=top 66
def Zpv:Xn ["_law_found","_law_due_here","_law_k"] ["_law_found","_law_due_here"] (Xk A4):=Pu.fs
noncomputable abbrev Ey:Stmt:=top 67
def Zg7:Xn ["_law_strips","_law_owners"] ["_law_strips"] (Xk Ey):=Pu.fs
noncomputable abbrev DV:Stmt:=top 68
def Zot:Xn ["_law_strips","_law_order","_law_ranks","_law_total","_law_k","_law_j"] ["_law_strips","_law_order"] (Xk DV):=Pu.fs
noncomputable abbrev DH:Stmt:=top 69
def Zkh:Xn ["_law_order","_law_wishes","_law_one","_law_two"] ["_law_order","_law_wishes"] (Xk DH):=Pu.fs
noncomputable abbrev Dk:Stmt:=top 70
def Ze1:Xn ["_law_holders","_law_rows","_law_turn","_law_grown","_law_row_here"] ["_law_holders"] (Xk Dk):=Pu.fs
noncomputable abbrev Ac:Stmt:=top 71
def Ze6:Xn ["_law_strips","_law_wishes","_law_best_here","_law_order","_law_price_here"] ["_law_strips","_law_wishes"] (Xk Ac):=Pu.fs
noncomputable abbrev Dz:Stmt:=top 72
def Zgh:Xn ["_law_holders","_law_wishes","_law_rows","_law_grown","_law_row_here","_law_holder_here"] ["_law_holders","_law_wishes"] (Xk Dz):=Pu.fs
noncomputable abbrev Ez:Stmt:=top 73
def Zpo:Xn ["_law_strips","_law_deed_here","_law_place_here","_law_holder_here","_law_width_here","_law_parts"] ["_law_strips","_law_deed_here"] (Xk Ez):=Pu.fs
noncomputable abbrev Cd:Stmt:=top 74
def Zpm:Xn ["_law_wishes","_law_deed_here","_law_pair_here"] ["_law_wishes","_law_deed_here"] (Xk Cd):=Pu.fs
noncomputable abbrev Ai:Stmt:=top 75
def Zf8:Xn ["_law_now","_law_deed_here","_law_step_here"] ["_law_now","_law_deed_here"] (Xk Ai):=Pu.fs
noncomputable abbrev Au:Stmt:=top 76
def Zgr:Xn ["_law_village","_law_deed_here"] ["_law_village","_law_deed_here"] (Xk Au):=Pu.fs
noncomputable abbrev Cb:Stmt:=top 77
def Rz:Xn ["_law_village","_law_past"] ["_law_village","_law_past"] (Xk Cb):=Pu.fs
noncomputable abbrev E7:Stmt:=top 78
def HJ:Xn ["_law_village","_law_past","_law_deed_here","_law_step_here","_law_found"] ["_law_village","_law_past","_law_deed_here"] (Xk E7):=Pu.fs
noncomputable abbrev AU:Stmt:=top 79
def Zm8:Xn ["_law_script","_law_menu_here","_law_many","_law_rest","_law_strips","_law_k","_law_cell","_law_width_here"] ["_law_script","_law_menu_here","_law_many"] (Xk AU):=Pu.fs
noncomputable abbrev FU:Stmt:=top 80
def Zlk:Xn ["_law_script","_law_most"] ["_law_script","_law_most"] (Xk FU):=Pu.fs
noncomputable abbrev Dv:Stmt:=top 81
def Zb5:Xn ["_law_cell","_law_good"] ["_law_cell","_law_good"] (Xk Dv):=Pu.fs
noncomputable abbrev Cf:Stmt:=top 82
def Za5:Xn ["_law_cell","_law_strips"] ["_law_cell","_law_strips"] (Xk Cf):=Pu.fs
noncomputable abbrev Ew:Stmt:=top 83
def Zpx:Xn ["_law_cell","_law_menu_here","_law_pool","_law_one","_law_two","_law_ahead"] ["_law_cell","_law_menu_here"] (Xk Ew):=Pu.fs
noncomputable abbrev Eg:Stmt:=top 84
def HS:Xn ["_law_script","_law_menu_here","_law_seed","_law_many","_law_deeds","_law_k","_law_pair_here"] ["_law_script","_law_menu_here"] (Xk Eg):=Pu.fs
noncomputable abbrev Eu:Stmt:=top 85
def Zf5:Xn ["_law_cell","_law_strips","_law_place_here"] ["_law_cell","_law_strips","_law_place_here"] (Xk Eu):=Pu.fs
noncomputable abbrev Cj:Stmt:=top 86
def Zne:Xn ["_law_cell","_law_menu_here","_law_now","_law_kind","_law_rest","_law_place_here","_law_more","_law_pair_here"] ["_law_cell","_law_menu_here","_law_now"] (Xk Cj):=Pu.fs
noncomputable abbrev Ad:Stmt:=top 87
def Zme:Xn ["_law_now","_law_place_here","_law_holder_here","_law_step_here","_law_field","_law_ring_here"] ["_law_now","_law_place_here","_law_holder_here"] (Xk Ad):=Pu.fs
noncomputable abbrev Aa:Stmt:=top 88
def Nq:Xn ["_law_village","_law_place_here","_law_holder_here","_law_found","_law_kinds","_law_members","e"] ["_law_village","_law_place_here","_law_holder_here"] (Xk Aa):=Pu.fs
noncomputable abbrev CL:Stmt:=top 89
def Zcy:Xn ["_law_menu_here","_law_cell","_law_deeds","_law_k"] ["_law_menu_here","_law_cell"] (Xk CL):=Pu.fs
noncomputable abbrev CU:Stmt:=top 90
def Zfc:Xn ["_law_cell","_law_menu_here"] ["_law_cell","_law_menu_here"] (Xk CU):=Pu.fs
noncomputable abbrev Th:Stmt:=top 91
def Zn3:Xn ["_law_script","_law_menu_here","_law_strips","_law_village","_law_past","_law_deed_here","_law_cell","_law_now","_law_k","_law_place_here","_law_holder_here","_law_due_here","_law_found"] ["_law_script"] (Xk Th):=Pu.fs
structure Glob (K:Yj) (mg:Yn):Prop where
 ZP:mg "ValueError"=none
 Yd:mg "any"=none
 Yc:mg "bool"=none
 ZL:mg "int"=none
 Zb:mg "isinstance"=none
 len:mg "len"=none
 Zj:mg "list"=none
 ZM:mg "max"=none
 Yb:mg "min"=none
 Zd:mg "range"=none
 Ye:mg "set"=none
 Zl:mg "sorted"=none
 Yf:mg "str"=none
 Yg:mg "sum"=none
 ZA:mg "tuple"=none
 ZG:∃u,mg "HOLDERS"=some u/\RelV (.int 10) u
 Zp:∃u,mg "STRIPS"=some u/\RelV (.int 40) u
 Zq:∃u,mg "WIDEST"=some u/\RelV (.int 1000) u
 Zs:∃u,mg "MOST_WISHES"=some u/\RelV (.int 20) u
 Zy:∃u,mg "MOST_DEEDS"=some u/\RelV (.int 100) u
 Zt:mg "MeldError"=some (.ref<|ExcR.Xl mg "MeldError")
 Yh:ExcR.Kn K (ExcR.Xl mg "MeldError")
 Zm:mg "TooManyStrips"=some (.ref<|ExcR.Xl mg "TooManyStrips")
 Zn:ExcR.Kn K (ExcR.Xl mg "TooManyStrips")
 Zu:mg "BadHolder"=some (.ref<|ExcR.Xl mg "BadHolder")
 Zg:ExcR.Kn K (ExcR.Xl mg "BadHolder")
 ZQ:mg "BadWidth"=some (.ref<|ExcR.Xl mg "BadWidth")
 ZR:ExcR.Kn K (ExcR.Xl mg "BadWidth")
 Zo:mg "NoStrip"=some (.ref<|ExcR.Xl mg "NoStrip")
 Zh:ExcR.Kn K (ExcR.Xl mg "NoStrip")
 Zz:mg "OwnStrip"=some (.ref<|ExcR.Xl mg "OwnStrip")
 Zi:ExcR.Kn K (ExcR.Xl mg "OwnStrip")
 ZU:mg "BadPart"=some (.ref<|ExcR.Xl mg "BadPart")
 ZV:ExcR.Kn K (ExcR.Xl mg "BadPart")
 ZC:mg "UnlikeHolders"=some (.ref<|ExcR.Xl mg "UnlikeHolders")
 ZD:ExcR.Kn K (ExcR.Xl mg "UnlikeHolders")
 ZW:mg "TooWide"=some (.ref<|ExcR.Xl mg "TooWide")
 ZX:ExcR.Kn K (ExcR.Xl mg "TooWide")
 ZH:mg "LikeHolders"=some (.ref<|ExcR.Xl mg "LikeHolders")
 ZI:ExcR.Kn K (ExcR.Xl mg "LikeHolders")
 ZN:mg "WishStands"=some (.ref<|ExcR.Xl mg "WishStands")
 ZO:ExcR.Kn K (ExcR.Xl mg "WishStands")
 ZE:mg "TooManyWishes"=some (.ref<|ExcR.Xl mg "TooManyWishes")
 ZF:ExcR.Kn K (ExcR.Xl mg "TooManyWishes")
 ZZ:mg "NoWish"=some (.ref<|ExcR.Xl mg "NoWish")
 Ya:ExcR.Kn K (ExcR.Xl mg "NoWish")
 ZS:mg "BookFull"=some (.ref<|ExcR.Xl mg "BookFull")
 ZT:ExcR.Kn K (ExcR.Xl mg "BookFull")
 ZJ:mg "NothingDone"=some (.ref<|ExcR.Xl mg "NothingDone")
 ZK:ExcR.Kn K (ExcR.Xl mg "NothingDone")
 Z9:mg "Ringed"=some (.ref<|ExcR.Xl mg "Ringed")
 Zr:∃g,ExcR.KD K (ExcR.Xl mg "Ringed") g
 Yi:PySem.W.exmOne K (.ref<|ExcR.Xl mg "Ringed") (.ref<|ExcR.Xl mg "Ringed")=some true
 ex:Pu.ExOk K mg ["Ringed","NoStrip","BadHolder","OwnStrip"] ["Ringed","MeldError"]
 Zv:PySem.W.kitOne K (.ref<|ExcR.Xl mg "BadHolder") (.type "ValueError")=some true
 Z3:PySem.W.kitOne K (.ref<|ExcR.Xl mg "BadHolder") (.ref<|ExcR.Xl mg "NoStrip")=some false
 Zw:PySem.W.kitOne K (.ref<|ExcR.Xl mg "BadHolder") (.ref<|ExcR.Xl mg "BadHolder")=some true
 Z0:PySem.W.kitOne K (.ref<|ExcR.Xl mg "BadHolder") (.ref<|ExcR.Xl mg "OwnStrip")=some false
 Z1:PySem.W.kitOne K (.ref<|ExcR.Xl mg "NoStrip") (.type "ValueError")=some true
 Z8:PySem.W.kitOne K (.ref<|ExcR.Xl mg "NoStrip") (.ref<|ExcR.Xl mg "NoStrip")=some true
 Z4:PySem.W.kitOne K (.ref<|ExcR.Xl mg "NoStrip") (.ref<|ExcR.Xl mg "BadHolder")=some false
 Z6:PySem.W.kitOne K (.ref<|ExcR.Xl mg "NoStrip") (.ref<|ExcR.Xl mg "OwnStrip")=some false
 Zx:PySem.W.kitOne K (.ref<|ExcR.Xl mg "OwnStrip") (.type "ValueError")=some true
 Z7:PySem.W.kitOne K (.ref<|ExcR.Xl mg "OwnStrip") (.ref<|ExcR.Xl mg "NoStrip")=some false
 Z2:PySem.W.kitOne K (.ref<|ExcR.Xl mg "OwnStrip") (.ref<|ExcR.Xl mg "BadHolder")=some false
 Z5:PySem.W.kitOne K (.ref<|ExcR.Xl mg "OwnStrip") (.ref<|ExcR.Xl mg "OwnStrip")=some true
 Zk:PySem.W.kitOne K (.ref<|ExcR.Xl mg "Ringed") (.ref<|ExcR.Xl mg "MeldError")=some true
 ZY:mg "Village"=some (.ref<|ExcR.Xl mg "Village")
 Za:Cls K (ExcR.Xl mg "Village")
 Zc:NoAttr K (ExcR.Xl mg "Village") "book"
 Ze:NoAttr K (ExcR.Xl mg "Village") "fields"
 Zf:NoAttr K (ExcR.Xl mg "Village") "wished"
def Sb:Pu.FldAt "book" ["book","fields","wished"] 0:=.of (by decide +kernel) (by decide +kernel) rfl
def RN:Pu.PutAt "book" []:=.of (by decide +kernel)
def CK:Pu.FldAt "fields" ["book","fields","wished"] 1:=.of (by decide +kernel) (by decide +kernel) rfl
def Zpb:Pu.PutAt "fields" ["book"]:=.of (by decide +kernel)
def Ed:Pu.FldAt "wished" ["book","fields","wished"] 2:=.of (by decide +kernel) (by decide +kernel) rfl
def Zli:Pu.PutAt "wished" ["book","fields"]:=.of (by decide +kernel)
def Nf:Pu.NoFld "strips" ["book","fields","wished"]:=.of (by decide +kernel)
def Ni:Pu.NoFld "wishes" ["book","fields","wished"]:=.of (by decide +kernel)
def Zch:Pu.NoFld "deeds" ["book","fields","wished"]:=.of (by decide +kernel)
def Sv:Pu.NoFld "check_room" ["book","fields","wished"]:=.of (by decide +kernel)
def S8:Pu.NoFld "enter" ["book","fields","wished"]:=.of (by decide +kernel)
def Zlg:Pu.NoFld "sell" ["book","fields","wished"]:=.of (by decide +kernel)
def RE:Pu.NoFld "part" ["book","fields","wished"]:=.of (by decide +kernel)
def Zep:Pu.NoFld "unite" ["book","fields","wished"]:=.of (by decide +kernel)
def Zcj:Pu.NoFld "wish" ["book","fields","wished"]:=.of (by decide +kernel)
def Zea:Pu.NoFld "drop" ["book","fields","wished"]:=.of (by decide +kernel)
def Znx:Pu.NoFld "take_back" ["book","fields","wished"]:=.of (by decide +kernel)
def Zdd:Pu.NoFld "cost" ["book","fields","wished"]:=.of (by decide +kernel)
def Zo5:Pu.NoFld "offer" ["book","fields","wished"]:=.of (by decide +kernel)
end T
namespace M
open L2 Own Pu
noncomputable def Zfz:Pc:=λds R X=>∃h:Int,ds=[.int h]/\Kk (Sn h) X (R<|.sh .non)
noncomputable def FV(h:Int):Option Str:=if 1<=h/\h<=1000 then none else some "BadWidth"
noncomputable def Zhl:Pc:=λds R X=>∃h:Int,ds=[.int h]/\Kk (FV h) X (R<|.sh .non)
noncomputable def GM(_:Yj):Sp:=λvs H Q _=>∃(l:Addr) (ps:Yk),vs=[.ref l]/\LAt Po H l ps/\Field ps/\ps.length<=50/\
 ∀(q:Addr) (H':Hp),H q=none->Same H H'->H' q=some (.lst ((Xp ps).map V.int))->Q (.ref q) H'
noncomputable def MS:Pc:=λds R _=>∃ps:Yk,ds=[.lst (ps.map prD)]/\Field ps/\ps.length<=50/\R (.own ((Xp ps).map D.int))
def Dy{P:Program}{w:World}{K:Yj}{mg:Yn}{base:Heap}(C:Callee P w K mg base CX0 1 "holders_of" ["strips"] (GM K)):Callee P w K mg base CX0 1 "holders_of" ["strips"] (Xs mg MS K):=Zor C λds R X vs H Q E r hc hQ hX=>by
 obtain⟨ps,rfl,hF,hz,hR⟩:=hc;obtain⟨v,rfl,r1⟩:=r.one_inv;obtain⟨a,rfl,ha⟩:=r1.pairs_inv;exact⟨a,ps,rfl,ha,hF,hz,λq H' nq S h=>hQ _ _ H' hR S (Zk7 nq h)⟩
noncomputable def Zfu:Pc:=λds R _=>∃(ps:Yk) (x y:Int),ds=[.lst (ps.map prD),.int x,.int y]/\Field ps/\R (.sh<|.int<|pcM ps x y ps.length)
noncomputable def Zf0:Pc:=λds R X=>∃(ps:Yk) (p:Int),ds=[.lst (ps.map prD),.int p]/\(if p<1\/(ps.length:Int)<=p then X "NoStrip" else R (.sh .non))
noncomputable def Zel:Pc:=λds R _=>∃(l:Int) (ps:List (Yl)) (ls:Yl) (ws:Yk),ds=[.lst (ps.map<|em l),.lst (ls.map D.int),.lst (ws.map prD)]/\ps.Pairwise sl/\ls.Pairwise (· < ·)/\(∀p∈ps,p.length<=100)/\ls.length<=100/\
 ∀lg,LG ws l (λp h=>p∈ps/\h∈ls) lg->lg.length<=ls.length->R (.own<|lg.map<|em l)
noncomputable def Zd2:Pc:=λds R X=>∃(ps:Yk) (p:Int),ds=[plD ps,.int p]/\Kk (BB ps p) X (R<|.sh .non)
noncomputable def Zkw:Pc:=λds R X=>∃(ws:Yk) (a b:Int),ds=[plD ws,.int a,.int b]/\ws.length<=1000/\Kk (Kr ws a b) X (R<|.own ((NO ws a b).map prD))
noncomputable def Zpl:Pc:=λds R _=>∃hs:Yl,ds=[.lst (hs.map D.int)]/\hs.length<=10/\R (.own ((XG hs).map tD))
noncomputable def Zex:Pc:=λds R _=>∃(ms:Yl) (h:Int),ds=[tD ms,.int h]/\ms.length<=1000/\R (.sh<|tD<|XZ ms h)
noncomputable def Zl2:Pc:=λds R _=>∃(ms:Yl) (h:Int) (ws:Yk),ds=[tD ms,.int h,.lst (ws.map prD)]/\ws.length<=50/\R (.sh<|.bl<|T8 ws ms h)
noncomputable def Ru(C:Addr):Pc:=λds R _=>∃(bk:List (Str×Yl)) (fs ws:List (Yk)) (f:Yk),ds=[Tv C bk (fs++[f]) ws]/\R (.own<|f.map prD)
noncomputable def Zdx(C:Addr):Pc:=λds R _=>∃(bk:List (Str×Yl)) (fs ws:List (Yk)) (f:Yk),ds=[Tv C bk fs (ws++[f])]/\R (.own<|f.map prD)
noncomputable def Zfa(C:Addr):Pc:=λds R _=>∃(bk:List (Str×Yl)) (fs ws:List (Yk)),ds=[Tv C bk fs ws]/\R (.own<|bk.map dD)
noncomputable def Nx(bk:List (Str×Yl)):Option Str:=if 100<=bk.length then some "BookFull" else none
noncomputable def Zh0(C:Addr):Pc:=λds R X=>∃(bk:List (Str×Yl)) (fs ws:List (Yk)),ds=[Tv C bk fs ws]/\Kk (Nx bk) X (R<|.sh .non)
noncomputable def Zom(C:Addr):Pw:=λo ss R _=>∃(x b1 b2 b3:Addr) (bk:List (Str×Yl)) (fs ws:List (Yk)) (q:Str×Yl) (f w:Yk),o=vO C x b1 b2 b3 bk fs ws/\ss=[.sh (dD q),.sh (plD f),.sh (plD w)]/\bk.length<=1000/\fs.length<=1000/\ws.length<=1000/\
 R (vO C x b1 b2 b3 (bk++[q]) (fs++[f]) (ws++[w])) (.int (bk.length+1))
noncomputable def Zcs(C:Addr):Pw:=λo ss R X=>∃(x b1 b2 b3:Addr) (bk:List (Str×Yl)) (fs ws:List (Yk)),o=vO C x b1 b2 b3 bk fs ws/\ss=[]/\fs.length=bk.length+1/\ws.length=bk.length+1/\
 (bk=[]->X (vO C x b1 b2 b3 bk fs ws) "NothingDone")/\∀b0 q,bk=b0++[q]->R (vO C x b1 b2 b3 b0 fs.dropLast ws.dropLast) (dD q)
noncomputable def Zia:Pc:=λds R _=>∃(ns:Yl) (k:Int),ds=[.scr ns,.int k]/\0<=k/\R (.sh<|.int<|ns.getD k.toNat 0)
noncomputable def Zfi:Pc:=λds R _=>∃i:Int,ds=[.int i]/\R (.sh<|.bl true)
noncomputable def Zof:Pc:=λds R _=>∃c p:Int,ds=[.int c,.int p]/\R (.sh<|.int<|mixP c p)
noncomputable def Zod:Pc:=λds R _=>∃c:Int,ds=[.int c]/\∀m,Tn m->R (.own<|m.map D.int)
noncomputable def Zky:Pc:=λds R _=>∃(m:Yl) (k:Int),ds=[.lst (m.map D.int),.int k]/\Tn m/\∀h:Int,1<=h->h<=10->h=Zjf m k->R (.sh<|.int h)
noncomputable def Zg6:Pc:=λds R _=>∃ps:Yk,ds=[.lst (ps.map prD)]/\ps.length<=50/\R (.own ((Xp ps).map D.int))
noncomputable def Zdh:Pc:=λds R _=>∃(ps:Yk) (os:Yl),ds=[.lst (ps.map prD),.lst (os.map D.int)]/\Field ps/\ps.length<=50/\(∀p∈ps,p.1∈os)/\R (.sh<|.int<|Tc ps os ps.length)
noncomputable def Pg(os:Yl)(q:Int×Int):Bool:=decide (q.1∈os)&&(decide (q.2∈os)&&decide (os.idxOf q.2<os.idxOf q.1))
noncomputable def Zax:Pc:=λds R _=>∃(os:Yl) (ws:Yk),ds=[.lst (os.map D.int),.lst (ws.map prD)]/\((∀q∈ws,Pg os q=false)->R (.sh<|.bl true))/\((∃q∈ws,Pg os q=true)->R (.sh<|.bl false))
noncomputable abbrev ilD(r:Yl):D:=.lst (r.map D.int)
noncomputable def Zjy:Pc:=λds R _=>∃hs:Yl,ds=[.lst (hs.map D.int)]/\hs.Nodup/\hs.length<=10/\R (.sh<|.lst ((XJ hs hs.length).map ilD))
noncomputable def Zey:Pc:=λds R _=>∃(hs:Yl) (ws:Yk) (r:Yl),ds=[.lst (hs.map D.int),.lst (ws.map prD)]/\hs.Nodup/\hs.length<=10/\(∀q∈ws,q.1≠q.2)/\ws.length<=20/\FR hs ws r/\R (.sh<|.lst<|r.map D.int)
noncomputable def Zh1:Pq:=λss R _=>∃(f:Yk) (x:Dd),ss=[.sh (plD f),.sh (dD x.q)]/\x.land=true/\f.length<=40/\R (.own [.int (codeN<|x.err f []),plD (x.fld' f)])
noncomputable def Zko:Pq:=λss R _=>∃(w:Yk) (x:Dd),ss=[.sh (plD w),.sh (dD x.q)]/\x.land=false/\w.length<=20/\R (.own [.int (codeN<|x.err [] w),plD (x.wsh' w)])
noncomputable def Zok:Pc:=λds R _=>∃c g:Int,ds=[.int c,.int g]/\∀v:Int,R (.sh<|.int v)
noncomputable def Zm0:Pc:=λds R _=>∃(c:Int) (ps:Yk),ds=[.int c,plD ps]/\ps.length<=1000/\∀v:Int,R (.sh<|.int v)
noncomputable def RD:Pc:=λds R _=>∃(c:Int) (ps:Yk) (p:Int),ds=[.int c,plD ps,.int p]/\ps.length<=1000/\Field ps/\∀v:Int,R (.sh<|.int v)
noncomputable def Zph:Pc:=λds R X=>∃ps:Yk,ds=[plD ps]/\ps.length<=1000/\Kk (NL ps) X (R<|.sh .non)
noncomputable def Zck:Pc:=λds R _=>∃(l:Int) (hs:Yl) (ws:Yk),ds=[.int l,.lst (hs.map D.int),.lst (ws.map prD)]/\hs.Nodup/\hs.length<=50/\∀r,RF hs ws l r->r.length<=60->R (.sh<|.lst<|r.map D.int)
noncomputable def Za3:Pc:=λds R X=>∃(ps:Yk) (p h:Int),ds=[plD ps,.int p,.int h]/\ps.length<=1000/\Kk (XO ps p h) X (R<|.own (X8 ps p h |>.map prD))
noncomputable def Zc0:Pc:=λds R X=>∃(ps:Yk) (p w:Int),ds=[plD ps,.int p,.int w]/\ps.length<=1000/\Kk (Kq ps p w) X (R<|.own ((P3 ps p w).map prD))
noncomputable def Zgg:Pc:=λds R X=>∃(ps:Yk) (p:Int),ds=[plD ps,.int p]/\ps.length<=1000/\Kk (Kc ps p) X (R<|.own ((PM ps p).map prD))
noncomputable def Zk9:Pc:=λds R X=>∃(ws:Yk) (a b:Int),ds=[plD ws,.int a,.int b]/\ws.length<=1000/\Kk (Kd ws a b) X (R<|.own ((ws++[(a,b)]).map prD))
noncomputable def Zm2:Pc:=λds R _=>∃ps:Yk,ds=[.lst (ps.map prD)]/\Field ps/\ps.length<=50/\
 ∀kvs:List (List Key×V),(∀x∈Xp ps,∀y∈Xp ps,X0 kvs [.inl x,.inl y]=some (.int<|pcM ps x y ps.length))->R (.own<|.dT kvs)
noncomputable def Zho:Pc:=λds R _=>∃(ms:Yl) (l:Int) (le pa:List (List Key×V)) (c:Int->Int) (v:Int),ds=[tD ms,.int l,.dT le,.dT pa]/\ms.length<=1000/\X0 le (kT<|XZ ms l)=some (.int v)/\
 (∀m∈XZ ms l,X0 pa [.inl m,.inl l]=some (.int<|c m))/\R (.sh<|.int (v+((XZ ms l).map c).sum))
noncomputable def FF(bk:List (Str×Yl))(w:Yk)(a b:Int):Option Str:=if 100<=bk.length then some "BookFull" else Kr w a b
noncomputable def Zhh(C:Addr):Pw:=λo ss R X=>∃(x b1 b2 b3:Addr) (bk:List (Str×Yl)) (fs ws:List (Yk)) (f w:Yk) (p h:Int),o=vO C x b1 b2 b3 bk (fs++[f]) (ws++[w])/\ss=[.sh (.int p),.sh (.int h)]/\bk.length<=1000/\fs.length<=900/\ws.length<=900/\w.length<=1000/\
 Kk (FF bk w p h) (X<|vO C x b1 b2 b3 bk (fs++[f]) (ws++[w])) (R (vO C x b1 b2 b3 (bk++[(("drop" : Str),[p,h])]) (fs++[f]++[f]) (ws++[w]++[NO w p h]))<|.int (bk.length+1))
noncomputable def Zgy:Pc:=λds R _=>∃(ns:Yl) (k:Int),ds=[.scr ns,.int k]/\0<=k/\∀v:Int,R (.sh<|.int v)
noncomputable def Zg5:Pc:=λds R _=>∃ns:Yl,ds=[.scr ns]/\∀v:Int,R (.sh<|.int v)
noncomputable def Zd1:Pc:=λds R _=>∃xs:Yl,(ds=[.lst (xs.map D.int),.lst (xs.map D.int)]\/ds=[.fL xs,.lst (xs.map D.int)])/\xs.length<=1000000/\R (.sh<|.bl true)
noncomputable def Znm:Pc:=λds R _=>∃ps:Yk,ds=[.lst (ps.map prD),.lst (ps.map prD)]/\ps.length<=1000000/\R (.sh<|.bl true)
noncomputable def R3:Pc:=λds R _=>∃q:Str×Yl,ds=[dD q,dD q]/\q.2.length<=100/\R (.sh<|.bl true)
noncomputable def Zny:Pc:=λds R _=>∃ps ws:Yk,ds=[.lst (ps.map prD),.lst (ws.map prD)]/\Field ps/\ps.length<=50/\(Xp ps).length<=10/\(∀q∈ws,q.1≠q.2)/\(¬ ∃r,Ring (Xp ps) ws r)/\∀o,Bu ws (pcc ps) (Xp ps) o->R (.own<|.lst [.int (oc (pcc ps) o),.lst (o.map D.int)])
noncomputable def Zj4:Pq:=λss R _=>∃(f w:Yk) (ds:List D) (x:Dd),ss=[.sh (.tup (plD f::plD w::ds)),.sh (dD x.q)]/\f.length<=40/\w.length<=20/\R (.own [.int (codeN<|x.err f w),plD (x.nf f w),plD (x.nw f w)])
noncomputable def Zl0:Pc:=λds R _=>∃(ns m:Yl) (n:Int),ds=[.scr ns,.lst (m.map D.int),.int n]/\Tn m/\0<=n/\n<=1000/\∀ps:Yk,Field ps->ps.length=n.toNat->R (.own<|ps.map prD)
noncomputable def Zih:Pc:=λds R _=>∃(ns:Yl) (n:Int),ds=[.scr ns,.int n]/\0<=n/\n<=1000/\∀cs:Yl,(cs.length:Int)<=n->R (.own<|cs.map D.int)
noncomputable def RH:Pc:=λds R _=>∃(c:Int) (m:Yl),ds=[.int c,.lst (m.map D.int)]/\Tn m/\∀a b:Int,R (.sh<|prD (a,b))
noncomputable def Zh4:Pc:=λds R _=>∃(m:Yl) (c:Int),ds=[.lst (m.map D.int),.int c]/\Tn m/\(∃a t,m=a::t/\a<=4)/\∀qs:Yk,qs.length<=16->R (.own (qs.map λq=>dD (Dd.wish q.1 q.2).q))
noncomputable def Zm1:Pc:=λds R _=>∃(c:Int) (m:Yl),ds=[.int c,.lst (m.map D.int)]/\Tn m/\∀h:Int,R (.sh<|.int h)
noncomputable def Zbk:Pc:=λds R _=>∃(hs:Yl) (ws:Yk),ds=[.lst (hs.map D.int),.lst (ws.map prD)]/\hs.Nodup/\hs.length<=50/\∀r,FR hs ws r->r.length<=60->R (.sh<|.lst<|r.map D.int)
noncomputable def Zjn:Pc:=λds R _=>∃(ps ws:Yk) (pa:List (List Key×V)) (c:Int->Int->Int),ds=[.lst (ps.map prD),.lst (ws.map prD),.dT pa]/\Field ps/\ps.length<=50/\ws.length<=50/\(∀q∈ws,q.1≠q.2)/\
 (∀x∈Xp ps,∀y∈Xp ps,X0 pa [.inl x,.inl y]=some (.int<|c x y))/\Ha (Xp ps) ws/\∀kvs,Tab ws c (XG<|Xp ps) kvs->R (.own<|.dT kvs)
noncomputable def Ze7(C:Addr):Pw:=λo ss R X=>∃(x:Addr) (ps:Yk),o=.ins x C [] []/\ss=[.sh (plD ps)]/\ps.length<=1000/\Kk (NL ps) (X<|.ins x C [] []) (∀b1 b2 b3,R (vO C x b1 b2 b3 [] [ps] [[]]) .non)
noncomputable def BZ(bk:List (Str×Yl))(f:Yk)(p h:Int):Option Str:=if 100<=bk.length then some "BookFull" else XO f p h
noncomputable def Zhk(C:Addr):Pw:=λo ss R X=>∃(x b1 b2 b3:Addr) (bk:List (Str×Yl)) (fs ws:List (Yk)) (f w:Yk) (p h:Int),o=vO C x b1 b2 b3 bk (fs++[f]) (ws++[w])/\ss=[.sh (.int p),.sh (.int h)]/\bk.length<=1000/\fs.length<=900/\ws.length<=900/\f.length<=1000/\
 Kk (BZ bk f p h) (X<|vO C x b1 b2 b3 bk (fs++[f]) (ws++[w])) (R (vO C x b1 b2 b3 (bk++[(("sell" : Str),[p,h])]) (fs++[f]++[X8 f p h]) (ws++[w]++[w]))<|.int (bk.length+1))
noncomputable def FI(bk:List (Str×Yl))(f:Yk)(p h:Int):Option Str:=if 100<=bk.length then some "BookFull" else Kq f p h
noncomputable def Zlv(C:Addr):Pw:=λo ss R X=>∃(x b1 b2 b3:Addr) (bk:List (Str×Yl)) (fs ws:List (Yk)) (f w:Yk) (p h:Int),o=vO C x b1 b2 b3 bk (fs++[f]) (ws++[w])/\ss=[.sh (.int p),.sh (.int h)]/\bk.length<=1000/\fs.length<=900/\ws.length<=900/\f.length<=1000/\
 Kk (FI bk f p h) (X<|vO C x b1 b2 b3 bk (fs++[f]) (ws++[w])) (R (vO C x b1 b2 b3 (bk++[(("part" : Str),[p,h])]) (fs++[f]++[P3 f p h]) (ws++[w]++[w]))<|.int (bk.length+1))
noncomputable def Fj(bk:List (Str×Yl))(f:Yk)(p:Int):Option Str:=if 100<=bk.length then some "BookFull" else Kc f p
noncomputable def RS(C:Addr):Pw:=λo ss R X=>∃(x b1 b2 b3:Addr) (bk:List (Str×Yl)) (fs ws:List (Yk)) (f w:Yk) (p:Int),o=vO C x b1 b2 b3 bk (fs++[f]) (ws++[w])/\ss=[.sh (.int p)]/\bk.length<=1000/\fs.length<=900/\ws.length<=900/\f.length<=1000/\
 Kk (Fj bk f p) (X<|vO C x b1 b2 b3 bk (fs++[f]) (ws++[w])) (R (vO C x b1 b2 b3 (bk++[(("unite" : Str),[p])]) (fs++[f]++[PM f p]) (ws++[w]++[w]))<|.int (bk.length+1))
noncomputable def FJ(bk:List (Str×Yl))(w:Yk)(a b:Int):Option Str:=if 100<=bk.length then some "BookFull" else Kd w a b
noncomputable def Zfs(C:Addr):Pw:=λo ss R X=>∃(x b1 b2 b3:Addr) (bk:List (Str×Yl)) (fs ws:List (Yk)) (f w:Yk) (p h:Int),o=vO C x b1 b2 b3 bk (fs++[f]) (ws++[w])/\ss=[.sh (.int p),.sh (.int h)]/\bk.length<=1000/\fs.length<=900/\ws.length<=900/\w.length<=1000/\
 Kk (FJ bk w p h) (X<|vO C x b1 b2 b3 bk (fs++[f]) (ws++[w])) (R (vO C x b1 b2 b3 (bk++[(("wish" : Str),[p,h])]) (fs++[f]++[f]) (ws++[w]++[w++[(p,h)]]))<|.int (bk.length+1))
noncomputable def Zau:Pc:=λds R _=>∃bk:List (Str×Yl),ds=[.lst (bk.map dD),.lst (bk.map dD)]/\(∀q∈bk,q.2.length<=100)/\bk.length<=1000/\R (.sh<|.bl true)
noncomputable def Zja:Pc:=λds R _=>∃(ns m:Yl),ds=[.scr ns,.lst (m.map D.int)]/\Tn m/\∀qs:Yk,qs.length<=24->R (.own (qs.map λq=>dD (Dd.wish q.1 q.2).q))
noncomputable def Zb6:Pc:=λds R _=>∃(c:Int) (m:Yl) (f w:Yk) (es:List D),ds=[.int c,.lst (m.map D.int),.tup (plD f::plD w::es)]/\Tn m/\f.length<=1000/\Field f/\w.length<=1000/\(∀x:Dd,R (.sh<|dD x.q))/\R (.sh<|.tup [.str "back"])
noncomputable def Zgq:Pq:=λss R _=>∃(f w:Yk) (es:List D) (p h:Int),ss=[.sh (.tup (plD f::plD w::es)),.sh (.int p),.sh (.int h)]/\Field f/\f.length<=40/\Ta w/\
 (∀e,XO f p h=some e->R (.own<|.lst [.int (codeN<|some e),.lst [],.int 0]))/\(XO f p h=none->(∀r,FR (Xp f) w r->r≠[]->R (.own<|.lst [.int 4,.lst (r.map D.int),.int 0]))/\((¬ ∃r,Ring (Xp f) w r)->
 (∀r,FR (Xp<|X8 f p h) w r->r≠[]->R (.own<|.lst [.int 4,.lst (r.map D.int),.int 0]))/\((¬ ∃r,Ring (Xp<|X8 f p h) w r)->∀o o2,Bu w (pcc f) (Xp f) o->Bu w (pcc<|X8 f p h) (Xp<|X8 f p h) o2->R (.own<|.lst [.int 0,.lst [],.int (oc (pcc<|X8 f p h) o2-oc (pcc f) o)]))))
noncomputable def Zci:Pc:=λds R X=>∃(ps ws:Yk),ds=[.lst (ps.map prD),.lst (ws.map prD)]/\Field ps/\ps.length<=50/\(∀q∈ws,q.1≠q.2)/\PY (Xp ps) ws X (R<|.sh .non)
noncomputable def Dm(bk:List (Str×Yl))(f w:Yk)(d:Dd):Option Str:=if 100<=bk.length then some "BookFull" else d.err f w
noncomputable def Zfk(C:Addr):Pw:=λo ss R X=>∃(x b1 b2 b3:Addr) (bk:List (Str×Yl)) (fs ws:List (Yk)) (f w:Yk) (d:Dd),o=vO C x b1 b2 b3 bk (fs++[f]) (ws++[w])/\ss=[.sh (dD d.q)]/\bk.length<=1000/\fs.length<=900/\ws.length<=900/\f.length<=1000/\w.length<=1000/\
 Kk (Dm bk f w d) (X<|vO C x b1 b2 b3 bk (fs++[f]) (ws++[w])) (R (vO C x b1 b2 b3 (bk++[d.q]) (fs++[f]++[d.fld f]) (ws++[w]++[d.wsh w]))<|.int (bk.length+1))
noncomputable def Zmy(C:Addr):Pc:=λds R _=>∃(f0:Yk) (hs:List (Dd×Yk×Yk)),ds=[Tv C (bkH hs) (fsH f0 hs) (wsH hs),.lst (XX f0 hs)]/\hs.length<=200/\(∀g∈fsH f0 hs,g.length<=1000)/\(∀g∈wsH hs,g.length<=1000)/\R (.sh<|.bl true)
noncomputable def Zdg:Pc:=λds R X=>∃(ps ws:Yk),ds=[.lst (ps.map prD),.lst (ws.map prD)]/\Field ps/\ps.length<=50/\ws.length<=50/\(∀q∈ws,q.1≠q.2)/\PY (Xp ps) ws X (∀vs,Hf ws (pcc ps) (XG<|Xp ps) vs->R (.own<|vs.map D.int))
noncomputable def Zd6(C:Addr):Pw2:=λo1 o2 ss R _=>∃(x b1 b2 b3 a:Addr) (f0:Yk) (hs:Kf) (q:D),o1=vO C x b1 b2 b3 (bkH hs) (fsH f0 hs) (wsH hs)/\o2=.lsA a (XX f0 hs)/\ss=[.sh q]/\hs.length<100/\FineH f0 hs/\
 ((q=.tup [.str "back"]/\R (vO C x b1 b2 b3 (bkH hs.dropLast) (fsH f0 hs.dropLast)<|wsH hs.dropLast) (.lsA a<|XX f0 hs.dropLast) (.bl true))\/
  ∃d:Dd,q=dD d.q/\R (vO C x b1 b2 b3 (bkH<|Pk f0 hs d) (fsH f0<|Pk f0 hs d)<|wsH<|Pk f0 hs d) (.lsA a<|XX f0<|Pk f0 hs d) (.bl true))
noncomputable def Zlc:Pc:=λds R X=>∃(ps ws:Yk),ds=[.lst (ps.map prD),.lst (ws.map prD)]/\Field ps/\ps.length<=50/\ws.length<=50/\(∀q∈ws,q.1≠q.2)/\PY (Xp ps) ws X (∀v,KZ ws (pcc ps) (Xp ps) v->R (.sh<|.int v))
noncomputable def Zog(C:Addr):Pc:=λds R X=>∃(bk:List (Str×Yl)) (fs ws:List (Yk)) (f w:Yk),ds=[Tv C bk (fs++[f]) (ws++[w])]/\Field f/\f.length<=50/\w.length<=50/\(∀q∈w,q.1≠q.2)/\PY (Xp f) w X (∀v,KZ w (pcc f) (Xp f) v->R (.sh<|.int v))
noncomputable def Zle(C:Addr):Pc:=λds R X=>∃(bk:List (Str×Yl)) (fs ws:List (Yk)) (f w:Yk) (p h:Int),ds=[Tv C bk (fs++[f]) (ws++[w]),.int p,.int h]/\Field f/\f.length<=40/\w.length<=50/\(∀q∈w,q.1≠q.2)/\Kk (XO f p h) X (PY (Xp f) w X (∀u,KZ w (pcc f) (Xp f) u->PY (Xp<|X8 f p h) w X (∀v,KZ w (pcc<|X8 f p h) (Xp<|X8 f p h) v->R (.sh<|.int (v-u)))))
noncomputable def Zd0(C:Addr):Pc:=λds R _=>∃(bk:List (Str×Yl)) (fs ws:List (Yk)) (f w:Yk) (p h:Int),ds=[Tv C bk (fs++[f]) (ws++[w]),.int p,.int h]/\Field f/\f.length<=40/\w.length<=50/\(∀q∈w,q.1≠q.2)/\
 (∀e,XO f p h=some e->R (.sh<|.tup [.int 0,.lst [.bl true,.bl (decide (e=("NoStrip" : Str))),.bl (decide (e=("BadHolder" : Str))),.bl (decide (e=("OwnStrip" : Str))),.bl false],.lst []]))/\
 (XO f p h=none->PY (Xp f) w (λe=>∀r,e=PX r->R (.sh<|.tup [.int 0,.lst [.bl true,.bl false,.bl false,.bl false,.bl true],.fL r])) (∀u,KZ w (pcc f) (Xp f) u->PY (Xp<|X8 f p h) w (λe=>∀r,e=PX r->R (.sh<|.tup [.int 0,.lst [.bl true,.bl false,.bl false,.bl false,.bl true],.fL r])) (∀v,KZ w (pcc<|X8 f p h) (Xp<|X8 f p h) v->R (.sh<|.tup [.int (v-u),.lst [.bl true],.lst []]))))
structure Fv (P:Program) (w:World) (K:Yj) (mg:Yn) (base:Heap):Type
variable {P:Program}{w:World}{K:Yj}{mg:Yn}{base:Heap}
abbrev Cal(_:Fv P w K mg base):=Callee P w K mg base
abbrev Cam(_:Fv P w K mg base):=Pa P w K mg base
abbrev Cxe(_:Fv P w K mg base):=ExcR.CXe P w
abbrev X5(_:Fv P w K mg base):=ExcR.Xl mg "Village"
variable (ζ:Fv P w K mg base)
abbrev Ze8:Prop:=Cam ζ CX0 1 (ExcR.KD K<|ExcR.Xl mg "Ringed") ["self","members"] (ExcR.Br K)
abbrev Gf:Prop:=Cal ζ (Cxe ζ) 1 "check_holder" ["holder"] (Xs mg Zfz K)
abbrev G8:Prop:=Cal ζ (Cxe ζ) 1 "check_width" ["width"] (Xs mg Zhl K)
abbrev Za4:Prop:=Cal ζ CX0 1 "holders_of" ["strips"] (Xs mg MS K)
abbrev ID:Prop:=Cal ζ CX0 1 "pair_cost" ["strips","ahead","behind"] (Xs mg Zfu K)
abbrev Mf:Prop:=Cal ζ (Cxe ζ) 1 "check_neighbours" ["strips","place"] (Xs mg Zf0 K)
abbrev Ie:Prop:=Cal ζ CX0 1 "longer_paths" ["paths","left","wishes"] (Xs mg Zel K)
abbrev Mx:Prop:=Cal ζ (Cxe ζ) 1 "check_place" ["strips","place"] (Xs mg Zd2 K)
abbrev Ii:Prop:=Cal ζ (Cxe ζ) 1 "without_wish" ["wishes","ahead","behind"] (Xs mg Zkw K)
abbrev Gg:Prop:=Cal ζ CX0 1 "sets_of" ["holders"] (Xs mg Zpl K)
abbrev MW:Prop:=Cal ζ CX0 1 "without" ["members","holder"] (Xs mg Zex K)
abbrev OM:Prop:=Cal ζ CX0 1 "may_lie_last" ["members","holder","wishes"] (Xs mg Zl2 K)
abbrev O4:Prop:=Cam ζ CX0 1 (XF K (X5 ζ) "strips") ["self"] (Xs mg (Ru<|X5 ζ) K)
abbrev Mr:Prop:=Cam ζ CX0 1 (XF K (X5 ζ) "wishes") ["self"] (Xs mg (Zdx<|X5 ζ) K)
abbrev GF:Prop:=Cam ζ CX0 1 (XF K (X5 ζ) "deeds") ["self"] (Xs mg (Zfa<|X5 ζ) K)
abbrev Hm:Prop:=Cam ζ (Cxe ζ) 1 (XF K (X5 ζ) "check_room") ["self"] (Xs mg (Zh0<|X5 ζ) K)
abbrev GX:Prop:=Cam ζ CX0 1 (XF K (X5 ζ) "enter") ["self","deed","field","wishes"] (Pu.spW mg (Zom<|X5 ζ) K)
abbrev Od:Prop:=Cam ζ (Cxe ζ) 1 (XF K (X5 ζ) "take_back") ["self"] (Pu.spW mg (Zcs<|X5 ζ) K)
abbrev GK:Prop:=Cal ζ CX0 1 "_law_at" ["_law_script","_law_k"] (Xs mg Zia K)
abbrev Lj:Prop:=Cal ζ CX0 1 "_law_whole" ["_law_found"] (Xs mg Zfi K)
abbrev Mz:Prop:=Cal ζ CX0 1 "_law_mix" ["_law_cell","_law_place_here"] (Xs mg Zof K)
abbrev Hu:Prop:=Cal ζ CX0 1 "_law_menu" ["_law_cell"] (Xs mg Zod K)
abbrev Ov:Prop:=Cal ζ CX0 1 "_law_holder" ["_law_menu_here","_law_k"] (Xs mg Zky K)
abbrev Ia:Prop:=Cal ζ CX0 1 "_law_present" ["_law_strips"] (Xs mg Zg6 K)
abbrev Gh:Prop:=Cal ζ CX0 1 "_law_price" ["_law_strips","_law_order"] (Xs mg Zdh K)
abbrev M6:Prop:=Cal ζ CX0 1 "_law_kept" ["_law_order","_law_wishes"] (Xs mg Zax K)
abbrev EG:Prop:=Cal ζ CX0 1 "_law_orders" ["_law_holders"] (Xs mg Zjy K)
abbrev LI:Prop:=Cal ζ CX0 1 "_law_ring" ["_law_holders","_law_wishes"] (Xs mg Zey K)
abbrev G4:Prop:=Cal ζ CX0 1 "_law_field_step" ["_law_strips","_law_deed_here"] (Pu.spS mg Zh1 K)
abbrev LJ:Prop:=Cal ζ CX0 1 "_law_wish_step" ["_law_wishes","_law_deed_here"] (Pu.spS mg Zko K)
abbrev MH:Prop:=Cal ζ CX0 1 "_law_odd" ["_law_cell","_law_good"] (Xs mg Zok K)
abbrev Ig:Prop:=Cal ζ CX0 1 "_law_place" ["_law_cell","_law_strips"] (Xs mg Zm0 K)
abbrev GH:Prop:=Cal ζ CX0 1 "_law_width" ["_law_cell","_law_strips","_law_place_here"] (Xs mg RD K)
abbrev I0:Prop:=Cal ζ (Cxe ζ) 2 "check_strips" ["strips"] (Xs mg Zph K)
abbrev La:Prop:=Cal ζ CX0 2 "ring_from" ["least","holders","wishes"] (Xs mg Zck K)
abbrev Hg:Prop:=Cal ζ (Cxe ζ) 2 "sold" ["strips","place","holder"] (Xs mg Za3 K)
abbrev ML:Prop:=Cal ζ (Cxe ζ) 2 "parted" ["strips","place","width"] (Xs mg Zc0 K)
abbrev Iu:Prop:=Cal ζ (Cxe ζ) 2 "united" ["strips","place"] (Xs mg Zgg K)
abbrev II:Prop:=Cal ζ (Cxe ζ) 2 "with_wish" ["wishes","ahead","behind"] (Xs mg Zk9 K)
abbrev Ib:Prop:=Cal ζ CX0 2 "pair_costs" ["strips"] (Xs mg Zm2 K)
abbrev HI:Prop:=Cal ζ CX0 2 "cost_with_last" ["members","last","least","pairs"] (Xs mg Zho K)
abbrev Ld:Prop:=Cam ζ (Cxe ζ) 2 (XF K (X5 ζ) "drop") ["self","ahead","behind"] (Pu.spW mg (Zhh<|X5 ζ) K)
abbrev IQ:Prop:=Cal ζ CX0 2 "_law_draw" ["_law_script","_law_k"] (Xs mg Zgy K)
abbrev Hi:Prop:=Cal ζ CX0 2 "_law_spare" ["_law_script"] (Xs mg Zg5 K)
abbrev M4:Prop:=Cal ζ CX0 2 "_law_row" ["_law_found","_law_due_here"] (Xs mg Zd1 K)
abbrev Hx:Prop:=Cal ζ CX0 2 "_law_tuples" ["_law_found","_law_due_here"] (Xs mg Znm K)
abbrev Mp:Prop:=Cal ζ CX0 2 "_law_deed_is" ["_law_found","_law_due_here"] (Xs mg R3 K)
abbrev GW:Prop:=Cal ζ CX0 2 "_law_best" ["_law_strips","_law_wishes"] (Xs mg Zny K)
abbrev Im:Prop:=Cal ζ CX0 2 "_law_step" ["_law_now","_law_deed_here"] (Pu.spS mg Zj4 K)
abbrev Oy:Prop:=Cal ζ CX0 2 "_law_start" ["_law_script","_law_menu_here","_law_many"] (Xs mg Zl0 K)
abbrev Hk:Prop:=Cal ζ CX0 2 "_law_days" ["_law_script","_law_most"] (Xs mg Zih K)
abbrev Lk:Prop:=Cal ζ CX0 2 "_law_pair" ["_law_cell","_law_menu_here"] (Xs mg RH K)
abbrev Mt:Prop:=Cal ζ CX0 2 "_law_all_pairs" ["_law_menu_here","_law_cell"] (Xs mg Zh4 K)
abbrev Hv:Prop:=Cal ζ CX0 2 "_law_buyer" ["_law_cell","_law_menu_here"] (Xs mg Zm1 K)
abbrev Mi:Prop:=Cal ζ CX0 3 "find_ring" ["holders","wishes"] (Xs mg Zbk K)
abbrev G9:Prop:=Cal ζ CX0 3 "least_costs" ["strips","wishes","pairs"] (Xs mg Zjn K)
abbrev MT:Prop:=Cam ζ (Cxe ζ) 3 (Mk K<|X5 ζ) ["self","strips"] (Pu.spW mg (Ze7<|X5 ζ) K)
abbrev OO:Prop:=Cam ζ (Cxe ζ) 3 (XF K (X5 ζ) "sell") ["self","place","holder"] (Pu.spW mg (Zhk<|X5 ζ) K)
abbrev GZ:Prop:=Cam ζ (Cxe ζ) 3 (XF K (X5 ζ) "part") ["self","place","width"] (Pu.spW mg (Zlv<|X5 ζ) K)
abbrev GV:Prop:=Cam ζ (Cxe ζ) 3 (XF K (X5 ζ) "unite") ["self","place"] (Pu.spW mg (RS<|X5 ζ) K)
abbrev Rl:Prop:=Cam ζ (Cxe ζ) 3 (XF K (X5 ζ) "wish") ["self","ahead","behind"] (Pu.spW mg (Zfs<|X5 ζ) K)
abbrev EY:Prop:=Cal ζ CX0 3 "_law_book_is" ["_law_found","_law_due_here"] (Xs mg Zau K)
abbrev M7:Prop:=Cal ζ CX0 3 "_law_opening" ["_law_script","_law_menu_here"] (Xs mg Zja K)
abbrev L7:Prop:=Cal ζ CX0 3 "_law_deed" ["_law_cell","_law_menu_here","_law_now"] (Xs mg Zb6 K)
abbrev Ga:Prop:=Cal ζ CX0 3 "_law_due" ["_law_now","_law_place_here","_law_holder_here"] (Pu.spS mg Zgq K)
abbrev Hc:Prop:=Cal ζ (Cxe ζ) 4 "check_no_ring" ["strips","wishes"] (Xs mg Zci K)
abbrev Oz:Prop:=Cal ζ (Cxe ζ) 4 "_law_call" ["_law_village","_law_deed_here"] (Pu.spW mg (Zfk<|X5 ζ) K)
abbrev Ln:Prop:=Cal ζ CX0 4 "_law_stands" ["_law_village","_law_past"] (Xs mg (Zmy<|X5 ζ) K)
abbrev MK:Prop:=Cal ζ (Cxe ζ) 5 "cost_table" ["strips","wishes"] (Xs mg Zdg K)
abbrev EU:Prop:=Cal ζ CX0 5 "_law_go" ["_law_village","_law_past","_law_deed_here"] (Nz mg (Zd6<|X5 ζ) K)
abbrev MJ:Prop:=Cal ζ (Cxe ζ) 6 "least_cost" ["strips","wishes"] (Xs mg Zlc K)
abbrev Gq:Prop:=Cam ζ (Cxe ζ) 7 (XF K (X5 ζ) "cost") ["self"] (Xs mg (Zog<|X5 ζ) K)
abbrev Hs:Prop:=Cam ζ (Cxe ζ) 8 (XF K (X5 ζ) "offer") ["self","place","holder"] (Xs mg (Zle<|X5 ζ) K)
abbrev HM:Prop:=Cal ζ CX0 9 "_law_offered" ["_law_village","_law_place_here","_law_holder_here"] (Xs mg (Zd0<|X5 ζ) K)
abbrev Zkf:Prop:=Cal ζ CX0 10 "law" ["_law_script"] (Xs mg MO K)
end M
namespace M
open L2 Own Pu
def Pd(ps:List (Yl))(ls:Yl)(i j:Nat)(p:Yl)(h:Int):Prop:=(p∈ps.take i/\h∈ls)\/(ps[i]?=some p/\h∈ls.take j)
structure LGs (ws:Yk) (l:Int) (P:Yl->Int->Prop) (ls:Yl) (lg:List (Yl)) (kvs:List (Key×V)):Prop where
 g:LG ws l P lg
 nd:(lg.map<|Xu l).Nodup
 sub:∀h∈lg.map (Xu l),h∈ls
 rc:∀h:Int,(X0 kvs<|.inl h).isSome=true↔h∈lg.map (Xu l)
 len:kvs.length<=lg.length
def LGs.len_le {ws:Yk}{l:Int}{P:Yl->Int->Prop}{ls:Yl}{lg:List (Yl)}{kvs:List (Key×V)} (L:LGs ws l P ls lg kvs):lg.length<=ls.length:=by
 have:=Nn L.nd L.sub
 rwa[WG]at this
def LG.congr {ws:Yk}{l:Int}{P P':Yl->Int->Prop}{lg:List (Yl)} (h:∀p x,P p x↔P' p x) (G:LG ws l P lg):LG ws l P' lg:=
 ⟨λq hq=>let ⟨p,x,a,b⟩:=G.mem q hq;⟨p,x,(h p x).mp a,b⟩,G.srt,λp x a b=>G.has p x ((h p x).mpr a) b⟩
def LGs.congr {ws:Yk}{l:Int}{P P':Yl->Int->Prop}{ls:Yl}{lg:List (Yl)}{kvs:List (Key×V)} (h:∀p x,P p x↔P' p x) (G:LGs ws l P ls lg kvs):LGs ws l P' ls lg kvs:=⟨G.g.congr h,G.nd,G.sub,G.rc,G.len⟩
def LGs.start {ps:List (Yl)}{ls:Yl}{ws:Yk}{l:Int}:LGs ws l (Pd ps ls 0 0) ls [] []:=by
 refine⟨⟨(λq hq=>by cases hq),List.Pairwise.nil,λp h a=>?_⟩,V3,(λh hh=>by cases hh),(λh=>by simp[X0]),WQ _⟩;rcases a with⟨a,_⟩|⟨_,a⟩
 ·rw[QS]at a;cases a
 ·rw[QS]at a;cases a
def LGs.skip {ps:List (Yl)}{ls:Yl}{ws:Yk}{l:Int}{lg:List (Yl)}{kvs:List (Key×V)}{i j:Nat}{p:Yl}{h:Int} (hp:ps[i]?=some p) (hh:ls[j]?=some h) (hs:ps.Pairwise sl)
  (G:LGs ws l (Pd ps ls i j) ls lg kvs) (no:(X0 kvs<|.inl h).isSome=true\/(Xu l p,h)∉ws):LGs ws l (Pd ps ls i (j+1)) ls lg kvs:=by
 obtain⟨hj,ej⟩:=WZ.mp hh;obtain⟨hi,ei⟩:=WZ.mp hp;have tk:∀x,x∈ls.take (j+1)↔x∈ls.take j\/x=h:=λx=>by rw[WY hj,WV,WJ,ej]
 refine⟨⟨λq hq=>?_,G.g.srt,λp' x a b=>?_⟩,G.nd,G.sub,G.rc,G.len⟩
 ·obtain⟨p',x,a,b⟩:=G.g.mem q hq;exact⟨p',x,a.imp id λz=>⟨z.1,(tk x).mpr (.inl z.2)⟩,b⟩
 ·rcases a with a|⟨a1,a2⟩
  ·exact G.g.has p' x (.inl a) b
  ·rcases(tk x).mp a2 with a2|rfl
   ·exact G.g.has p' x (.inr ⟨a1,a2⟩) b
   ·rw[hp]at a1;cases a1
    rcases no with no|no
    ·obtain⟨q,hq,e⟩:=Qp.mp ((G.rc x).mp no);obtain⟨p'',x',c1,rfl,c2⟩:=G.g.mem q hq;have ex:x'=x:=by rw[Pi]at e;exact e
     subst ex;refine⟨p'',hq,?_⟩;rcases c1 with⟨c1,_⟩|⟨c1,_⟩
     ·obtain⟨m,hm,em'⟩:=Qt.mp c1;rw[Qm]at hm;rw[QT]at em'
      have:=Qo.mp hs m i (by omega) hi (by omega)
      rw[em',ei]at this;exact .inr this
     ·rw[hp]at c1;cases c1
      exact .inl rfl
    ·exact absurd b no
def LGs.put {ps:List (Yl)}{ls:Yl}{ws:Yk}{l:Int}{lg:List (Yl)}{kvs:List (Key×V)}{i j:Nat}{p:Yl}{h:Int} (hp:ps[i]?=some p) (hh:ls[j]?=some h) (hs:ps.Pairwise sl) (hl:ls.Pairwise (· < ·))
  (G:LGs ws l (Pd ps ls i j) ls lg kvs) (new:(X0 kvs<|.inl h).isSome=false) (hw:(Xu l p,h)∈ws):LGs ws l (Pd ps ls i (j+1)) ls (lg++[p++[h]]) (putK kvs (.inl h)<|.bl true):=by
 obtain⟨hj,ej⟩:=WZ.mp hh;obtain⟨hi,ei⟩:=WZ.mp hp;have tk:∀x,x∈ls.take (j+1)↔x∈ls.take j\/x=h:=λx=>by rw[WY hj,WV,WJ,ej]
 have lh:Xu l (p++[h])=h:=by rw[Pi];rfl
 have nh:h∉lg.map (Xu l):=λz=>by rw[(G.rc h).mpr z]at new;cases new
 refine⟨⟨λq hq=>?_,?_,λp' x a b=>?_⟩,?_,λx hx=>?_,λx=>?_,?_⟩
 ·rcases WV.mp hq with hq|hq
  ·obtain⟨p',x,a,b⟩:=G.g.mem q hq;exact⟨p',x,a.imp id λz=>⟨z.1,(tk x).mpr (.inl z.2)⟩,b⟩
  ·rw[WJ.mp hq];exact⟨p,h,.inr ⟨hp,(tk h).mpr (.inr rfl)⟩,rfl,hw⟩
 ·refine V0.mpr ⟨G.g.srt,by simp,λq hq q' hq'=>?_⟩;rw[WJ.mp hq'];obtain⟨p',x,a,rfl,b⟩:=G.g.mem q hq;rcases a with⟨a,_⟩|⟨a1,a2⟩
  ·obtain⟨m,hm,em'⟩:=Qt.mp a;rw[Qm]at hm;rw[QT]at em'
   have:=Qo.mp hs m i (by omega) hi (by omega)
   rw[em',ei]at this;exact Fl x h this
  ·rw[hp]at a1;cases a1
   obtain⟨m,hm,em'⟩:=Qt.mp a2;rw[Qm]at hm;rw[QT]at em'
   have:=Qo.mp hl m j (by omega) hj (by omega)
   rw[em',ej]at this;exact CP this
 ·have old:∀p' x,Pd ps ls i j p' x->(Xu l p',x)∈ws->∃p'',p''++[x]∈lg++[p++[h]]/\(p''=p'\/sl p'' p'):=λp' x a b=>let ⟨p'',k1,k2⟩:=G.g.has p' x a b;⟨p'',Q9 _ k1,k2⟩;rcases a with a|⟨a1,a2⟩
  ·exact old p' x (.inl a) b
  ·rcases(tk x).mp a2 with a2|rfl
   ·exact old p' x (.inr ⟨a1,a2⟩) b
   ·rw[hp]at a1;cases a1
    exact⟨p,Ql _ (WJ.mpr rfl),.inl rfl⟩
 ·rw[Qc,VE,lh];refine Q7.mpr ⟨G.nd,by simp,λa ha b hb=>?_⟩;rw[WJ.mp hb];rintro rfl;exact nh ha
 ·rw[Qc,VE,lh]at hx;rcases WV.mp hx with hx|hx
  ·exact G.sub x hx
  ·rw[WJ.mp hx,←ej];exact Qf hj
 ·rw[Qc,VE,lh,Fu,WV,WJ];by_cases e:x=h
  ·subst e;rw[WO rfl];exact⟨λ_=>.inr rfl,λ_=>rfl⟩
  ·rw[WN (λz=>e (Sum.inl.inj z)),G.rc];exact⟨.inl,λz=>z.elim id λw=>absurd w e⟩
 ·rw[WR]
  have:=Fw kvs (.inl h) (.bl true)
  have:=G.len
  simp;omega
def Zfp(hs r:Yl):(hs.filter λh=>!decide (h∈r)).map (λh=>D.lst (r.map D.int++[D.int h]))=(nextM hs r).map ilD:=by
 unfold nextM ilD;rw[QA];apply VW;intro h _;show _=D.lst ((r++[h]).map D.int);rw[Qc];rfl
def Zpa{hs:Yl}{rows:List (Yl)}{j:Nat}(h:j<rows.length):((rows.take (j+1)).flatMap (nextM hs))=(rows.take j).flatMap (nextM hs)++nextM hs rows[j]:=by
 rw[WY h,List.flatMap_append];simp
noncomputable def TC:Nat->Nat
 | 0=>1
 |k+1=>TC k*(10-k)
def GS:∀k,TC k<=3628800:=by
 have z:∀k,TC (11+k)=0:=by
  intro k
  induction k with
  |zero=>decide
  |succ k ih=>show TC (11+k)*_=0;rw[ih,Nat.zero_mul]
 intro k;by_cases h:k<11
 ·have:∀i:Fin 11,TC i.1<=3628800:=by decide
  exact this ⟨k,h⟩
 ·have:=z (k-11)
  rw[show 11+(k-11)=k by omega]at this;omega
def Zhf{hs r:Yl}(nd:hs.Nodup)(hz:hs.length<=10)(h1:r.Nodup)(h2:∀x∈r,x∈hs):(nextM hs r).length<=10-r.length:=by
 unfold nextM;rw[WG]
 have:=Nn (Q7.mpr ⟨nd.filter (λh=>!decide (h∈r)),h1,λa ha b hb e=>by
  have:=(Q6.mp ha).2
  rw[e,WI hb]at this;cases this⟩) (ys:=hs) λx hx=>by
  rcases WV.mp hx with hx|hx
  ·exact(Q6.mp hx).1
  ·exact h2 x hx
 rw[WR]at this;omega
theorem Do{hs:Yl}(nd:hs.Nodup)(hz:hs.length<=10){k:Nat}:∀rs:List (Yl),(∀r∈rs,r.length=k/\r.Nodup/\∀x∈r,x∈hs)->(rs.flatMap<|nextM hs).length<=rs.length*(10-k)
 |[],_=>by simp
 |r::rs,h=>by
  obtain⟨h0,h1,h2⟩:=h r Qu;have a:=Zhf nd hz h1 h2;have b:=Do nd hz rs λx hx=>h x (Qe _ hx);rw[List.flatMap_cons,WR,Qi,Nat.add_mul];rw[h0]at a;omega
theorem CM{hs:Yl}(nd:hs.Nodup)(hz:hs.length<=10):∀k,(XJ hs k).length<=TC k
 | 0=>by unfold XJ;simp[TC]
 |k+1=>by
  show((XJ hs k).flatMap (nextM hs)).length<=TC k*(10-k);exact WU (Do nd hz _ λr hr=>rows_mem.mp hr) (JB _<|CM nd hz k)
noncomputable def eL(w:Yl):D:=.lst (w.map D.int)
def Rh(hs:Yl)(ws:Yk)(k:Nat)(w:Yl):Prop:=∃l t,w=l::t/\l∈hs/\Path (Gr hs l) ws l t/\(l::t).Nodup/\t.length=k
structure Nr (hs:Yl) (ws:Yk) (k:Nat) (rows:List (Yl)):Prop where
 mem:∀w,w∈rows↔Rh hs ws k w
 srt:rows.Pairwise sl
def NoC(hs:Yl)(ws:Yk)(k:Nat):Prop:=∀l t,l∈hs->Ko hs ws l t->(l::t).Nodup->t.length<=k->False
def BP(ws:Yk)(w:Yl):Prop:=∃l t,w=l::t/\(Xu l t,l)∈ws
section
variable {hs:Yl}{ws:Yk}{k:Nat}{rows:List (Yl)}{r:Yl}
def Zmk{l:Int}{t:Yl}(hl:l∈hs)(hp:Path (Gr hs l) ws l t)(hn:(l::t).Nodup)(hk:k<=t.length):Rh hs ws k (l::t.take k):=by
 have e:t=t.take k++t.drop k:=(List.take_append_drop k t).symm;rw[e]at hp;refine⟨l,t.take k,rfl,hl,(path_app.mp hp).1,hn.sublist ?_,by rw[Qm];omega⟩;exact(Vx k t).cons₂ l
def NoC.next (L:Nr hs ws (k+1) rows) (h:∀w∈rows,¬BP ws w) (N:NoC hs ws k):NoC hs ws (k+1):=λl t hl hc hn ht=>by
 by_cases c:t.length<=k
 ·exact N l t hl hc hn c
 ·exact h _ ((L.mem _).mpr ⟨l,t,rfl,hl,hc.1,hn,by omega⟩) ⟨l,t,rfl,hc.2⟩
def NoC.zero (hu:∀q∈ws,q.1≠q.2):NoC hs ws 0:=λl t hl hc hn ht=>by
 have:t=[]:=QN.mp (by omega)
 subst this;exact hu _ hc.2 rfl
def RT(hu:∀q∈ws,q.1≠q.2)(F:FR hs ws r)(L:Nr hs ws k [])(N:NoC hs ws k):r=[]:=by
 rcases F with⟨e,_⟩|⟨l,t,rfl,hl,hc,hm⟩
 ·exact e
 ·have R:=FQ hu hl hc λu hu'=>by rcases hm l hl u hu' with z|⟨z,_⟩<;>omega
  by_cases c:t.length<=k
  ·exact(N l t hl hc R.nodup c).elim
  ·have:=(L.mem _).mpr (Zmk (k:=k) hl hc.1 R.nodup<|by omega)
   cases this
def OB{a b:Yl}(h1:sl a b)(h2:sl b a):False:=AM (FK h1 h2)
def Zkb(hu:∀q∈ws,q.1≠q.2)(F:FR hs ws r)(L:Nr hs ws (k+1) rows)(N:NoC hs ws k){i:Nat}(hi:i<rows.length)(hc:BP ws rows[i])(hf:∀w∈rows.take i,¬BP ws w):r=rows[i]:=by
 obtain⟨m,u,ew,hm,hp,hn,hlen⟩:=(L.mem rows[i]).mp (Qf hi);obtain⟨m',u',ew',hcl⟩:=hc;rw[ew]at ew';cases ew'
 have clu:Ko hs ws m u:=⟨hp,hcl⟩;rcases F with⟨_,F⟩|⟨l,t,rfl,hl,hct,hmin⟩
 ·exact absurd clu (F m hm u)
 ·have R:=FQ hu hl hct λv hv=>by rcases hmin l hl v hv with z|⟨z,_⟩<;>omega
  have ht:¬t.length<=k:=λz=>N l t hl hct R.nodup z;have htk:t.length=k+1:=by rcases hmin m hm u clu with z|⟨z,_⟩<;>omega
  have hr:(l::t)∈rows:=(L.mem _).mpr ⟨l,t,rfl,hl,hct.1,R.nodup,htk⟩;obtain⟨j,hj,ej⟩:=Qt.mp hr;have hij:i<=j:=Nat.le_of_not_lt λz=>hf (l::t) (Qt.mpr ⟨j,by rw[Qm];omega,by rw[QT,ej]⟩) ⟨l,t,rfl,hct.2⟩;by_cases e:i=j
  ·subst e;exact ej.symm
  ·have s1:=Qo.mp L.srt i j hi hj (by omega);rw[ew,ej]at s1;exfalso;rcases hmin m hm u clu with z|⟨_,z⟩
   ·omega
   ·rcases z with z|⟨z,z2⟩
    ·exact OB s1 (.inl z)
    ·subst z;rcases z2 with z2|z2
     ·subst z2;exact AM s1
     ·exact OB s1 (sl_cons.mpr z2)
end
def Okh(ws:Yk)(l:Int)(t:Yl)(h:Int):Prop:=l<h/\¬h∈l::t/\(Xu l t,h)∈ws
def PdR(rows:List (Yl))(ns:Yl)(i j:Nat)(w:Yl)(h:Int):Prop:=(w∈rows.take i/\h∈ns)\/(rows[i]?=some w/\h∈ns.take j)
noncomputable def Tu(o:Option (Yl))(h:Int):Bool:=match o with|some w=>decide (¬h∈w)|none=>true
structure GRs (ws:Yk) (rows:List (Yl)) (ns:Yl) (i j c:Nat) (g:List (Yl)):Prop where
 mem:∀q,q∈g↔∃l t h,PdR rows ns i j (l::t) h/\Okh ws l t h/\q=l::t++[h]
 srt:g.Pairwise sl
 len:g.length<=i*c+((ns.take j).filter (Tu rows[i]?)).length
section
variable {ws:Yk}{rows:List (Yl)}{ns:Yl}{i j c:Nat}{g:List (Yl)}{l h:Int}{t:Yl}
def GRs.start:GRs ws rows ns 0 0 c []:=by
 refine⟨λq=>⟨(λz=>by cases z),?_⟩,List.Pairwise.nil,by simp⟩;rintro⟨l,t,h,z|z,_⟩
 ·have:=z.1;rw[QS]at this;cases this
 ·have:=z.2;rw[QS]at this;cases this
def GRs.take_mem (hh:ns[j]?=some h) (x:Int):x∈ns.take (j+1)↔x∈ns.take j\/x=h:=by
 obtain⟨hj,ej⟩:=WZ.mp hh;rw[WY hj,WV,WJ,ej]
def GRs.skip (hw:rows[i]?=some (l::t)) (hh:ns[j]?=some h) (G:GRs ws rows ns i j c g) (no:¬Okh ws l t h):GRs ws rows ns i (j+1) c g:=by
 have tk:=GRs.take_mem hh;obtain⟨hj,ej⟩:=WZ.mp hh;refine⟨λq=>(G.mem q).trans ⟨?_,?_⟩,G.srt,WU G.len ?_⟩
 ·rintro⟨l',t',x,z,k1,k2⟩;exact⟨l',t',x,z.imp id λy=>⟨y.1,(tk x).mpr (.inl y.2)⟩,k1,k2⟩
 ·rintro⟨l',t',x,z|⟨z1,z2⟩,k1,k2⟩
  ·exact⟨l',t',x,.inl z,k1,k2⟩
  ·rcases(tk x).mp z2 with z2|rfl
   ·exact⟨l',t',x,.inr ⟨z1,z2⟩,k1,k2⟩
   ·rw[hw]at z1;cases z1
    exact absurd k1 no
 ·rw[WY hj,JO,WR];omega
def GRs.put (hw:rows[i]?=some (l::t)) (hh:ns[j]?=some h) (hs:rows.Pairwise sl) (hl:ns.Pairwise (· < ·)) (G:GRs ws rows ns i j c g) (ok:Okh ws l t h):GRs ws rows ns i (j+1) c (g++[l::t++[h]]):=by
 have tk:=GRs.take_mem hh;obtain⟨hj,ej⟩:=WZ.mp hh;obtain⟨hi,ei⟩:=WZ.mp hw;refine⟨λq=>?_,V0.mpr ⟨G.srt,by simp,λq hq q' hq'=>?_⟩,?_⟩
 ·rw[WV,WJ,G.mem q];constructor
  ·rintro(⟨l',t',x,z,k1,k2⟩|rfl)
   ·exact⟨l',t',x,z.imp id λy=>⟨y.1,(tk x).mpr (.inl y.2)⟩,k1,k2⟩
   ·exact⟨l,t,h,.inr ⟨hw,(tk h).mpr (.inr rfl)⟩,ok,rfl⟩
  ·rintro⟨l',t',x,z|⟨z1,z2⟩,k1,k2⟩
   ·exact .inl ⟨l',t',x,.inl z,k1,k2⟩
   ·rcases(tk x).mp z2 with z2|rfl
    ·exact .inl ⟨l',t',x,.inr ⟨z1,z2⟩,k1,k2⟩
    ·rw[hw]at z1;cases z1
     exact .inr k2
 ·rw[WJ.mp hq'];obtain⟨l',t',x,z,k1,rfl⟩:=(G.mem q).mp hq;rcases z with⟨z,_⟩|⟨z1,z2⟩
  ·obtain⟨m,hm,em'⟩:=Qt.mp z;rw[Qm]at hm;rw[QT]at em'
   have:=Qo.mp hs m i (by omega) hi (by omega)
   rw[em',ei]at this;exact Fl x h this
  ·rw[hw]at z1;cases z1
   obtain⟨m,hm,em'⟩:=Qt.mp z2;rw[Qm]at hm;rw[QT]at em'
   have:=Qo.mp hl m j (by omega) hj (by omega)
   rw[em',ej]at this;exact CP this
 ·have e:(ns.take (j+1)).filter (Tu rows[i]?)=(ns.take j).filter (Tu rows[i]?)++[h]:=by
   rw[WY hj,JO,ej]
   have:Tu rows[i]? h=true:=by
    rw[hw];exact WI ok.2.1
   rw[Jm this,List.filter_nil]
  rw[e,WR,WR]
  have:=G.len
  simp;omega
def Za7{w:Yl}(hn:ns.Nodup)(hw:w.Nodup)(hsub:∀x∈w,x∈ns):(ns.filter<|Tu<|some w).length+w.length<=ns.length:=by
 have:(ns.filter (Tu<|some w)++w).length<=ns.length:=by
  refine Nn (Q7.mpr ⟨hn.filter _,hw,λa ha b hb=>?_⟩) λx hx=>?_
  ·rintro rfl
   have:=(Q6.mp ha).2
   exact WK this hb
  ·rcases WV.mp hx with hx|hx
   ·exact(Q6.mp hx).1
   ·exact hsub x hx
 rwa[WR]at this
def GRs.row (hw:rows[i]?=some (l::t)) (hc:(ns.filter<|Tu<|some (l::t)).length<=c) (G:GRs ws rows ns i ns.length c g):GRs ws rows ns (i+1) 0 c g:=by
 obtain⟨hi,ei⟩:=WZ.mp hw;refine⟨λq=>(G.mem q).trans ⟨?_,?_⟩,G.srt,?_⟩
 ·rintro⟨l',t',x,z,k1,k2⟩;refine⟨l',t',x,.inl ?_,k1,k2⟩;rw[WY hi,WV,WJ,ei];rcases z with z|⟨z1,z2⟩
  ·exact⟨.inl z.1,z.2⟩
  ·rw[hw]at z1;rw[Qy]at z2;exact⟨.inr (WW z1).symm,z2⟩
 ·rintro⟨l',t',x,z|⟨_,z⟩,k1,k2⟩
  ·rw[WY hi,WV,WJ,ei]at z;rcases z.1 with z1|z1
   ·exact⟨l',t',x,.inl ⟨z1,z.2⟩,k1,k2⟩
   ·exact⟨l',t',x,.inr ⟨by rw[hw,z1],by rw[Qy];exact z.2⟩,k1,k2⟩
  ·rw[QS]at z;cases z
 ·have:=G.len
  rw[Qy,hw]at this;rw[Nat.succ_mul];simp;omega
def GRs.all {hs:Yl}{k:Nat} (hm:∀x,x∈ns↔x∈hs) (L:Nr hs ws k rows) (G:GRs ws rows ns rows.length 0 c g):Nr hs ws (k+1) g:=by
 refine⟨λq=>(G.mem q).trans ⟨?_,?_⟩,G.srt⟩
 ·rintro⟨l,t,x,z|⟨_,z⟩,k1,rfl⟩
  ·rw[Qy]at z;obtain⟨l',t',e,h1,h2,h3,h4⟩:=(L.mem _).mp z.1;cases e
   refine⟨l,t++[x],rfl,h1,path_app.mpr ⟨h2,⟨(hm x).mp z.2,k1.1⟩,k1.2.2,trivial⟩,?_,by simp[h4]⟩;rw[←Vn];refine Q7.mpr ⟨h3,by simp,λa ha b hb=>?_⟩;rw[WJ.mp hb];rintro rfl;exact k1.2.1 ha
  ·rw[QS]at z;cases z
 ·rintro⟨l,t,rfl,h1,h2,h3,h4⟩;have ne:t≠[]:=λz=>by rw[z]at h4;cases h4
  have et:t=t.dropLast++[t.getLast ne]:=(QZ ne).symm;generalize t.getLast ne=x at et;generalize t.dropLast=s at et;subst et;obtain⟨p1,p2,p3,_⟩:=path_app.mp h2;rw[←Vn]at h3;obtain⟨n1,n2,n3⟩:=Q7.mp h3;refine⟨l,s,x,.inl ⟨?_,(hm x).mpr p2.1⟩,⟨p2.2,λz=>n3 x z x (WJ.mpr rfl) rfl,p3⟩,rfl⟩;rw[Qy];exact(L.mem _).mpr ⟨l,s,rfl,h1,p1,n1,by simpa using h4⟩
end
noncomputable def fall:Nat->Nat
 | 0=>10
 |k+1=>fall k*(9-k)
def Zh5:∀k,fall k<=3628800:=by
 have z:∀k,fall (10+k)=0:=by
  intro k
  induction k with
  |zero=>decide
  |succ k ih=>show fall (10+k)*_=0;rw[ih,Nat.zero_mul]
 intro k;by_cases h:k<10
 ·have:∀k,k<10->fall k<=3628800:=by decide
  exact this k h
 ·have:=z (k-10)
  rw[show 10+(k-10)=k by omega]at this;omega
noncomputable def Fy(γ:List (Option Pu.S)):Nat:=match (γ[2]?:Option (Option Pu.S))with
 |some (some<|Pu.S.sh<|Pu.D.lst (Pu.D.lst ds::_))=>20-ds.length
 |_=>0
def Rf(l:Int)(t:Yl):atI ((l::t).map D.int) (-1)=some (.int<|Xu l t):=Fs l t
theorem Ly{α:Type}{c:α->Bool}:∀{xs:List α}{x:α}{r:List α},xs.filter c=x::r->∃i,∃hi:i<xs.length,xs[i]=x/\c x=true/\∀j (hj:j<xs.length),j<i->c xs[j]=false
 |[],x,r,h=>by cases h
 |y::ys,x,r,h=>by
  by_cases hy:c y=true
  ·rw[Jm hy]at h;cases h
   exact⟨0,by simp,rfl,hy,λj _ hj=>by omega⟩
  ·rw[List.filter_cons_of_neg hy]at h;obtain⟨i,hi,e1,e2,e3⟩:=Ly h;refine⟨i+1,by simp;omega,by simpa using e1,e2,λj hj hji=>?_⟩;cases j with
   |zero=>simpa using hy
   |succ j=>simpa using e3 j (by simpa using hj) (by omega)
def Iz(c:Int->Bool):∀ws:Yl,ws.filterMap (λq=>if c q=true then some (D.int q)else none)=(ws.filter c).map D.int:=Tg c D.int
theorem IZ(ps:Yk):∀o:Yl,oc (λx y=>pcM ps x y ps.length) o=PL ps ps.length o
 |[]=>rfl
 |a::r=>by
  unfold oc PL;rw[IZ ps r]
def Zoh{ws:Yk}{o:Yl}(nd:o.Nodup)(h:∀q∈ws,Pg o q=false):Keeps ws o:=by
 unfold Keeps;rw[Qo];intro i j hi hj hij hw
 have:=h _ hw
 unfold Pg at this;rw[nd.idxOf_getElem i hi,nd.idxOf_getElem j hj,WI (Qf hi),WI (Qf hj),WI hij]at this;cases this
def CD{ws:Yk}{o:Yl}(hk:Keeps ws o):∀q∈ws,Pg o q=false:=λq hq=>by
 cases hb:Pg o q with
 |false=>rfl
 |true=>
  unfold Pg at hb;rw[Q4,Q4]at hb;have h1:=WK hb.1;have h2:=WK hb.2.1;have h3:=WK hb.2.2;have g1:=Jh.mpr h1;have g2:=Jh.mpr h2
  have:=Qo.mp hk _ _ g2 g1 h3
  rw[JM g2,JM g1]at this;exact absurd hq this
noncomputable def BH(ps:Yk):Option (Yl)->List D
 |none=>[]
 |some q=>[.int (Tc ps q ps.length),.lst (q.map D.int)]
def Zkq(ps:Yk)(b:Option (Yl)):(BH ps b).isEmpty=decide (b=none):=by cases b<;>simp[BH]
def FRi(hs:Yl)(ws:Yk)(ns:Yl)(r:Yl):Prop:=
 (r=[]/\∀l∈ns,∀t,¬Ko hs ws l t)\/∃l t,r=l::t/\l∈ns/\Ko hs ws l t/\∀m∈ns,∀u,Ko hs ws m u->t.length<u.length\/(t.length=u.length/\(l<m\/(l=m/\(t=u\/sl t u))))
def FRi.keep {hs:Yl}{ws:Yk}{ns r f:Yl}{l:Int} (h:FRi hs ws ns r) (hl:∀m∈ns,m<l) (hf:RF hs ws l f) (c:f=[]\/(r≠[]/\r.length<=f.length)):FRi hs ws (ns++[l]) r:=by
 rcases h with⟨rfl,h⟩|⟨l',t,rfl,h1,h2,h3⟩
 ·rcases c with rfl|⟨c,_⟩
  ·rcases hf with⟨_,hf⟩|⟨t,e,_⟩
   ·refine .inl ⟨rfl,λm hm=>?_⟩;rcases WV.mp hm with hm|hm
    ·exact h m hm
    ·rw[WJ.mp hm];exact hf
   ·cases e
  ·exact absurd rfl c
 ·refine .inr ⟨l',t,rfl,Q9 _ h1,h2,λm hm u hu=>?_⟩;rcases WV.mp hm with hm|hm
  ·exact h3 m hm u hu
  ·rw[WJ.mp hm]at hu ⊢;rcases hf with⟨rfl,hf⟩|⟨s,rfl,_,hf⟩
   ·exact absurd hu (hf u)
   ·rcases c with c|⟨_,c⟩
    ·cases c
    ·have hl':=hl l' h1;simp at c;rcases hf u hu with z|⟨z,_⟩
     ·exact .inl (by omega)
     ·by_cases e:t.length<u.length
      ·exact .inl e
      ·exact .inr ⟨by omega,.inl hl'⟩
def FRi.take {hs:Yl}{ws:Yk}{ns r f:Yl}{l:Int} (h:FRi hs ws ns r) (hl:∀m∈ns,m<l) (hf:RF hs ws l f) (c:f≠[]/\(r=[]\/f.length<r.length)):FRi hs ws (ns++[l]) f:=by
 rcases hf with⟨rfl,_⟩|⟨s,rfl,f1,f2⟩
 ·exact absurd rfl c.1
 ·refine .inr ⟨l,s,rfl,Ql _ (WJ.mpr rfl),f1,λm hm u hu=>?_⟩;rcases WV.mp hm with hm|hm
  ·rcases h with⟨rfl,h⟩|⟨l',t,rfl,h1,h2,h3⟩
   ·exact absurd hu (h m hm u)
   ·rcases c.2 with c|c
    ·cases c
    ·simp at c;rcases h3 m hm u hu with z|⟨z,_⟩
     ·exact .inl (by omega)
     ·exact .inl (by omega)
  ·rw[WJ.mp hm]at hu ⊢;rcases f2 u hu with z|⟨z,z2⟩
   ·exact .inl z
   ·exact .inr ⟨z,.inr ⟨rfl,z2⟩⟩
def FRi.all {hs:Yl}{ws:Yk}{ns r:Yl} (hp:∀z,z∈ns↔z∈hs) (h:FRi hs ws ns r):FR hs ws r:=by
 rcases h with⟨rfl,h⟩|⟨l,t,rfl,h1,h2,h3⟩
 ·exact .inl ⟨rfl,λl hl=>h l ((hp l).mpr hl)⟩
 ·exact .inr ⟨l,t,rfl,(hp l).mp h1,h2,λm hm=>h3 m ((hp m).mpr hm)⟩
def Zni(c:Str):0<codeN (some c):=by
 unfold codeN;simp only
 repeat' split
 all_goals decide
def BM{α:Type}{xs:List α}{x:α}(h:xs[xs.length-1]?=some x):atI xs (-1)=some x:=by
 have hi:=(WZ.mp h).1;unfold atI ixN;rw[WN (by omega),WO (by omega)];show xs[_]?=some x;rw[←h];congr 1;omega
def Zfj(x y z:D):atI [x,y,z] 1=some y:=rfl
def M1{r s:Yl}(h:PX r=PX s):r=s:=by
 have:=Q2 TJ h
 rw[BC,BC]at this;exact WW this
end M
namespace T
open L2 Own M
section
variable {P:Program}{w:World}{K:Yj}{mg:Yn}{base:Heap}
def Zgz(G:Glob K mg)(D:Pu.XA K (ExcR.KD K<|ExcR.Xl mg "Ringed") "__init__" "Ringed.__init__" FX ["self","members"])
  : Pu.Pa P w K mg base CX0 1 (ExcR.KD K<|ExcR.Xl mg "Ringed") ["self","members"] (ExcR.Br K):=by
 refine D.ok (k:=0) Zos (λvs H Q E h=>?_) (λf cdv A outer s H vs Q E hr h=>?_)
 ·obtain⟨_,_,_,_,_,rfl,_⟩:=h;rfl
 ·exact⟨_,Na (ExcR.Zhy (pv 0) (P5 OU (by rfl) G.Zj boot_list<|X7 (pv 1) Km)<|by rfl),ExcR.Zoi h rfl⟩
def Zib(G:Glob K mg)(D:Def K mg "holders_of" DX ["strips"])
  : Callee P w K mg base CX0 1 "holders_of" ["strips"] (GM K):=by
 refine D.ok (k:=0) Zf3 (λvs H Q E h=>?_) (λf cdv A outer s H vs Q E hr h=>?_)
 ·obtain⟨l,ps,rfl,⟨vs,hl,hv⟩,hF,hz,q⟩:=h;rfl
 ·obtain⟨l,ps,rfl,⟨vs,hl,hv⟩,hF,hz,q⟩:=h;refine⟨_,(Na<|Ks<|Ka (GJ rfl) (by rfl) G.Zl boot_sorted<|X7 (P5 (Zgo rfl) (by rfl) G.Ye boot_set<|X7 (Am (N':=["holder","width"]) (φ:=[none,none]) rfl (NR.of<|by rfl) (OG<|pv 0) (λ_ _ _ _ _=>⟨(E3 (K:=K) (n:=2) rfl<|SZ (EC (i:=0) (show(["holder","width"]:Ys).Nodup from by decide +kernel) rfl (by first|exact Or.inl rfl|exact Or.inr rfl))<|SZ (EC (i:=1) (show(["holder","width"]:Ys).Nodup from by decide +kernel) rfl (by first|exact Or.inl rfl|exact Or.inr rfl)) AO),Nm,(pv 0)⟩)) Km) Km),?_⟩
  have e1:=hv.1;refine⟨_,rfl,l,rfl,⟨_,SqL.of hl⟩,λD nD=>Zk1 (ds:=ps) (λd=>some (V.int d.1)) (SqL.of hl) e1 nD (WU hz<|by decide) (λi x d H2 hx hd S k hk=>?_) ?_⟩
  ·obtain⟨d',hd',a,rfl,ha⟩:=hv.get hx;rw[hd]at hd';cases hd'
   exact⟨a,_,rfl,SqT.of (S _ _ ha),rfl,_,_,rfl,_,_,rfl,rfl,.skip (.skip .refl),_,rfl,hk⟩
  ·have em:ps.filterMap (λd=>some (V.int d.1))=(ps.map (·.1)).map V.int:=by
    rw[VG,QA];rfl
   rw[em];have S1:Same H (upd H D<|.lst ((ps.map (·.1)).map V.int)):=Kb nD;refine⟨D,ps.map (·.1),rfl,SqL.of X4,by rw[WG];omega,λs1 n1=>?_⟩;have S2:=Own.Same.new (o:=NB w s1 ((ps.map (·.1)).foldl SetR.Ku [])) S1 n1;refine⟨s1,_,rfl,?_,.inr X4,λr ns n2 hp hs=>?_⟩
   ·have:=Hj (ps.map (·.1)) []
    rw[WG]at this;simp at this ⊢;omega
   ·rw[Zc1 hF hp hs];exact q r _ (S2.free n2) (Own.Same.new S2 n2) X4
end
open Pu
section
variable {P:Program}{w:World}{K:Yj}{mg:Yn}{base:Heap} (ζ:Fv P w K mg base)
variable (G:Glob K mg) (YN:Ze8 ζ) (Y6:Gf ζ) (YO:G8 ζ) (YA:Za4 ζ) (YQ:ID ζ) (YR:Mf ζ) (YS:Ie ζ) (YB:Mx ζ) (YT:Ii ζ) (YU:Gg ζ) (YV:MW ζ) (YW:OM ζ) (Y1:O4 ζ) (Y2:Mr ζ) (YX:GF ζ) (Y4:Hm ζ) (Y5:GX ζ) (YY:Od ζ) (Yz:GK ζ) (Y7:Lj ζ) (Y3:Mz ζ) (YZ:Hu ζ) (Y0:Ov ζ) (YC:Ia ζ) (Wa:Gh ζ) (Wb:M6 ζ) (Wc:EG ζ) (Wd:LI ζ) (YD:G4 ζ) (We:LJ ζ) (Y8:MH ζ) (YE:Ig ζ) (Wf:GH ζ) (Wg:I0 ζ) (Wh:La ζ) (YF:Hg ζ) (Wi:ML ζ) (Wj:Iu ζ) (Wk:II ζ) (Wl:Ib ζ) (Wm:HI ζ) (Wn:Ld ζ) (Wo:IQ ζ) (YG:Hi ζ) (YH:M4 ζ) (YI:Hx ζ) (Wp:Mp ζ) (YJ:GW ζ) (Wq:Im ζ) (Wr:Oy ζ) (Ws:Hk ζ) (YK:Lk ζ) (Wt:Mt ζ) (Wu:Hv ζ) (Wv:Mi ζ) (Ww:G9 ζ) (Wx:MT ζ) (Wy:OO ζ) (Wz:GZ ζ) (W1:GV ζ) (W2:Rl ζ) (W3:EY ζ) (W4:M7 ζ) (W5:L7 ζ) (W6:Ga ζ) (W7:Hc ζ) (W8:Oz ζ) (W9:Ln ζ) (WA:MK ζ) (YL:EU ζ) (YM:MJ ζ) (WB:Gq ζ) (WC:Hs ζ) (WD:HM ζ)
def Zn5(DD:Def K mg "check_holder" FW ["holder"])
  : Gf ζ:=by
 refine DD.fy Zkv (λhr n=>(b1<|sI (tp<|wo (tc KS KN (xv 0) xi)<|wO<|tc KF KA (xv 0)<|xe (ExcR.Pn G.ZG) Xq) (b1<|sQ G.Zg G.Zu ExcR.KW<|a1<|xe (ExcR.Np<|ExcR.PB<|ExcR.NF (ExcR.Pn G.ZG) ExcR.Nv)<|N9<|P6<|N6 Xq NH) b0)) (.a ?_)
 ·rintro ds R X ⟨h,rfl,hR⟩;refine⟨rfl,?_⟩;unfold Sn at hR;refine Xm (λg=>Kg ?_) (λg=>?_)
  ·rw[WN (by have:=WK g;omega)]at hR;exact⟨by decide,by decide,by decide,by decide,by simp,hR⟩
  ·have g':¬h<1:=λz=>g (WI z);refine Xm (λg2=>?_) (λg2=>?_)
   ·rw[WN (by have:=WK g2;omega)]at hR;exact⟨by decide,by decide,by decide,by decide,by simp,hR⟩
   ·have g2':¬10<h:=λz=>g2 (WI z);rw[WO (by omega)]at hR;exact hR
def Zi0(DD:Def K mg "check_width" Da ["width"])
  : G8 ζ:=by
 refine DD.fy Ze0 (λhr n=>(b1<|sI (tp<|wo (tc KS KN (xv 0) xi)<|wO<|tc KF KA (xv 0)<|xe (ExcR.Pn G.Zq) Xq) (b1<|sQ G.ZR G.ZQ ExcR.KW<|a1<|xe (ExcR.Np<|ExcR.PB<|ExcR.NF (ExcR.Pn G.Zq) ExcR.Nv)<|N9<|P6<|N6 Xq NH) b0)) (.a ?_)
 ·rintro ds R X ⟨h,rfl,hR⟩;refine⟨rfl,?_⟩;unfold FV at hR;refine Xm (λg=>Kg ?_) (λg=>?_)
  ·rw[WN (by have:=WK g;omega)]at hR;exact⟨by decide,by decide,by decide,by decide,by simp,hR⟩
  ·have g':¬h<1:=λz=>g (WI z);refine Xm (λg2=>?_) (λg2=>?_)
   ·rw[WN (by have:=WK g2;omega)]at hR;exact⟨by decide,by decide,by decide,by decide,by simp,hR⟩
   ·have g2':¬1000<h:=λz=>g2 (WI z);rw[WO (by omega)]at hR;exact hR
def Znb(DD:Def K mg "pair_cost" A3 ["strips","ahead","behind"])
  : ID ζ:=by
 refine DD.fz Zbs (λhr n=>(bc (sS 3 n xi)<|bc (sS 4 n xi)<|bc (sF 0<|sO [5,6] Qd (iL<|xv 0) (gT 2<|gc (gN 5)<|gc (gN 6) g0)<|b1<|sI (tq hr (xv 5)<|xv 2) (b1<|sU 3 n Lz<|xv 6)<|b1<|sI (tq hr (xv 5)<|xv 1) (b1<|sU 4 n Lz<|xo T7 T9 (xv 3)<|xv 6) b0)<|b1<|sV 4)) (.a ?_)
 ·rintro ds R X ⟨ps,x,y,rfl,hF,hR⟩;refine⟨rfl,rfl,K7 (xs:=ps) (emb:=prD) (λi γ'=>γ'=[some (.bor<|.lst<|ps.map prD),some (.sh<|.int x),some (.sh<|.int y),some (.sh<|.int<|tpM ps y i),some (.sh<|.int<|pcM ps x y i),none,none]) rfl ?_ ?_⟩
  ·rintro i hi γ' rfl;have hp:ps.getD i (0,0)=ps[i]:=by rw[Qb,WH hi];rfl
   have hw:=hF _ (Qf hi);have e1:tpM ps y (i+1)=tpM ps y i+(if ps[i].1=y then ps[i].2 else 0):=by simp only[tpM];rw[hp]
   have e2:pcM ps x y (i+1)=pcM ps x y i+(if x≠y/\ps[i].1=x then tpM ps y i*ps[i].2 else 0):=by simp only[pcM];rw[hp]
   rw[e1,e2];generalize ps[i]=p at hw;refine⟨rfl,Xm (λg=>?_) (λg=>Xm (λg2=>?_) (λg2=>?_))⟩
   ·have e:p.1=y:=WK g;rw[WO e,WN (by rintro⟨z1,z2⟩;exact z1 (z2.symm.trans e)),Jj];rfl
   ·have e:¬p.1=y:=λz=>g (WI z);have e':p.1=x:=WK g2;rw[WN e,WO ⟨λz=>e (e'.trans z),e'⟩,Jj];exact⟨.inr ⟨by show -(2 ^ 64)<p.2;omega,by show p.2<2 ^ 64;omega⟩,rfl⟩
   ·have e:¬p.1=y:=λz=>g (WI z);have e':¬p.1=x:=λz=>g2 (WI z);rw[WN e,WN (by rintro⟨z1,z2⟩;exact e' z2),Jj,Jj];rfl
  ·rintro γ' rfl;exact hR
def Zeq(DD:Def K mg "check_neighbours" Ei ["strips","place"])
  : Mf ζ:=by
 refine DD.fy Zn0 (λhr n=>(b1<|sI (tp<|wo (tc KS KN (xv 1) xi)<|wO<|tc NU NS (xv 1)<|xl G.len<|xv 0) (b1<|sQ G.Zh G.Zo ExcR.KW<|a1 xs) b0)) (.a ?_)
 ·rintro ds R X ⟨ps,p,rfl,hR⟩;refine⟨rfl,?_⟩;have hl:(ps.map prD).length=ps.length:=WG ..;refine Xm (λg=>Kg ?_) (λg=>?_)
  ·rw[WO (.inl<|WK g)]at hR;exact⟨by simp,hR⟩
  ·have g':¬p<1:=λz=>g (WI z);refine Xm (λg2=>?_) (λg2=>?_)
   ·have g2':((ps.map prD).length:Int)<=p:=WK g2;rw[WO (.inr<|by omega)]at hR;exact⟨by simp,hR⟩
   ·have g2':¬((ps.map prD).length:Int)<=p:=λz=>g2 (WI z);rw[WN (by omega)]at hR;exact hR
def Zbg(DD:Def K mg "longer_paths" Cz ["paths","left","wishes"])
  : Ie ζ:=by
 refine DD.fz IK (λhr n=>(bc (sS 3 n<|xL a0)<|bc (se (Pu.pz 4 IK.nd Zim)<|Tr Zfm<|Kt 4)<|bc (sF 1<|sF 0<|sO [5,6] Qd (iL<|xv 0) (gN 5)<|b1<|sF 1<|sO [6] Qd (iL<|xv 1) (gN 6)<|b1<|sI (tp<|wa (te (Zl3<|Zes (PV<|hr ()) (pv 6)<|pv 4)<|Zf9<|Zi1 (Xi 6)<|Xi 4)<|wA<|ti hr (xt<|a2 (xx (xv 5)<|xe (KP KU Xt)<|KR Xq)<|xv 6)<|xv 2) (bc (se (Af (PV<|hr ()) (pv 4) (pv 6) Py rfl)<|DF 4 (Xi 6) Pz)<|b1<|sF 6<|sA 3<|xo Kx Ky (xv 5)<|xL<|a1<|xv 6) b0)<|b1<|sV 3)) (.a ?_)
 ·rintro ds R X ⟨l,ps,ls,ws,rfl,hs,hl,hpl,hll,hR⟩;refine⟨rfl,?_⟩
  refine⟨by simp,rfl,K7 (xs:=ps) (emb:=em l) (λi γ'=>∃lg kvs,γ'=[some (.bor<|.lst<|ps.map<|em l),some (.bor<|.lst<|ls.map D.int),some (.bor<|.lst<|ws.map prD),some (.own<|lg.map<|em l),some (.own<|.dK kvs),none,none]/\LGs ws l (Pd ps ls i 0) ls lg kvs)
   ⟨[],[],rfl,LGs.start⟩ ?_ ?_⟩
  ·rintro i hi γ' ⟨lg,kvs,rfl,Y9⟩;have hp:ps[i]?=some ps[i]:=WH hi;have hpi:=hpl ps[i] (Qf hi);generalize ps[i]=p at hp hpi ⊢;refine⟨rfl,K7 (xs:=ls) (emb:=D.int) (λj γ'=>∃lg kvs,γ'=[some (.bor<|.lst<|ps.map<|em l),some (.bor<|.lst<|ls.map D.int),some (.bor<|.lst<|ws.map prD),some (.own<|lg.map<|em l),some (.own<|.dK kvs),some (.bor<|em l p),none]/\LGs ws l (Pd ps ls i j) ls lg kvs) ⟨lg,kvs,rfl,Y9⟩ ?_ ?_⟩
   ·rintro j hj γ' ⟨lg,kvs,rfl,Y9⟩;have hh:ls[j]?=some ls[j]:=WH hj;generalize ls[j]=h at hh ⊢;have hlen:=Y9.len_le;have hkl:=Y9.len;refine⟨.inl h,rfl,Xm (λg=>?_) (λg=>?_)⟩
    ·have g':(X0 kvs<|.inl h).isSome=false:=by
      cases e:(X0 kvs<|.inl h).isSome with
      |false=>rfl
      |true=>rw[e]at g;cases g
     refine⟨_,Fs l p,by simp,_,.lp (Xu l p,h) ws,Xm (λg2=>?_) (λg2=>?_)⟩
     ·refine⟨.inl h,.bl true,rfl,rfl,by omega,by simp,FS _,rfl,by simp;omega,by rw[WG];omega,lg++[p++[h]],_,?_,Y9.put hp hh hs hl g' (WK g2)⟩;rw[Qc]
      have e:em l (p++[h])=.lst ((l::p).map D.int++[.int h]):=by
       unfold em;rw[←Vn,Qc];rfl
      rw[VE,e];rfl
     ·exact⟨lg,kvs,rfl,Y9.skip hp hh hs (.inr λz=>g2 (WI z))⟩
    ·have g':(X0 kvs<|.inl h).isSome=true:=by
      cases e:(X0 kvs<|.inl h).isSome with
      |true=>rfl
      |false=>rw[e]at g;exact absurd rfl g
     exact X1 ⟨lg,kvs,rfl,Y9.skip hp hh hs (.inl g')⟩
   ·rintro γ' ⟨lg,kvs,rfl,Y9⟩;refine⟨lg,kvs,rfl,Y9.congr λp' x=>?_⟩;unfold Pd;rw[Qy,QS];obtain⟨hi',ei⟩:=WZ.mp hp;rw[WY hi,WV,WJ,hp,ei];constructor
    ·rintro(⟨a,b⟩|⟨a,b⟩)
     ·exact .inl ⟨.inl a,b⟩
     ·exact .inl ⟨.inr (WW a).symm,b⟩
    ·rintro(⟨a|a,b⟩|⟨_,a⟩)
     ·exact .inl ⟨a,b⟩
     ·exact .inr ⟨Q2 some a.symm,b⟩
     ·cases a
  ·rintro γ' ⟨lg,kvs,rfl,Y9⟩;refine hR lg (Y9.g.congr λp' x=>?_) Y9.len_le;unfold Pd;rw[Qy,QS];exact⟨(λz=>z.elim id λw=>by cases w.2),.inl⟩
def Za9(DD:Def K mg "check_place" D4 ["strips","place"])
  : Mx ζ:=by
 refine DD.fy Zev (λhr n=>(b1<|sI (tp<|wo (tc KS KN (xv 1) xi)<|wO<|tc KF KA (xv 1)<|xl G.len<|xv 0) (b1<|sQ G.Zh G.Zo ExcR.KW<|a1 xs) b0)) (.a ?_)
 ·rintro ds R X ⟨ps,p,rfl,hR⟩;refine⟨rfl,?_⟩;have hl:(ps.map prD).length=ps.length:=WG ..;unfold BB at hR;refine Xm (λg=>Kg ?_) (λg=>?_)
  ·rw[WO (.inl<|WK g)]at hR;exact⟨by simp,hR⟩
  ·have g':¬p<1:=λz=>g (WI z);refine Xm (λg2=>?_) (λg2=>?_)
   ·have g2':((ps.map prD).length:Int)<p:=WK g2;rw[WO (.inr<|by omega)]at hR;exact⟨by simp,hR⟩
   ·have g2':¬((ps.map prD).length:Int)<p:=λz=>g2 (WI z);rw[WN (by omega)]at hR;exact hR
def Znn(DD:Def K mg "without_wish" AC ["wishes","ahead","behind"])
  : Ii ζ:=by
 refine DD.fy Zj1 (λhr n=>(bc (sI (tI hr (xt<|a2 (xv 1)<|xv 2)<|xv 0) (b1<|sQ G.Ya G.ZZ ExcR.KW<|a1 xs) b0)<|b1<|sF 2<|sF 1<|sR<|xC ["wish","ahead","behind"] [none,some 1,some 2] (jL<|xv 0) (gN 0) (f1<|te (Pb (Ls (K:=K)<|show _<cLine from(hr ()).units0) (pv 0) (P4<|bz (pv 1)<|pv 2)<|KB _)<|KH<|IG (Xi 0)<|P0<|tz (Xi 1)<|Xi 2)<|xv 0)) (.a ?_)
 ·rintro ds R X ⟨ws,a,b,rfl,hz,hR⟩;refine⟨rfl,?_⟩;unfold Kr at hR;refine⟨by simp,_,.lp (a,b) ws,Xm (λg=>?_) (λg=>?_)⟩
  ·have g':¬(a,b)∈ws:=λz=>by rw[WO rfl,WI z]at g;cases g
   rw[WN g']at hR;exact⟨by simp,hR⟩
  ·have g':(a,b)∈ws:=Qj λz=>g (by rw[WO rfl,Qv z];rfl);rw[WO g']at hR;refine KM (xs:=ws) (emb:=prD) (λq=>if (!decide (q=(a,b)))=true then some (prD q)else none) (by omega) (λq hq=>?_) ?_
   ·refine⟨by simp,?_⟩;show D5 (.sh<|prD q) (.sh<|prD (a,b)) _;refine Zkn ?_;exact Xm (λh=>⟨_,rfl,WO h⟩) (λh=>WN h)
   ·rw[Tg (λq:Int×Int=>!decide (q=(a,b)))];exact hR
def Zjw(DD:Def K mg "sets_of" AK ["holders"])
  : Gg ζ:=by
 refine DD.fz Zkp (λhr n=>(bc (sS 1 n<|xL<|a1<|xt a0)<|bc (sF 0<|sO [2] Qd (iL<|xv 0) (gN 2)<|b1<|sF 2<|sS 1 n<|xo Kx Ky (xv 1)<|xC ["members","holder"] [none,some 2] (jL<|xv 1) (gN 0) f0<|xe (PQ (RG (K:=K)) (pv 0)<|P4<|az<|pv 1)<|Zdt (Xi 0)<|P0<|sz<|Xi 1)<|b1<|sV 1)) (.a ?_)
 ·rintro ds R X ⟨hs,rfl,hz,hR⟩;refine⟨rfl,by simp,by simp,rfl,K7 (xs:=hs) (emb:=D.int) (λi γ'=>γ'=[some (.bor<|.lst<|hs.map D.int),some (.own ((XG<|hs.take i).map tD)),none]) rfl ?_ ?_⟩
  ·rintro i hi γ' rfl
   have hlen:(XG<|hs.take i).length<=1024:=by
    rw[HN,Qm];exact Nat.pow_le_pow_right (j:=10) (by decide) (by omega)
   have hel:∀ms∈XG (hs.take i),ms.length<=10:=λms hm=>by
    have:=(Fh _ ms hm).length_le
    rw[Qm]at this;omega
   rw[WY hi,Ny];generalize XG (hs.take i)=S at hlen hel ⊢;generalize hs[i]=h;refine KM (xs:=S) (emb:=tD) (λms=>some (tD (ms++[h]))) (by omega) (λms hm=>?_) ?_
   ·refine⟨by simp,_,_,Zm4 ms,rfl,?_,_,rfl,?_⟩
    ·have:=hel ms hm
     rw[WG];show ms.length+1<=100000;omega
    ·unfold tD;rw[Qc];rfl
   ·rw[Nw];refine⟨rfl,rfl,?_,?_⟩
    ·rw[WG,WG];omega
    ·show[_,_,_]=[_,_,_];rw[Qc,QA];rfl
  ·rintro γ' rfl;rw[Qy];exact hR
def Zbd(DD:Def K mg "without" A0 ["members","holder"])
  : MW ζ:=by
 refine DD.fz Zb2 (λhr n=>(b1<|sR<|xe (P5 (Zmi (K:=K)) (by rfl) G.ZA boot_tuple<|az<|cz ["member","holder"] [none,some 1] (AI (K:=K)<|pv 0) ⟨(gk 0),(FA<|cn K (hr ()) (pv 0)<|pv 1),(pv 0)⟩)<|Ze5<|sz<|To (SndI.c<|En<|Xi 0) (Kt 0) (KH<|HF (Xi 0)<|Xi 1)<|Xi 0)) (.a ?_)
 ·rintro ds R X ⟨ms,h,rfl,hz,hR⟩;refine⟨rfl,?_⟩;rw[DL];refine⟨_,rfl,KM (s:=.sh .non) (xs:=ms) (emb:=D.int) (λm=>if decide (m≠h)=true then some (.int m)else none) (by omega) (λm hm=>?_) ?_⟩
  ·show if (!decide (m=h))=true then _ else _;by_cases e:m=h
   ·rw[WI e];exact X1 (by simp[e])
   ·rw[Qv e];exact Kg ⟨_,rfl,WO (WI e)⟩
  ·rw[Tg (λm=>decide (m≠h))];exact⟨rfl,hR⟩
def Zpf(DD:Def K mg "may_lie_last" Ca ["members","holder","wishes"])
  : OM ζ:=by
 refine DD.fz Zmz (λhr n=>(b1<|sR<|xn<|xe (Ka (Zpq (K:=K) rfl) (by rfl) G.Yd boot_any<|az<|cz ["ahead","behind","holder","members"] [none,none,some 1,some 0] (TB (K:=K)<|pv 2) ⟨(E3 (K:=K) (n:=2) rfl<|SZ (gk 0)<|SZ (gk 1) AO),Nm,(AS (N1 (NA (K:=K)<|show _<cLine from(hr ()).units0) (pv 0) (pv 2)<|KB _)<|AY<|N1 (Mh (K:=K)<|show _<cLine from PV (hr ())) (pv 1) (pv 3)<|by with_unfolding_all rfl)⟩)<|Zn1<|sz<|To (Sa<|Xi 2) (EM<|CH (Kt 0)<|CH (Kt 1) Ir) NV<|Et (Nu (Xi 0)<|Xi 2)<|FM (Xi 1)<|Xi 3)) (.a ?_)
 ·rintro ds R X ⟨ms,h,ws,rfl,hz,hR⟩;refine⟨rfl,?_⟩;rw[DL];refine KM (xs:=ws) (emb:=prD) (λq=>some (.bl (decide (q.1=h)&&decide (q.2∈ms)))) (by omega) (λq hq=>?_) ?_
  ·refine⟨rfl,?_⟩;show if true=true then(if decide (q.1=h)=true then _ else _)else(some (D.bl (decide (q.1=h)&&decide (q.2∈ms)))=none);refine Kg (Xm (λg=>⟨_,.ti _ _,?_⟩) (λg=>?_))
   ·refine⟨_,rfl,?_⟩;rw[g,Bool.true_and];rfl
   ·refine⟨_,rfl,?_⟩;rw[VH.mpr g,Bool.false_and]
  ·rw[Nw];refine⟨ws.map λq=>decide (q.1=h)&&decide (q.2∈ms),by rw[QA];rfl,?_⟩;rw[List.any_map];exact hR
def Zir(DD:XA K (XF K (X5 ζ) "strips") "strips" "Village.strips" Ef ["self"])
  : O4 ζ:=by
 refine DD.fz Zkk (λhr n=>(b1<|sR<|xe (P5 (B6 (K:=K)) (by rfl) G.Zj boot_list<|az<|jx K (P8 (pv 0) rfl)<|KP KU Xt)<|Sr<|sz<|XM (NJ 1 G.Za G.Ze CK<|Xi 0)<|KR Xq)) (.a ?_)
 ·rintro ds R X ⟨bk,fs,ws,f,rfl,hR⟩;refine⟨rfl,?_⟩;exact⟨rfl,rfl,_,rfl,_,BM plD fs f,Ti _,hR⟩
def Zmu(DD:XA K (XF K (X5 ζ) "wishes") "wishes" "Village.wishes" Ae ["self"])
  : Mr ζ:=by
 refine DD.fz Zll (λhr n=>(b1<|sR<|xe (P5 (B6 (K:=K)) (by rfl) G.Zj boot_list<|az<|jx K (P8 (pv 0) rfl)<|KP KU Xt)<|Sr<|sz<|XM (NJ 2 G.Za G.Zf Ed<|Xi 0)<|KR Xq)) (.a ?_)
 ·rintro ds R X ⟨bk,fs,ws,f,rfl,hR⟩;refine⟨rfl,?_⟩;exact⟨rfl,rfl,_,rfl,_,BM plD ws f,Ti _,hR⟩
def Zcm(DD:XA K (XF K (X5 ζ) "deeds") "deeds" "Village.deeds" DE ["self"])
  : GF ζ:=by
 refine DD.fz Zfq (λhr n=>(b1<|sR<|xe (P5 (B6 (K:=K)) (by rfl) G.Zj boot_list<|az<|P8 (pv 0) rfl)<|Sr<|sz<|NJ 0 G.Za G.Zc Sb<|Xi 0)) (.a ?_)
 ·rintro ds R X ⟨bk,fs,ws,rfl,hR⟩;refine⟨rfl,?_⟩;exact⟨rfl,rfl,_,rfl,EK _,hR⟩
def Zpr(DD:XA K (XF K (X5 ζ) "check_room") "check_room" "Village.check_room" Cg ["self"])
  : Hm ζ:=by
 refine DD.fy Zm6 (λhr n=>(b1<|sI (tc NU NS (xl G.len<|xe (P8 (pv 0) rfl)<|NJ 0 G.Za G.Zc Sb<|Xi 0)<|xe (ExcR.Pn G.Zy) Xq) (b1<|sQ G.ZT G.ZS ExcR.KW<|a1<|xe (ExcR.Np<|ExcR.PB<|ExcR.NF (ExcR.Pn G.Zy)<|ExcR.PB ExcR.Nv)<|N9<|P6<|N6 Xq<|P6 NH) b0)) (.a ?_)
 ·rintro ds R X ⟨bk,fs,ws,rfl,hR⟩;refine⟨rfl,?_⟩;have hl:(bk.map dD).length=bk.length:=WG ..;unfold Nx at hR;refine⟨rfl,rfl,_,rfl,Xm (λg=>?_) (λg=>?_)⟩
  ·have g':(100:Int)<=((bk.map dD).length:Int):=WK g;rw[WO (by omega)]at hR;exact⟨by decide,by decide,by decide,by decide,by decide,by simp,hR⟩
  ·have g':¬(100:Int)<=((bk.map dD).length:Int):=λz=>g (WI z);rw[WN (by omega)]at hR;exact hR
def Zkx(DD:XA K (XF K (X5 ζ) "enter") "enter" "Village.enter" Dc ["self","deed","field","wishes"])
  : GX ζ:=by
 refine DD.fz Zht (λhr n=>(bc (sF 1<|se (Pe<|Bv Qx V6 V7 Sz (P8 (pv 0) rfl)<|az<|pv 1)<|N8<|Cr 0 0 G.Za G.Zc Sb<|Xi 1)<|bc (sF 2<|se (Pe<|Bv Qx V6 V7 Sz (P8 (pv 0) rfl)<|az<|pv 2)<|N8<|Cr 0 1 G.Za G.Ze CK<|Xi 2)<|bc (sF 3<|se (Pe<|Bv Qx V6 V7 Sz (P8 (pv 0) rfl)<|az<|pv 3)<|N8<|Cr 0 2 G.Za G.Zf Ed<|Xi 3)<|b1<|se (Ks<|ln K G.len<|P8 (pv 0) rfl)<|BR<|B3<|sz<|NJ 0 G.Za G.Zc Sb<|Xi 0)) (.c ?_)
 ·rintro o ss R X ⟨x,b1,b2,b3,bk,fs,ws,q,f,w,rfl,rfl,h1,h2,h3,hR⟩;refine⟨rfl,?_⟩;have k1:(bk.map dD).length<10000000:=by rw[WG];omega
  have k2:(fs.map plD).length<10000000:=by rw[WG];omega
  have k3:(ws.map plD).length<10000000:=by rw[WG];omega
  refine⟨rfl,rfl,_,rfl,k1,rfl,rfl,_,rfl,k2,rfl,rfl,_,rfl,k3,rfl,rfl,_,rfl,_,rfl,⟨rfl,by simp⟩,?_⟩;have e:(((bk.map dD++[dD q]).length:Nat):Int)=(bk.length:Int)+1:=by rw[WR,WG];simp
  show R (.ins x _ vF [(b1,bk.map dD++[dD q]),(b2,fs.map plD++[plD f]),(b3,ws.map plD++[plD w])]) (.int (((bk.map dD++[dD q]).length:Nat):Int));rw[e];have e1:bk.map dD++[dD q]=(bk++[q]).map dD:=by rw[Qc];rfl
  have e2:fs.map plD++[plD f]=(fs++[f]).map plD:=by rw[Qc];rfl
  have e3:ws.map plD++[plD w]=(ws++[w]).map plD:=by rw[Qc];rfl
  rw[e1,e2,e3];exact hR
def Zb9(DD:XA K (XF K (X5 ζ) "take_back") "take_back" "Village.take_back" Ea ["self"])
  : Od ζ:=by
 refine DD.fy Zie (λhr n=>(bc (sI (tN<|tt<|xe (P8 (pv 0) rfl)<|NJ 0 G.Za G.Zc Sb<|Xi 0) (b1<|sQ G.ZK G.ZJ ExcR.KW<|a1 xs) b0)<|bc (se (Pe<|SD Qx VN VO Fc<|P8 (pv 0) rfl)<|N8<|Ak 0 1 G.Za G.Ze CK)<|bc (se (Pe<|SD Qx VN VO Fc<|P8 (pv 0) rfl)<|N8<|Ak 0 2 G.Za G.Zf Ed)<|b1<|se (Ks<|SD Qx VN VO Fc<|P8 (pv 0) rfl)<|PR<|Ak 0 0 G.Za G.Zc Sb)) (.c ?_)
 ·rintro o ss R X ⟨x,b1,b2,b3,bk,fs,ws,rfl,rfl,h1,h2,hX,hR⟩;refine⟨rfl,?_⟩;have emp:(bk.map dD).isEmpty=decide (bk=[]):=by cases bk<;>simp
  refine⟨rfl,rfl,_,rfl,?_⟩;show if (!(!(bk.map dD).isEmpty))=true then _ else _;rw[Bool.not_not,emp];refine Xm (λg=>⟨by simp,_,rfl,⟨rfl,by simp⟩,hX (WK g)⟩) (λg=>?_);have hne:bk≠[]:=λz=>g (WI z);obtain⟨b0,q,rfl⟩:∃b0 q,bk=b0++[q]:=⟨_,_,(QZ hne).symm⟩;have hl:(b0++[q]).length=b0.length+1:=by simp
  have f1:(fs.map plD)[(fs.map plD).length-1]?=some (plD (fs[fs.length-1]'(by omega))):=by
   rw[WG,WS,WH (by omega)];rfl
  have w1:(ws.map plD)[(ws.map plD).length-1]?=some (plD (ws[ws.length-1]'(by omega))):=by
   rw[WG,WS,WH (by omega)];rfl
  have q1:((b0++[q]).map dD)[((b0++[q]).map dD).length-1]?=some (dD q):=by
   rw[WG,WS,hl,Ji,Q1 (WQ _),Nat.sub_self];rfl
  refine⟨rfl,rfl,_,_,rfl,f1,rfl,rfl,_,_,rfl,w1,rfl,rfl,_,_,rfl,q1,_,rfl,⟨rfl,by simp⟩,?_⟩;have e1:((b0++[q]).map dD).dropLast=b0.map dD:=by rw[Qc];exact Vi
  have e2:(fs.map plD).dropLast=fs.dropLast.map plD:=List.map_dropLast.symm;have e3:(ws.map plD).dropLast=ws.dropLast.map plD:=List.map_dropLast.symm
  have:=hR b0 q rfl
  rw[show vO (ExcR.Xl mg "Village") x b1 b2 b3 b0 fs.dropLast ws.dropLast=.ins x (ExcR.Xl mg "Village") vF [(b1,((b0++[q]).map dD).dropLast),(b2,(fs.map plD).dropLast),(b3,(ws.map plD).dropLast)] by rw[e1,e2,e3]]at this;exact this
def Znj(DD:Def K mg "_law_at" Cp ["_law_script","_law_k"])
  : GK ζ:=by
 refine DD.fz Zhi (λhr n=>(bc (sI (tc KS KN (xv 1)<|xl G.len<|xv 0) (b1<|sR<|xx (xv 0)<|xv 1) b0)<|b1<|sR xi)) (.a ?_)
 ·rintro ds R X ⟨ns,k,rfl,hk,hR⟩;refine⟨rfl,?_⟩;refine Xm (λg=>?_) (λg=>?_)
  ·have g':k<(ns.length:Int):=WK g;have e:=WH (show k.toNat<ns.length by omega);rw[Qb,e]at hR;exact⟨_,Sg hk e,hR⟩
  ·have g':¬k<(ns.length:Int):=λz=>g (WI z);rw[Qb,Vs (by omega)]at hR;exact hR
def Zif(DD:Def K mg "_law_whole" DA ["_law_found"])
  : Lj ζ:=by
 refine DD.fz Zdy (λhr n=>(b1<|sR<|xe (AS (Ka (TY (K:=K)) (by rfl) G.Zb QG<|bz (pv 0)<|T1 (v:=.ty "int") rfl G.ZL boot_int rfl)<|AY<|M5<|Ka (TY (K:=K)) (by rfl) G.Zb QG<|bz (pv 0)<|T1 (v:=.ty "bool") rfl G.Yc boot_bool rfl)<|Et (Nb<|tz (Xi 0) T4)<|EW<|Nb<|tz (Xi 0) T4)) (.a ?_)
 ·rintro ds R X ⟨i,rfl,hR⟩;refine⟨rfl,?_⟩;exact⟨_,.same _,_,.ib,hR⟩
def Znt(DD:Def K mg "_law_mix" AH ["_law_cell","_law_place_here"])
  : Mz ζ:=by
 refine DD.fz Zmt (λhr n=>(bc (sS 2 n<|xo X2 X3 (xo T7 T9 (xo XB XC (xo XB XC (xo X2 X3 (xv 0) xi)<|xo T7 T9 xi<|xv 1) xi) xi) xi)<|b1<|sR<|xo X2 X3 (xo T7 T9 (xo XB XC (xo XB XC (xv 2)<|xo T7 T9 xi<|xv 1) xi) xi) xi)) (.a ?_)
 ·rintro ds R X ⟨c,p,rfl,hR⟩;refine⟨rfl,?_⟩;unfold mixP at hR;exact⟨(by show(0:Int)<2147483647;decide),.inl ⟨by decide,by decide⟩,.inr ⟨by decide,by decide⟩,(by show(0:Int)<2147483647;decide),.inl ⟨by decide,by decide⟩,.inr ⟨by decide,by decide⟩,(by show(0:Int)<2147483647;decide),hR⟩
def Zae(DD:Def K mg "_law_menu" Ah ["_law_cell"])
  : Hu ζ:=by
 refine DD.fz Zaq (λhr n=>(bc (sS 1 n<|xx (xL<|ac xi<|ac xi<|ac xi<|ac xi<|ac xi a0)<|xo X2 X3 (xo XI XH (xv 0) xi) xi)<|bc (sS 2 n<|xx (xL<|ac xi<|ac xi<|ac xi<|ac xi<|ac xi a0)<|xo X2 X3 (xo XI XH (xv 0) xi) xi)<|b1<|sF 2<|sF 1<|sR<|xL<|ac (xo XB XC xi<|xo X2 X3 (xv 0) xi)<|ac (xx (xL<|ac xi<|ac xi<|ac xi<|ac xi a0)<|xo X2 X3 (xo XI XH (xv 0) xi) xi)<|ac (xo X2 X3 (xo XI XH (xv 0) xi) xi)<|ac (xv 1)<|ac (xv 2) a0)) (.a ?_)
 ·rintro ds R X ⟨c,rfl,hR⟩;refine⟨rfl,?_⟩;have h1:0<=c / 10 % 4/\c / 10 % 4<4:=by omega
  have h2:0<=c / 400 % 5/\c / 400 % 5<5:=by omega
  have hb:∀v∈([1,3,7,9]:Yl),1<=v/\v<=9/\(v=1\/v=3\/v=7\/v=9):=by decide
  have hde:∀i:Int,0<=i->i<5->∃d e:Int,atI [D.int 1000,.int 3,.int 1,.int 2,.int 3] i=some (.int d)/\atI [D.int 1,.int 1,.int 1,.int 1,.int 998] i=some (.int e)/\(1<=d/\d<=1000)/\1<=e/\e+d<=1001:=λi a b=>by
   have:i=0\/i=1\/i=2\/i=3\/i=4:=by omega
   rcases this with rfl|rfl|rfl|rfl|rfl
   ·exact⟨1000,1,rfl,rfl,by decide,by decide,by decide⟩
   ·exact⟨3,1,rfl,rfl,by decide,by decide,by decide⟩
   ·exact⟨1,1,rfl,rfl,by decide,by decide,by decide⟩
   ·exact⟨2,1,rfl,rfl,by decide,by decide,by decide⟩
   ·exact⟨3,998,rfl,rfl,by decide,by decide,by decide⟩
  obtain⟨d,e,e1,e2,hd,he⟩:=hde _ h2.1 h2.2;have hbb:=hb _ (Qf (l:=([1,3,7,9]:Yl)) (n:=(c / 10 % 4).toNat)<|by show(c / 10 % 4).toNat<4;omega);refine⟨by simp,⟨by decide,by decide⟩,(by show(0:Int)<5;decide),_,e1,by simp,⟨by decide,by decide⟩,(by show(0:Int)<5;decide),_,e2,(by show(0:Int)<10;decide),by simp,⟨by decide,by decide⟩,(by show(0:Int)<4;decide),_,N7 (f:=D.int) (xs:=[1,3,7,9]) h1.1 h1.2,⟨by decide,by decide⟩,(by show(0:Int)<10;decide),by simp,?_⟩;exact hR [_,_,_,_,_] ⟨_,_,_,_,_,rfl,by omega,hbb,by omega,hd,he⟩
def R4(DD:Def K mg "_law_holder" AG ["_law_menu_here","_law_k"])
  : Ov ζ:=by
 refine DD.fz Zks (λhr n=>(b1<|sR<|xo XB XC xi<|xo X2 X3 (xo XB XC (xo T7 T9 (xv 1)<|xx (xv 0) xi)<|xx (xv 0) xi) xi)) (.a ?_)
 ·rintro ds R X ⟨m,k,rfl,hM,hR⟩;refine⟨rfl,?_⟩;obtain⟨a,b,c,d,e,rfl,ha,hb,hc,hd,he⟩:=hM;exact⟨_,rfl,.inr ⟨by omega,by omega⟩,_,rfl,(by show(0:Int)<10;decide),hR _ (by omega) (by omega) rfl⟩
def Zl8(DD:Def K mg "_law_present" Ey ["_law_strips"])
  : Ia ζ:=by
 refine DD.fz Zg7 (λhr n=>(bc (sS 1 n<|xC ["_law_strip"] [none] (jL<|xv 0) (gN 0) f0<|xx (xv 0) xi)<|b1<|sR<|xC ["_law_holder_here","_law_owners"] [none,some 1] (jI<|iR G.Zd<|a2 xi xi) (gN 0) (f1<|ti hr (xv 0)<|xv 1)<|xv 0)) (.a ?_)
 ·rintro ds R X ⟨ps,rfl,hz,hR⟩;refine⟨rfl,?_⟩;refine KM (xs:=ps) (emb:=prD) (λq=>some (.int q.1)) (by omega) (λq hq=>⟨_,rfl,_,rfl,rfl⟩) ?_;rw[Nw (λq:Int×Int=>D.int q.1),show ps.map (λq:Int×Int=>D.int q.1)=(ps.map (·.1)).map D.int by rw[QA];rfl];refine⟨⟨by decide,by decide,by decide,by decide⟩,Hh (n:=10) (λi=>if decide ((1:Int)+(i:Int)∈ps.map (·.1))=true then some (.int (1+(i:Int)))else none) (by decide) (λi hi=>?_) ?_⟩
  ·exact⟨_,.li _ _,Xm (λg=>⟨_,rfl,WO g⟩) (λg=>WN g)⟩
  rw[Tg (λi:Nat=>decide ((1:Int)+(i:Int)∈ps.map (·.1)))]
  have e:((List.range 10).filter λi:Nat=>decide ((1:Int)+(i:Int)∈ps.map (·.1))).map (λi:Nat=>D.int (1+(i:Int)))=(Xp ps).map D.int:=by
   unfold Xp;rw[Zjj,List.filter_map,QA];rfl
  rw[e];exact hR
def Zbp(DD:Def K mg "_law_price" DV ["_law_strips","_law_order"])
  : Gh ζ:=by
 refine DD.fz Zot (λhr n=>(bc (sC 2 ["_law_strip","_law_order"] [none,some 1] n (jL<|xv 0) (gN 0) f0<|xe (FH (K:=K) Qx VB Jn (AR (K:=K)) (pv 1)<|az<|jx K (pv 0) Xt)<|As (Xi 1)<|sz<|XM (Xi 0) Xq)<|bc (sS 3 n xi)<|bc (sO [4,5] Qd (ir G.Zd<|a1<|xl G.len<|xv 0) (gN 4)<|b1<|sO [5] Qd (ir G.Zd<|a1<|xv 4) (gN 5)<|b1<|sI (tc KF KA (xx (xv 2)<|xv 5)<|xx (xv 2)<|xv 4) (b1<|sS 3 n<|xo XB XC (xv 3)<|xo T7 T9 (xx (xx (xv 0)<|xv 5) xi)<|xx (xx (xv 0)<|xv 4) xi) b0)<|b1<|sV 3)) (.a ?_)
 ·rintro ds R X ⟨ps,os,rfl,hF,hz,hin,hR⟩;refine⟨rfl,?_⟩;have hlm:(ps.map prD).length=ps.length:=WG ..;refine KM (xs:=ps) (emb:=prD) (λq=>some (.int (os.idxOf q.1:Nat))) (by omega) (λq hq=>⟨⟨_,rfl⟩,_,rfl,os,rfl,hin q hq,_,rfl,rfl⟩) ?_;rw[Nw (λq:Int×Int=>D.int (os.idxOf q.1:Nat)),show ps.map (λq:Int×Int=>D.int (os.idxOf q.1:Nat))=(ps.map λq:Int×Int=>((os.idxOf q.1:Nat):Int)).map D.int by rw[QA];rfl];generalize ers:(ps.map λq:Int×Int=>((os.idxOf q.1:Nat):Int))=rs
  have rx:∀(j:Nat) (hj:j<ps.length),atI (rs.map D.int) (0+(j:Int))=some (.int (os.idxOf ps[j].1:Nat)):=λj hj=>by
   rw[show(0:Int)+(j:Int)=(j:Int) by omega,←ers];exact T5 (f:=D.int) (NM<|by rw[WS,WH hj];rfl)
  have px:∀(j:Nat) (hj:j<ps.length),atI (ps.map prD) (0+(j:Int))=some (prD ps[j]):=λj hj=>by
   rw[show(0:Int)+(j:Int)=(j:Int) by omega];exact T5 (f:=prD) (NM<|WH hj)
  refine⟨⟨by omega,by omega⟩,P1 (λk γ'=>γ'=[some (.bor<|.lst<|ps.map prD),some (.bor<|.lst<|os.map D.int),some (.own<|rs.map D.int),some (.sh<|.int<|Tc ps os k),none,none]) rfl ?_ ?_⟩
  ·rintro k γ' hk rfl
   have hk':k<ps.length:=by
    have:k<(((ps.map prD).length:Nat):Int).toNat:=hk
    omega
   have hgk:ps.getD k (0,0)=ps[k]:=by rw[Qb,WH hk'];rfl
   have ep:Tc ps os (k+1)=Tc ps os k+rsM ps os ps[k].1 k*ps[k].2:=by simp only[Tc];rw[hgk]
   have hwk:=hF ps[k] (Qf hk');refine⟨⟨by omega,by omega⟩,P1 (λj γ'=>γ'=[some (.bor<|.lst<|ps.map prD),some (.bor<|.lst<|os.map D.int),some (.own<|rs.map D.int),some (.sh<|.int (Tc ps os k+rsM ps os ps[k].1 j*ps[k].2)),some (.sh<|.int (0+(k:Int))),none]) ?_ ?_ ?_⟩
   ·rw[show rsM ps os ps[k].1 0=0 from rfl,Int.zero_mul,Jj]
    rfl
   ·rintro j γ' hj rfl
    have hj':j<ps.length:=by
     have:j<((0:Int)+(k:Int)).toNat:=hj
     omega
    have hgj:ps.getD j (0,0)=ps[j]:=by rw[Qb,WH hj'];rfl
    have hwj:=hF ps[j] (Qf hj');have step:rsM ps os ps[k].1 (j+1)=rsM ps os ps[k].1 j+(if os.idxOf ps[k].1<os.idxOf ps[j].1 then ps[j].2 else 0):=by simp only[rsM];rw[hgj]
    refine⟨_,rx j hj',_,rx k hk',Xm (λg=>?_) (λg=>?_)⟩
    ·have g':((os.idxOf ps[k].1:Nat):Int)<((os.idxOf ps[j].1:Nat):Int):=WK g;refine⟨_,px j hj',_,rfl,_,px k hk',_,rfl,.inl ⟨by show -(2 ^ 64)<ps[j].2;omega,by show ps[j].2<2 ^ 64;omega⟩,?_⟩;rw[step,WO (by omega),Int.add_mul,←Int.add_assoc];rfl
    ·have g':¬((os.idxOf ps[k].1:Nat):Int)<((os.idxOf ps[j].1:Nat):Int):=λz=>g (WI z);rw[step,WN (by omega),Jj];rfl
   ·rintro γ' rfl;rw[show((0:Int)+(k:Int)).toNat=k by omega,←ep];rfl
  ·rintro γ' rfl;rw[show(((ps.map prD).length:Nat):Int).toNat=ps.length by omega];exact hR
def Zjb(DD:Def K mg "_law_kept" DH ["_law_order","_law_wishes"])
  : M6 ζ:=by
 refine DD.fz Zkh (λhr n=>(bc (sF 1<|sO [2,3] Qd (iL<|xv 1) (gT 2<|gc (gN 2)<|gc (gN 3) g0)<|b1<|sI (tp<|wa (ti hr (xv 2)<|xv 0)<|wa (ti hr (xv 3)<|xv 0)<|wA<|tc KF KA (xe (FH (K:=K) Qx VB Jn (AR (K:=K)) (pv 0)<|az<|pv 2)<|As (Xi 0)<|sz<|Xi 2)<|xe (FH (K:=K) Qx VB Jn (AR (K:=K)) (pv 0)<|az<|pv 3)<|As (Xi 0)<|sz<|Xi 3) (b1<|sR xb) b0)<|b1<|sR xb)) (.a ?_)
 ·rintro ds R X ⟨os,ws,rfl,hR1,hR2⟩;refine⟨rfl,rfl,K7 (xs:=ws) (emb:=prD) (λi γ'=>γ'=[some (.bor<|.lst<|os.map D.int),some (.bor<|.lst<|ws.map prD),none,none]/\∀q∈ws.take i,Pg os q=false) ⟨rfl,by simp⟩ ?_ ?_⟩
  ·rintro i hi γ' ⟨rfl,hb⟩;have hq:=Qf hi
   have next:Pg os ws[i]=false->∀q∈ws.take (i+1),Pg os q=false:=λh q hq=>by
    rw[WY hi,WV,WJ]at hq;rcases hq with hq|hq
    ·exact hb q hq
    ·rw[hq];exact h
   generalize ws[i]=q at hq next ⊢;refine⟨rfl,_,.li _ _,Xm (λg1=>⟨_,.li _ _,Xm (λg2=>?_) (λg2=>?_)⟩) (λg1=>?_)⟩
   ·have g1':decide (q.1∈os)=true:=g1;have g2':decide (q.2∈os)=true:=g2;refine⟨⟨_,rfl⟩,os,rfl,WK g1',⟨_,rfl⟩,os,rfl,WK g2',?_⟩;refine Xm (λg3=>?_) (λg3=>?_)
    ·have g3':=WK g3;refine hR2 ⟨q,hq,?_⟩;unfold Pg;rw[g1',g2',WI (by omega)];rfl
    ·have g3':¬((os.idxOf q.2:Nat):Int)<((os.idxOf q.1:Nat):Int):=λz=>g3 (WI z);refine⟨rfl,next ?_⟩;unfold Pg;rw[g1',g2',Qv (by omega)];rfl
   ·refine X1 ⟨rfl,next ?_⟩;have g2':decide (q.2∈os)=false:=VH.mpr g2;unfold Pg;rw[g2',Bool.false_and,Bool.and_false]
   ·refine X1 ⟨rfl,next ?_⟩;have g1':decide (q.1∈os)=false:=VH.mpr g1;unfold Pg;rw[g1',Bool.false_and]
  ·rintro γ' ⟨rfl,hb⟩;rw[Qy]at hb;exact hR1 hb
def Zhb(DD:Def K mg "_law_orders" Dk ["_law_holders"])
  : EG ζ:=by
 refine DD.fz Ze1 (λhr n=>(bc (sS 1 n<|xL<|a1<|xL a0)<|bc (sF 1<|sF 0<|sO [2,3,4] Qd (iL<|xv 0) (gN 2)<|bc (sS 3 n<|xL a0)<|bc (sF 1<|sO [4] Qd (iL<|xv 1) (gN 4)<|b1<|se (Pe<|Bv Qx PySem.F.slot_list_extend PySem.F.type_list_extend Zcp (pv 3)<|az<|cz ["_law_holder_here","_law_row_here"] [none,some 4] (TB (K:=K)<|pv 0) ⟨(gk 0),(FA<|Pb (Ho (K:=K)<|show _<cLine from PV (hr ())) (pv 0) (pv 1)<|by with_unfolding_all rfl),(PQ Kx (pv 1)<|K9<|az<|pv 0)⟩)<|Zfr 3<|To (Sa<|Xi 0) (Kt 0) (KH<|FM (Xi 0)<|Xi 1)<|Ky (Xi 1)<|KC<|sz<|Xi 0)<|b1<|sF 3<|sS 1 n<|xv 3)<|b1<|sV 1)) (.a ?_)
 ·rintro ds R X ⟨hs,rfl,nd,hz,hR⟩;refine⟨rfl,?_⟩;have h5:∀k,(XJ hs k).length<=3628800:=λk=>WU (CM nd hz k) (GS k);refine⟨by simp,by simp,?_⟩;refine⟨rfl,K7 (xs:=hs) (emb:=D.int) (λi γ'=>γ'=[some (.bor<|.lst<|hs.map D.int),some (.sh<|.lst ((XJ hs i).map ilD)),none,none,none]) rfl ?_ ?_⟩
  ·rintro i hi γ' rfl;have hr:=h5 i;refine⟨by simp,?_⟩;refine⟨rfl,K7 (xs:=XJ hs i) (emb:=ilD) (λj γ'=>∃t,γ'=[some (.bor<|.lst<|hs.map D.int),some (.sh<|.lst ((XJ hs i).map ilD)),t,some (.own ((((XJ hs i).take j).flatMap (nextM hs)).map ilD)),none]) ⟨_,rfl⟩ ?_ ?_⟩
   ·rintro j hj γ' ⟨t,rfl⟩;have ef:=Zpa (hs:=hs) hj;have hfl:=Do nd hz ((XJ hs i).take j) λr hr=>rows_mem.mp (V2 hr)
    have htl:((XJ hs i).take (j+1)).length*(10-i)<=3628800:=by
     refine WU (JB _<|WU (by rw[Qm];omega)<|CM nd hz i) (GS (i+1))
    have hjl:((XJ hs i).take (j+1)).length=j+1:=by rw[Qm];omega
    have hjl':((XJ hs i).take j).length=j:=by rw[Qm];omega
    rw[hjl,Nat.add_mul]at htl;rw[hjl']at hfl;have hnl:=Zb4 hs (XJ hs i)[j]
    have hrl:(XJ hs i)[j].length<=10:=by
     have:=(rows_mem.mp<|Qf hj).1
     omega
    generalize (XJ hs i)[j]=r at ef hnl hrl ⊢;refine KM (xs:=hs) (emb:=D.int) (λh=>if (!decide (h∈r))=true then some (D.lst (r.map D.int++[D.int h]))else none) (by omega) (λh _=>?_) ?_
    ·refine⟨_,.li _ _,Xm (λg=>⟨by simp,rfl,rfl,?_,_,rfl,WO g⟩) (λg=>WN g)⟩;show(r.map D.int).length+1<=100000;rw[WG];omega
    ·rw[Tg (λh=>!decide (h∈r)),Zfp];refine⟨?_,t,?_⟩
     ·rw[WG,WG];omega
     ·rw[ef,Qc];rfl
   ·rintro γ' ⟨t,rfl⟩;rw[Qy];rfl
  ·rintro γ' rfl;exact hR
def Zhx(DD:Def K mg "_law_ring" Dz ["_law_holders","_law_wishes"])
  : LI ζ:=by
 refine DD.fz Zgh (λhr n=>(bc (sF 5<|sC 2 ["_law_holder_here"] [none] n (jL<|xe (Ka (F3 (K:=K) (w:=w) rfl) (by rfl) G.Zl boot_sorted<|az<|pv 0)<|FL<|sz<|Xi 0) (gN 0) f0<|xL<|a1<|xv 0)<|bc (sF 2<|sW [3,4,5] Qd (te (Pb (Ag (K:=K)<|show _<cLine from(hr ()).units0) (pv 2) (K9 Km)<|KB _)<|KH<|Bo (Xi 2)<|KC X9)<|bc (sS 3 n<|xL a0)<|bc (sF 2<|sO [4,5] Qd (iL<|xv 2) (gN 4)<|b1<|sO [5] Qd (iL<|xe (Ka (F3 (K:=K) (w:=w) rfl) (by rfl) G.Zl boot_sorted<|az<|pv 0)<|FL<|sz<|Xi 0) (gN 5)<|b1<|sI (tp<|wa (tc KF KA (xv 5)<|xx (xv 4) xi)<|wa (tI hr (xv 5)<|xv 4)<|wA<|ti hr (xt<|a2 (xx (xv 4)<|xe (KP KU Xt)<|KR Xq)<|xv 5)<|xv 1) (b1<|sF 5<|sA 3<|xo Kx Ky (xv 4)<|xL<|a1<|xv 5) b0)<|bc (sF 3<|sO [4] Qd (iL<|xv 3) (gN 4)<|b1<|sI (ti hr (xt<|a2 (xx (xv 4)<|xe (KP KU Xt)<|KR Xq)<|xx (xv 4) xi)<|xv 1) (b1<|sF 4<|sV 4) b0)<|b1<|sF 3<|sS 2 n<|xv 3)<|b1<|sr<|xL a0)) (.a ?_)
 ·rintro ds R X ⟨hs,ws,r,rfl,hnd,hz,hu,hw,F,hR⟩;refine⟨rfl,hs,rfl,by omega,λns hp hsrt=>?_⟩;have hlt:ns.Pairwise (· < ·):=Bc hsrt (hp.nodup_iff.mpr hnd);have hnl:=hp.length_eq;refine KM (xs:=ns) (emb:=D.int) (λh=>some (.lst [.int h])) (by omega) (λh _=>⟨by simp,_,rfl,rfl⟩) ?_;have e0:ns.filterMap (λh=>some (D.lst [.int h]))=(ns.map λh=>[h]).map eL:=by rw[VG,QA];rfl
  rw[e0]
  have L0:Nr hs ws 0 (ns.map λh=>[h]):=by
   refine⟨λw=>⟨λhw'=>?_,?_⟩,?_⟩
   ·obtain⟨h,hh,rfl⟩:=Qp.mp hw';exact⟨h,[],rfl,hp.mem_iff.mp hh,trivial,by simp,rfl⟩
   ·rintro⟨l,t,rfl,h1,_,_,h4⟩
    have:t=[]:=QN.mp h4
    subst this;exact Qp.mpr ⟨l,hp.mem_iff.mpr h1,rfl⟩
   ·rw[JQ];exact hlt.imp λh=>.inl h
  refine MN (λγ'=>∃k rows,γ'=[some (.bor<|.lst<|hs.map D.int),some (.bor<|.lst<|ws.map prD),some (.sh<|.lst<|rows.map eL),none,none,none]/\Nr hs ws k rows/\rows.length<=fall k/\NoC hs ws k) Fy ⟨0,_,rfl,L0,by rw[WG];show _<=10;omega,NoC.zero hu⟩ ?_;rintro γ' ⟨k,rows,rfl,L,hrl,N⟩;have emp:(!(rows.map eL).isEmpty)=decide (rows≠[]):=by cases rows<;>simp
  refine⟨by simp,?_⟩;show if (!(rows.map eL).isEmpty)=true then _ else _;rw[emp];refine Xm (λg=>?_) (λg=>?_)
  ·have hne:rows≠[]:=WK g
   have hk1:k+1<=hs.length:=by
    obtain⟨w,hw'⟩:=VY rows hne;obtain⟨l,t,rfl,h1,h2,h3,h4⟩:=(L.mem w).mp hw'
    have:=Nn h3 (λx hx=>by
     rcases Qa.mp hx with rfl|hx
     ·exact h1
     ·exact(NI h2 x hx).1)
    simp at this;omega
   have cap:rows.length*(hs.length-(k+1))<=3628800:=by
    refine WU (Nat.mul_le_mul hrl<|show hs.length-(k+1)<=9-k by omega) ?_;exact Zh5 (k+1)
   refine⟨by simp,rfl,K7 (xs:=rows) (emb:=eL) (λi γ'=>∃gr,γ'=[some (.bor<|.lst<|hs.map D.int),some (.bor<|.lst<|ws.map prD),some (.sh<|.lst<|rows.map eL),some (.own<|gr.map eL),none,none]/\GRs ws rows ns i 0 (hs.length-(k+1)) gr) ⟨[],rfl,GRs.start⟩ ?_ ?_⟩
   ·rintro i hi γ' ⟨gr,rfl,G⟩;have hw':rows[i]?=some rows[i]:=WH hi;obtain⟨l,t,ew,h1,h2,h3,h4⟩:=(L.mem rows[i]).mp (Qf hi);rw[ew]at hw' ⊢
    have hsub:∀x∈l::t,x∈ns:=λx hx=>by
     rcases Qa.mp hx with rfl|hx
     ·exact hp.mem_iff.mpr h1
     ·exact hp.mem_iff.mpr (NI h2 x hx).1
    have hfl:=Za7 (hp.nodup_iff.mpr hnd) h3 hsub;have hfl':(ns.filter<|Tu<|some (l::t)).length<=hs.length-(k+1):=by simp at hfl;omega
    refine⟨hs,rfl,by omega,λns' hp' hsrt'=>?_⟩
    have:ns'=ns:=Rk (Bc hsrt'<|hp'.nodup_iff.mpr hnd) hlt λz=>by rw[hp'.mem_iff,hp.mem_iff]
    subst this;refine⟨rfl,K7 (xs:=ns') (emb:=D.int) (λj γ'=>∃gr,γ'=[some (.bor<|.lst<|hs.map D.int),some (.bor<|.lst<|ws.map prD),some (.sh<|.lst<|rows.map eL),some (.own<|gr.map eL),some (.sh<|eL (l::t)),none]/\GRs ws rows ns' i j (hs.length-(k+1)) gr) ⟨gr,rfl,G⟩ ?_ ?_⟩
    ·rintro j hj γ' ⟨gr,rfl,G⟩;have hh:ns'[j]?=some ns'[j]:=WH hj;generalize ns'[j]=h at hh ⊢
     have gl:gr.length<=3628800:=by
      have h1:=G.len
      have h2:((ns'.take j).filter (Tu rows[i]?)).length<=hs.length-(k+1):=by
       rw[hw'];exact WU ((Vx j ns').filter _).length_le hfl'
      have h3:(i+1)*(hs.length-(k+1))<=rows.length*(hs.length-(k+1)):=JB _ hi;rw[Nat.succ_mul]at h3;omega
     refine⟨_,Kp _ _,Xm (λg1=>⟨_,.li h (l::t),?_⟩) (λg1=>X1 ⟨gr,rfl,G.skip hw' hh λz=>g1 (WI z.1)⟩)⟩;by_cases c2:h∈l::t
     ·rw[WI c2];exact X1 (X1 ⟨gr,rfl,G.skip hw' hh λz=>z.2.1 c2⟩)
     ·rw[Qv c2];refine Kg ⟨_,Rf l t,by simp,_,.lp (Xu l t,h) ws,Xm (λg3=>?_) (λg3=>⟨gr,rfl,G.skip hw' hh λz=>g3 (WI z.2.2)⟩)⟩;refine⟨by simp,rfl,rfl,by simp;omega,by rw[WG];omega,gr++[l::t++[h]],?_,G.put hw' hh L.srt hlt ⟨WK g1,c2,WK g3⟩⟩;rw[Qc,VE]
      have e:eL (l::t++[h])=.lst ((l::t).map D.int++[.int h]):=by
       unfold eL;rw[Qc];rfl
      rw[e];rfl
    ·rintro γ' ⟨gr,rfl,G⟩;exact⟨gr,rfl,G.row hw' hfl'⟩
   ·rintro γ' ⟨gr,rfl,G⟩;have L':=G.all (λx=>hp.mem_iff) L
    have hgl:gr.length<=fall (k+1):=by
     have:=G.len
     rw[QS]at this;refine WU (show gr.length<=rows.length*(hs.length-(k+1)) by simpa using this) ?_;exact Nat.mul_le_mul hrl (by omega)
    refine⟨rfl,K7 (xs:=gr) (emb:=eL) (λj γ'=>γ'=[some (.bor<|.lst<|hs.map D.int),some (.bor<|.lst<|ws.map prD),some (.sh<|.lst<|rows.map eL),some (.sh<|.lst<|gr.map eL),none,none]/\∀w∈gr.take j,¬BP ws w) ⟨rfl,λw hw'=>by rw[QS]at hw';cases hw'⟩ ?_ ?_⟩
    ·rintro j hj γ' ⟨rfl,hno⟩;obtain⟨l,t,ew,h1,h2,h3,h4⟩:=(L'.mem gr[j]).mp (Qf hj);have fe:=Zkb hu F L' N hj;rw[WY hj];rw[ew]at fe ⊢;refine⟨_,Rf l t,_,Kp _ _,by simp,_,.lp (Xu l t,l) ws,Xm (λg3=>?_) (λg3=>⟨rfl,λw hw'=>?_⟩)⟩
     ·have:=fe ⟨l,t,rfl,WK g3⟩ hno
      subst this;exact hR
     ·rcases WV.mp hw' with hw'|hw'
      ·exact hno w hw'
      ·rw[WJ.mp hw'];rintro⟨l',t',e',z⟩;cases e'
       exact g3 (WI z)
    ·rintro γ' ⟨rfl,hno⟩;rw[Qy]at hno;refine⟨⟨k+1,gr,rfl,L',hgl,NoC.next L' hno N⟩,?_⟩
     have hm:Fy [some (.bor<|.lst<|hs.map D.int),some (.bor<|.lst<|ws.map prD),some (.sh<|.lst<|rows.map eL),none,none,none]=20-(k+1):=by
      cases rows with
      |nil=>exact absurd rfl hne
      |cons w rs=>
       obtain⟨l,t,rfl,_,_,_,h4⟩:=(L.mem w).mp Qu;show 20-((l::t).map D.int).length=_;rw[WG,Qi,h4]
     show Fy [some (.bor<|.lst<|hs.map D.int),some (.bor<|.lst<|ws.map prD),some (.sh<|.lst<|gr.map eL),none,none,none]<Fy [some (.bor<|.lst<|hs.map D.int),some (.bor<|.lst<|ws.map prD),some (.sh<|.lst<|rows.map eL),none,none,none];rw[hm];cases gr with
     |nil=>show 0<_;omega
     |cons w rs=>
      obtain⟨l,t,rfl,_,_,_,h4⟩:=(L'.mem w).mp Qu;show 20-((l::t).map D.int).length<_;rw[WG,Qi,h4];omega
  ·have hre:rows=[]:=Qj λz=>g (WI z);subst hre
   have:=RT hu F L N
   subst this;exact⟨by simp,hR⟩
def Zat(DD:Def K mg "_law_field_step" Ez ["_law_strips","_law_deed_here"])
  : G4 ζ:=by
 refine DD.fz Zpo (λhr n=>(bc (sS 2 n<|xx (xv 1) xi)<|bc (sI (tp<|wo (tc KS KN (xv 2) xi)<|wO<|tc KF KA (xv 2)<|xo K0 K4 (xl G.len<|xv 0)<|xe (P5 DJ (by rfl) G.ZL boot_int<|az<|N1 (NA (K:=K)<|show _<cLine from(hr ()).units0) (jx K (pv 1) Xt) TM<|KB _)<|El<|sz<|Nu (XM (Xi 1) Xq) Nl) (b1<|sF 0<|sR<|xL<|a2 xi<|xv 0) b0)<|bc (sS 3 n<|xx (xx (xv 0)<|xo K0 K4 (xv 2) xi) xi)<|bc (sS 4 n<|xx (xx (xv 0)<|xo K0 K4 (xv 2) xi) xi)<|bc (sI (tq hr (xx (xv 1) xi) xs) (bc (sI (tp<|wo (tc KS KN (xx (xv 1) xi) xi)<|wO<|tc KF KA (xx (xv 1) xi) xi) (b1<|sF 0<|sR<|xL<|a2 xi<|xv 0) b0)<|bc (sI (tq hr (xx (xv 1) xi)<|xv 3) (b1<|sF 0<|sR<|xL<|a2 xi<|xv 0) b0)<|b1<|sR<|xL<|a2 xi<|xo Kx Ky (xo Kx Ky (xp (xv 0) o0<|o1<|xo K0 K4 (xv 2) xi)<|xL<|a1<|xt<|a2 (xx (xv 1) xi)<|xv 4)<|xp (xv 0) (o1<|xv 2) o0) b0)<|bc (sI (tq hr (xx (xv 1) xi) xs) (bc (sI (tp<|wo (tc KS KN (xx (xv 1) xi) xi)<|wO<|tc NU NS (xx (xv 1) xi)<|xv 4) (b1<|sF 0<|sR<|xL<|a2 xi<|xv 0) b0)<|bc (sI (tq hr (xl G.len<|xv 0) xi) (b1<|sF 0<|sR<|xL<|a2 xi<|xv 0) b0)<|bc (sS 5 n<|xL<|a2 (xt<|a2 (xv 3)<|xx (xv 1) xi)<|xt<|a2 (xv 3)<|xo K0 K4 (xv 4)<|xx (xv 1) xi)<|b1<|sR<|xL<|a2 xi<|xo Kx Ky (xo Kx Ky (xp (xv 0) o0<|o1<|xo K0 K4 (xv 2) xi)<|xv 5)<|xp (xv 0) (o1<|xv 2) o0) b0)<|bc (sI (tn hr (xx (xx (xv 0)<|xv 2) xi)<|xv 3) (b1<|sF 0<|sR<|xL<|a2 xi<|xv 0) b0)<|bc (sI (tc KF KA (xo XB XC (xv 4)<|xx (xx (xv 0)<|xv 2) xi) xi) (b1<|sF 0<|sR<|xL<|a2 xi<|xv 0) b0)<|b1<|sR<|xL<|a2 xi<|xo Kx Ky (xo Kx Ky (xp (xv 0) o0<|o1<|xo K0 K4 (xv 2) xi)<|xL<|a1<|xt<|a2 (xv 3)<|xo XB XC (xv 4)<|xx (xx (xv 0)<|xv 2) xi)<|xp (xv 0) (o1<|xo XB XC (xv 2) xi) o0)) (.b ?_)
 ·rintro ds R X ⟨f,x,rfl,hx,hz,hR⟩;refine⟨rfl,?_⟩;have hl:(f.map prD).length=f.length:=WG ..;have l1:∀p:Int,(cutD (f.map prD) none<|some (p-1)).length<=1000:=λp=>by have:=(Nd (f.map prD) none<|some (p-1)).length_le;rw[WG]at this;omega
  have l2:∀p:Int,(cutD (f.map prD) (some p) none).length<=1000:=λp=>by have:=(Nd (f.map prD) (some p) none).length_le;rw[WG]at this;omega
  cases x with
  |wish a b=>cases hx
  |drop a b=>cases hx
  |sell p h=>
   have hR:R (.own [.int (codeN<|XO f p h),plD (if XO f p h=none then X8 f p h else f)]):=hR
   have no:∀c:Str,XO f p h=some c->R (.own [.int (codeN<|some c),plD f]):=λc e=>by
    rw[e,WN (by intro z;cases z)]at hR;exact hR
   unfold XO at no hR
   have one:(p<1\/(f.length:Int)<p)->R (.own [.int 1,plD f]):=λz=>by
    rw[←BI];exact no _ (WO z)
   refine⟨_,rfl,Xm (λg=>Kg ?_) (λg=>⟨_,rfl,Xm (λg2=>?_) (λg2=>?_)⟩)⟩
   ·exact⟨by simp,one (.inl<|WK g)⟩
   ·have g':(((f.map prD).length:Nat):Int)-0<p:=WK g2;exact⟨by simp,one (.inr<|by omega)⟩
   ·have n1:¬p<1:=λz=>g (WI z);have n2:¬(((f.map prD).length:Nat):Int)-0<p:=λz=>g2 (WI z);rw[WN (by omega)]at no hR;have a1:=Tz (ps:=f) (p:=p) (by omega) (by omega);refine⟨_,a1,_,rfl,_,a1,_,rfl,_,rfl,?_⟩;refine⟨_,rfl,Xm (λg3=>Kg ?_) (λg3=>⟨_,rfl,Xm (λg4=>?_) (λg4=>?_)⟩)⟩
    ·have g':h<1:=WK g3
     have:=no _ (WO<|by omega)
     rw[Sq]at this;exact⟨by simp,this⟩
    ·have g':10<h:=WK g4
     have:=no _ (WO<|by omega)
     rw[Sq]at this;exact⟨by simp,this⟩
    ·have n3:¬h<1:=λz=>g3 (WI z);have n4:¬10<h:=λz=>g4 (WI z);rw[WN (VI.mpr ⟨by omega,by omega⟩)]at no hR;refine⟨_,rfl,Xm (λg5=>?_) (λg5=>?_)⟩
     ·have g':h=(Xw f p).1:=WK g5
      have:=no _ (WO g'.symm)
      rw[DU]at this;exact⟨by simp,this⟩
     ·have g':¬h=(Xw f p).1:=λz=>g5 (WI z);rw[WN (λz=>g' z.symm),WO rfl]at hR;have e:=O2 (ps:=f) (p:=p) (x:=(h,(Xw f p).2)) (by omega) (by omega);refine⟨rfl,_,rfl,by simp,by simp,rfl,rfl,WU (Qw (l1 p)<|WQ 1) (by decide),rfl,rfl,rfl,WU (Qw (by rw[WR];exact Qw (l1 p) (WQ 1))<|l2 p) (by decide),by simp,?_⟩;have e9:plD (X8 f p h)=.lst (cutD (f.map prD) none (some (p-1))++[prD (h,(Xw f p).2)]++cutD (f.map prD) (some p) none):=Q2 D.lst e.symm;rw[e9]at hR;exact hR
  |part p w=>
   have hR:R (.own [.int (codeN<|Kq f p w),plD (if Kq f p w=none then P3 f p w else f)]):=hR
   have no:∀c:Str,Kq f p w=some c->R (.own [.int (codeN<|some c),plD f]):=λc e=>by
    rw[e,WN (by intro z;cases z)]at hR;exact hR
   unfold Kq at no hR
   have one:(p<1\/(f.length:Int)<p)->R (.own [.int 1,plD f]):=λz=>by
    rw[←BI];exact no _ (WO z)
   refine⟨_,rfl,Xm (λg=>Kg ?_) (λg=>⟨_,rfl,Xm (λg2=>?_) (λg2=>?_)⟩)⟩
   ·exact⟨by simp,one (.inl<|WK g)⟩
   ·have g':(((f.map prD).length:Nat):Int)-0<p:=WK g2;exact⟨by simp,one (.inr<|by omega)⟩
   ·have n1:¬p<1:=λz=>g (WI z);have n2:¬(((f.map prD).length:Nat):Int)-0<p:=λz=>g2 (WI z);rw[WN (by omega)]at no hR;have a1:=Tz (ps:=f) (p:=p) (by omega) (by omega);refine⟨_,a1,_,rfl,_,a1,_,rfl,_,rfl,_,rfl,?_⟩;refine⟨_,rfl,Xm (λg3=>Kg ?_) (λg3=>⟨_,rfl,Xm (λg4=>?_) (λg4=>?_)⟩)⟩
    ·have:=no _ (WO<|.inl<|WK g3)
     rw[Ct]at this;exact⟨by simp,this⟩
    ·have:=no _ (WO<|.inr<|WK g4)
     rw[Ct]at this;exact⟨by simp,this⟩
    ·have n3:¬w<1:=λz=>g3 (WI z);have n4:¬(Xw f p).2<=w:=λz=>g4 (WI z);rw[WN (by omega)]at no hR;refine Xm (λg5=>?_) (λg5=>?_)
     ·have g':(((f.map prD).length:Nat):Int)=40:=WK g5
      have:=no _ (WO<|by omega)
      rw[LN]at this;exact⟨by simp,this⟩
     ·have g':¬(((f.map prD).length:Nat):Int)=40:=λz=>g5 (WI z);rw[WN (by omega),WO rfl]at hR;refine⟨_,rfl,by simp,_,rfl,by simp,by simp,?_⟩;refine⟨rfl,rfl,rfl,WU (Qw (l1 p)<|WQ 2) (by decide),rfl,rfl,rfl,WU (Qw (by rw[WR];exact Qw (l1 p) (WQ 2))<|l2 p) (by decide),by simp,?_⟩;have e9:plD (P3 f p w)=.lst (cutD (f.map prD) none (some (p-1))++[prD ((Xw f p).1,w),prD ((Xw f p).1,(Xw f p).2-w)]++cutD (f.map prD) (some p) none):=Q2 D.lst (GO<|by omega).symm;rw[e9]at hR;exact hR
  |unite p=>
   have hR:R (.own [.int (codeN<|Kc f p),plD (if Kc f p=none then PM f p else f)]):=hR
   have no:∀c:Str,Kc f p=some c->R (.own [.int (codeN<|some c),plD f]):=λc e=>by
    rw[e,WN (by intro z;cases z)]at hR;exact hR
   unfold Kc at no hR
   have one:(p<1\/(f.length:Int)<=p)->R (.own [.int 1,plD f]):=λz=>by
    rw[←BI];exact no _ (WO z)
   refine⟨_,rfl,Xm (λg=>Kg ?_) (λg=>⟨_,rfl,Xm (λg2=>?_) (λg2=>?_)⟩)⟩
   ·exact⟨by simp,one (.inl<|WK g)⟩
   ·have g':(((f.map prD).length:Nat):Int)-1<p:=WK g2;exact⟨by simp,one (.inr<|by omega)⟩
   ·have n1:¬p<1:=λz=>g (WI z);have n2:¬(((f.map prD).length:Nat):Int)-1<p:=λz=>g2 (WI z);rw[WN (by omega)]at no hR;have a1:=Tz (ps:=f) (p:=p) (by omega) (by omega);have a2:=Zj9 (ps:=f) (p:=p) (by omega) (by omega);refine⟨_,a1,_,rfl,_,a1,_,rfl,_,rfl,_,rfl,?_⟩;refine⟨_,a2,_,rfl,Xm (λg3=>?_) (λg3=>?_)⟩
    ·have g':¬(Xw f (p+1)).1=(Xw f p).1:=λz=>by rw[WI z]at g3;cases g3
     have:=no _ (WO (λz=>g' z.symm))
     rw[EL]at this;exact⟨by simp,this⟩
    ·have g':(Xw f (p+1)).1=(Xw f p).1:=Qj λz=>g3 (by rw[Qv z];rfl);rw[WN (VI.mpr g'.symm)]at no hR;refine⟨_,a2,_,rfl,Xm (λg4=>?_) (λg4=>?_)⟩
     ·have:=no _ (WO<|WK g4)
      rw[HC]at this;exact⟨by simp,this⟩
     ·rw[WN (λz=>g4 (WI z)),WO rfl]at hR;refine⟨rfl,_,a2,_,rfl,by simp,by simp,rfl,rfl,WU (Qw (l1 p)<|WQ 1) (by decide),rfl,rfl,rfl,WU (Qw (by rw[WR];exact Qw (l1 p) (WQ 1))<|l2 (p+1)) (by decide),by simp,?_⟩;have e9:plD (PM f p)=.lst (cutD (f.map prD) none (some (p-1))++[prD ((Xw f p).1,(Xw f p).2+(Xw f (p+1)).2)]++cutD (f.map prD) (some (p+1)) none):=Q2 D.lst (EH<|by omega).symm;rw[e9]at hR;exact hR
def Za6(DD:Def K mg "_law_wish_step" Cd ["_law_wishes","_law_deed_here"])
  : LJ ζ:=by
 refine DD.fz Zpm (λhr n=>(bc (sS 2 n<|xt<|a2 (xx (xv 1) xi)<|xx (xv 1) xi)<|bc (sI (tq hr (xx (xv 1) xi) xs) (bc (sI (tI hr (xv 2)<|xv 0) (b1<|sF 0<|sR<|xL<|a2 xi<|xv 0) b0)<|b1<|sR<|xL<|a2 xi<|xC ["_law_one","_law_pair_here"] [none,some 2] (jL<|xv 0) (gN 0) (f1<|te (Pb (Ls (K:=K)<|show _<cLine from(hr ()).units0) (pv 0) (pv 1)<|KB _)<|KH<|IG (Xi 0)<|Xi 1)<|xv 0) b0)<|bc (sI (tp<|wo (tc KS KN (xe (Ka (Zb7 (K:=K) rfl) (by rfl) G.Yb boot_min<|az<|pv 2)<|Zpk<|sz<|Xi 2) xi)<|wO<|tc KF KA (xe (Ka (Zoo (K:=K) rfl) (by rfl) G.ZM boot_max<|az<|pv 2)<|Zgc<|sz<|Xi 2) xi) (b1<|sF 0<|sR<|xL<|a2 xi<|xv 0) b0)<|bc (sI (tq hr (xx (xv 1) xi)<|xx (xv 1) xi) (b1<|sF 0<|sR<|xL<|a2 xi<|xv 0) b0)<|bc (sI (ti hr (xv 2)<|xv 0) (b1<|sF 0<|sR<|xL<|a2 xi<|xv 0) b0)<|bc (sI (tq hr (xl G.len<|xv 0) xi) (b1<|sF 0<|sR<|xL<|a2 xi<|xv 0) b0)<|b1<|sF 2<|sR<|xL<|a2 xi<|xo Kx Ky (xv 0)<|xL<|a1<|xv 2)) (.b ?_)
 ·rintro ds R X ⟨w,x,rfl,hx,hz,hR⟩;refine⟨rfl,?_⟩;have hl:(w.map prD).length=w.length:=WG ..;cases x with
  |sell p h=>cases hx
  |part p h=>cases hx
  |unite p=>cases hx
  |drop a b=>
   refine⟨_,rfl,_,rfl,by simp,_,rfl,?_⟩;show ∃c,InR (prD (a,b)) (plD w) c/\_;have hR:R (.own [.int (codeN<|Kr w a b),plD (if Kr w a b=none then NO w a b else w)]):=hR;refine⟨_,.lp (a,b) w,Xm (λg=>?_) (λg=>?_)⟩
   ·have g':¬(a,b)∈w:=λz=>by rw[WO rfl,WI z]at g;cases g
    have e:Kr w a b=some ("NoWish" : Str):=WN g';rw[e,HX,WN (by intro z;cases z)]at hR;exact⟨by simp,hR⟩
   ·have g':(a,b)∈w:=Qj λz=>g (by rw[WO rfl,Qv z];rfl);have e:Kr w a b=none:=WO g';rw[e,WO rfl]at hR;refine KM (xs:=w) (emb:=prD) (λq=>if (!decide (q=(a,b)))=true then some (prD q)else none) (by omega) (λq hq=>?_) ?_
    ·refine⟨[q.1,q.2],[a,b],rfl,rfl,?_⟩;have e:decide ([q.1,q.2]=[a,b])=decide (q=(a,b)):=Zmv q (a,b);show if (!decide ([q.1,q.2]=[a,b]))=true then _ else _;rw[e];exact Xm (λh=>⟨_,rfl,WO h⟩) (λh=>WN h)
    ·rw[Tg (λq:Int×Int=>!decide (q=(a,b)))];exact⟨by simp,hR⟩
  |wish a b=>
   refine⟨_,rfl,_,rfl,by simp,_,rfl,?_⟩;have hR:R (.own [.int (codeN<|Kd w a b),plD (if Kd w a b=none then w++[(a,b)]else w)]):=hR
   have no:∀c:Str,Kd w a b=some c->R (.own [.int (codeN<|some c),plD w]):=λc e=>by
    rw[e,WN (by intro z;cases z)]at hR;exact hR
   have bad:¬((1<=a/\a<=10)/\(1<=b/\b<=10))->R (.own [.int 2,plD w]):=λz=>by
    rw[←Sq];refine no _ ?_;unfold Kd;by_cases c1:1<=a/\a<=10
    ·rw[WN (VI.mpr c1),WO (λy=>z ⟨c1,y⟩)]
    ·rw[WO c1]
   have mn:∀x y:Int,(if y<x then y else x)<=x/\(if y<x then y else x)<=y/\((if y<x then y else x)=x\/(if y<x then y else x)=y):=λx y=>by split<;>omega
   have mx:∀x y:Int,x<=(if y>x then y else x)/\y<=(if y>x then y else x)/\((if y>x then y else x)=x\/(if y>x then y else x)=y):=λx y=>by split<;>omega
   have m1:=mn a b;have m2:=mx a b;refine Xm (λg=>Kg ?_) (λg=>Xm (λg2=>?_) (λg2=>?_))
   ·have g':(if b<a then b else a)<1:=WK g;exact⟨by simp,bad (by omega)⟩
   ·have g':10<(if b>a then b else a):=WK g2;exact⟨by simp,bad (by omega)⟩
   ·have n1:¬(if b<a then b else a)<1:=λz=>g (WI z);have n2:¬10<(if b>a then b else a):=λz=>g2 (WI z);have c1:1<=a/\a<=10:=by omega
    have c2:1<=b/\b<=10:=by omega
    unfold Kd at no hR;rw[WN (VI.mpr c1),WN (VI.mpr c2)]at no hR;refine⟨_,rfl,_,rfl,Xm (λg3=>?_) (λg3=>?_)⟩
    ·have:=no _ (WO<|WK g3)
     rw[Gv]at this;exact⟨by simp,this⟩
    ·have n3:¬a=b:=λz=>g3 (WI z);rw[WN n3]at no hR;show ∃c,InR (prD (a,b)) (plD w) c/\_;refine⟨_,.lp (a,b) w,Xm (λg4=>?_) (λg4=>?_)⟩
     ·have:=no _ (WO<|WK g4)
      rw[Ht]at this;exact⟨by simp,this⟩
     ·have n4:¬(a,b)∈w:=λz=>g4 (WI z);rw[WN n4]at no hR;refine Xm (λg5=>?_) (λg5=>?_)
      ·have g':(((w.map prD).length:Nat):Int)=20:=WK g5
       have:=no _ (WO<|by omega)
       rw[Gj]at this;exact⟨by simp,this⟩
      ·have g':¬(((w.map prD).length:Nat):Int)=20:=λz=>g5 (WI z);rw[WN (by omega),WO rfl]at hR;refine⟨by simp,rfl,rfl,WU (Qw (Vf hl)<|WQ 1) (by omega),by simp,?_⟩;have e9:plD (w++[(a,b)])=.lst (w.map prD++[prD (a,b)]):=Q2 D.lst Qc;rw[e9]at hR;exact hR
def Zlp(DD:Def K mg "_law_odd" Dv ["_law_cell","_law_good"])
  : MH ζ:=by
 refine DD.fz Zb5 (λhr n=>(bc (sI (tq hr (xo X2 X3 (xv 0) xi) xi) (b1<|sR<|xx (xL<|ac xi<|ac xi<|ac (xe (KP KU Xt)<|KR Xq)<|ac (xo Dt DN xi xi) a0)<|xo X2 X3 (xo XI XH (xv 0) xi) xi) b0)<|b1<|sV 1)) (.a ?_)
 ·rintro ds R X ⟨c,g,rfl,hR⟩;refine⟨rfl,?_⟩;have h4:0<=c / 7 % 4/\c / 7 % 4<4:=by omega
  refine⟨(by show(0:Int)<7;decide),Xm (λ_=>?_) (λ_=>hR _)⟩;exact⟨⟨by decide,by decide,by decide⟩,by simp,⟨by decide,by decide⟩,(by show(0:Int)<4;decide),_,N7 (f:=D.int) (xs:=[0,11,-3,10 ^ (30:Int).toNat]) h4.1 h4.2,hR _⟩
def Zlt(DD:Def K mg "_law_place" Cf ["_law_cell","_law_strips"])
  : Ig ζ:=by
 refine DD.fz Za5 (λhr n=>(bc (sI (tq hr (xo X2 X3 (xv 0) xi) xi) (b1<|sR<|xx (xL<|ac xi<|ac (xe (KP KU Xt)<|KR Xq)<|ac (xo XB XC (xl G.len<|xv 1) xi)<|ac (xo Dt DN xi xi) a0)<|xo X2 X3 (xo XI XH (xv 0) xi) xi) b0)<|bc (sI (te (Pb (OD (K:=K)<|show _<cLine from(hr ()).units0) (pv 1) (K9 Km)<|KB _)<|KH<|Bo (Xi 1)<|KC X9) (b1<|sR xi) b0)<|b1<|sR<|xo XB XC xi<|xo X2 X3 (xo XI XH (xv 0) xi)<|xl G.len<|xv 1)) (.a ?_)
 ·rintro ds R X ⟨c,ps,rfl,hz,hR⟩;refine⟨rfl,?_⟩;have h4:0<=c / 11 % 4/\c / 11 % 4<4:=by omega
  have hl:(ps.map prD).length=ps.length:=WG ..;refine⟨(by show(0:Int)<11;decide),Xm (λ_=>?_) (λ_=>?_)⟩
  ·exact⟨⟨by decide,by decide,by decide⟩,by simp,⟨by decide,by decide⟩,(by show(0:Int)<4;decide),_,N7 (f:=D.int) (xs:=[0,-1,(((ps.map prD).length:Nat):Int)+1,10 ^ (30:Int).toNat]) h4.1 h4.2,hR _⟩
  ·refine⟨by simp,?_⟩;have emp:(ps.map prD).isEmpty=decide (ps=[]):=by cases ps<;>simp
   show if (ps.map prD).isEmpty=true then _ else _;rw[emp];refine Xm (λ_=>hR _) (λg=>?_);have hne:0<ps.length:=V9.mpr λz=>g (WI z);exact⟨⟨by decide,by decide⟩,(by show 0<(((ps.map prD).length:Nat):Int);omega),hR _⟩
def R5(DD:Def K mg "_law_width" Eu ["_law_cell","_law_strips","_law_place_here"])
  : GH ζ:=by
 refine DD.fz Zf5 (λhr n=>(bc (sI (tp<|wo (tc KS KN (xv 2) xi)<|wo (tc KF KA (xv 2)<|xl G.len<|xv 1)<|wO<|tq hr (xo X2 X3 (xv 0) xi) xi) (b1<|sR<|xx (xL<|ac xi<|ac (xe (KP KU Xt)<|KR Xq)<|ac xi<|ac xi<|ac xi<|ac xi<|ac (xo Dt DN xi xi) a0)<|xo X2 X3 (xo XI XH (xv 0) xi) xi) b0)<|b1<|sR<|xo X2 X3 (xo XI XH (xv 0) xi)<|xo XB XC (xx (xx (xv 1)<|xo K0 K4 (xv 2) xi) xi) xi)) (.a ?_)
 ·rintro ds R X ⟨c,ps,p,rfl,hz,hF,hR⟩;refine⟨rfl,?_⟩;have hl:(ps.map prD).length=ps.length:=WG ..;have h7:0<=c / 5 % 7/\c / 5 % 7<7:=by omega
  have out:∃v:Int,atI ([0,-1,1,1000,1001,999,10 ^ (30:Int).toNat].map D.int) (c / 5 % 7)=some (.int v):=⟨_,N7 (f:=D.int) (xs:=[0,-1,1,1000,1001,999,10 ^ (30:Int).toNat]) h7.1 h7.2⟩;obtain⟨v,ev⟩:=out;refine Xm (λg=>Kg ?_) (λg=>Xm (λg2=>Kg ?_) (λg2=>⟨(by show(0:Int)<5;decide),Xm (λg3=>?_) (λg3=>?_)⟩))
  ·exact⟨⟨by decide,by decide,by decide⟩,by simp,⟨by decide,by decide⟩,(by show(0:Int)<7;decide),_,ev,hR _⟩
  ·exact⟨⟨by decide,by decide,by decide⟩,by simp,⟨by decide,by decide⟩,(by show(0:Int)<7;decide),_,ev,hR _⟩
  ·exact⟨⟨by decide,by decide,by decide⟩,by simp,⟨by decide,by decide⟩,(by show(0:Int)<7;decide),_,ev,hR _⟩
  ·have n1:¬p<1:=λz=>g (WI z);have n2:¬(((ps.map prD).length:Nat):Int)<p:=λz=>g2 (WI z);have hm:=hF _ (FP (ps:=ps) (p:=p) (by omega)<|by omega);exact⟨⟨by decide,by decide⟩,_,Tz (by omega) (by omega),_,rfl,(by show 0<(Xw ps p).2+1;omega),hR _⟩
def Zgn(DD:Def K mg "check_strips" Ex ["strips"])
  : I0 ζ:=by
 refine DD.fy Zgu (λhr n=>(bc (sI (tc KF KA (xl G.len<|xv 0)<|xe (ExcR.Pn G.Zp) Xq) (b1<|sQ G.Zn G.Zm ExcR.KW<|a1<|xe (ExcR.Np<|ExcR.PB<|ExcR.NF (ExcR.Pn G.Zp)<|ExcR.PB ExcR.Nv)<|N9<|P6<|N6 Xq<|P6 NH) b0)<|b1<|sF 0<|sO [1,2] ExcR.Ze4 (iL<|xv 0) (gT 2<|gc (gN 1)<|gc (gN 2) g0)<|bc (sE<|xg Y6 hr ExcR.XU<|a1<|xv 1)<|b1<|sE<|xg YO hr ExcR.XU<|a1<|xv 2)) (.a ?_)
 ·rintro ds R X ⟨ps,rfl,hz,hR⟩;refine⟨rfl,?_⟩;have hl:(ps.map prD).length=ps.length:=WG ..;unfold NL at hR;refine Xm (λg=>?_) (λg=>?_)
  ·have g':(40:Int)<((ps.map prD).length:Int):=WK g;rw[WO (by omega)]at hR;exact⟨by decide,by decide,by decide,by decide,by decide,by simp,hR⟩
  ·have g':¬(40:Int)<((ps.map prD).length:Int):=λz=>g (WI z);rw[WN (by omega)]at hR;refine⟨rfl,K7 (xs:=ps) (emb:=prD) (λi γ'=>γ'=[some (.bor<|plD ps),none,none]/\Nk (ps.drop i)=Nk ps) ⟨rfl,rfl⟩ ?_ ?_⟩
   ·rintro i hi γ' ⟨rfl,hf⟩;have ed:ps.drop i=ps[i]::ps.drop (i+1):=VX hi;rw[ed,Zmd]at hf;generalize ps[i]=p at hf ⊢;refine⟨rfl,p.1,rfl,?_⟩;unfold Sn;by_cases c:1<=p.1/\p.1<=10
    ·rw[WN (λz=>z c)]at hf;rw[WO c];refine⟨p.2,rfl,?_⟩;unfold FV;by_cases c2:1<=p.2/\p.2<=1000
     ·rw[WN (λz=>z c2)]at hf;rw[WO c2];exact⟨rfl,hf⟩
     ·rw[WO c2]at hf;rw[WN c2];rw[←hf]at hR;exact hR
    ·rw[WO c]at hf;rw[WN c];rw[←hf]at hR;exact hR
   ·rintro γ' ⟨rfl,hf⟩;rw[List.drop_length]at hf;rw[←hf]at hR;exact hR
def Zhm(DD:Def K mg "ring_from" Cu ["least","holders","wishes"])
  : La ζ:=by
 refine DD.fz Zjr (λhr n=>(bc (sF 0<|sS 3 n<|xL<|a1<|xL<|a1<|xv 0)<|bc (sS 4 n<|xe (Ka (F3 (K:=K) (w:=w) rfl) (by rfl) G.Zl boot_sorted<|az<|cz ["holder","least"] [none,some 0] (TB (K:=K)<|pv 1) ⟨(gk 0),(FA<|Pb KF (pv 0) (pv 1)<|KB _),(pv 0)⟩)<|FL<|sz<|To (Sa<|Xi 1) (Kt 0) (KH<|KA (Xi 0)<|Xi 1)<|Xi 0)<|bc (sW [5,6] Qd (tt<|xv 3)<|bc (sF 0<|sC 5 ["path","wishes","least"] [none,some 2,some 0] n (jL<|xv 3) (gN 0) (f1<|ti hr (xt<|a2 (xx (xv 0)<|xe (KP KU Xt)<|KR Xq)<|xv 2)<|xv 1)<|xv 0)<|bc (sI (tt<|xv 5) (b1<|sr<|xx (xv 5) xi) b0)<|bc (sS 3 n<|xf YS hr<|a3 (xv 3) (xv 4)<|xv 2)<|bc (sS 6 n<|xC ["path"] [none] (jL<|xv 3) (gN 0) f0<|xx (xv 0)<|xe (KP KU Xt)<|KR Xq)<|b1<|sC 4 ["holder","reached"] [none,some 6] n (jL<|xv 4) (gN 0) (f1<|tI hr (xv 0)<|xv 1)<|xv 0)<|b1<|sr<|xL a0)) (.a ?_)
 ·rintro ds R X ⟨l,hs,ws,rfl,hnd,hz,hR⟩;refine⟨rfl,by simp,by simp,KM (xs:=hs) (emb:=D.int) (λh=>if decide (l<h)=true then some (.int h)else none) (by omega) (λh _=>Xm (λg=>⟨_,rfl,WO g⟩) (λg=>WN g)) ?_⟩;rw[Iz λh=>decide (l<h)];refine⟨hs.filter λh=>decide (l<h),rfl,JL (Ve _ _) (by omega),λls hp hsrt=>?_⟩;have hlt:ls.Pairwise (· < ·):=Bc hsrt (hp.nodup_iff.mpr<|hnd.filter _)
  have hm:∀h,h∈ls↔Gr hs l h:=λh=>by
   rw[hp.mem_iff,Q6,Jr];exact Iff.rfl
  have hlen:ls.length<=hs.length:=by
   rw[hp.length_eq];exact Ve _ _
  refine MN (λγ'=>∃k ps ls,γ'=[some (.sh<|.int l),some (.bor<|.lst<|hs.map D.int),some (.bor<|.lst<|ws.map prD),some (.own<|ps.map<|em l),some (.own<|ls.map D.int),none,none]/\Lev hs ws l k ps ls/\ps.length<=60/\ls.length<=hs.length/\(k+ls.length<=hs.length\/(ps=[]/\k<=hs.length+1)))
   (λγ=>2*GT 4 γ+min 1 (GT 3 γ)) ⟨0,[[]],ls,rfl,Lev.start hlt hm,by simp,hlen,.inl (by omega)⟩ ?_
  rintro γ' ⟨k,ps,ls,rfl,L,hpl,hll,hk⟩;have emp:(!(ps.map<|em l).isEmpty)=decide (ps≠[]):=by cases ps<;>simp
  show if (!(ps.map<|em l).isEmpty)=true then _ else _;rw[emp];refine Xm (λg=>?_) (λg=>?_)
  ·have hne:ps≠[]:=WK g;have hk':k+ls.length<=hs.length:=hk.elim id λz=>absurd z.1 hne;have hpk:∀p∈ps,p.length<=60:=λp hp=>by rw[(L.way p hp).1];omega
   refine KM (xs:=ps) (emb:=em l) (λp=>if decide ((Xu l p,l)∈ws)=true then some (em l p)else none) (by omega) (λp hp=>⟨_,Fs l p,by simp,_,.lp (Xu l p,l) ws,Xm (λg=>⟨_,rfl,WO g⟩) (λg=>WN g)⟩) ?_;rw[Tg λp=>decide ((Xu l p,l)∈ws)];generalize ef:(ps.filter λp=>decide ((Xu l p,l)∈ws))=fs;have emp2:(!(fs.map<|em l).isEmpty)=decide (fs≠[]):=by cases fs<;>simp
   show if (!(fs.map<|em l).isEmpty)=true then _ else _;rw[emp2];refine Xm (λg2=>?_) (λg2=>?_)
   ·have hfe:fs≠[]:=WK g2;cases fs with
    |nil=>exact absurd rfl hfe
    |cons p r=>
     obtain⟨i,hi,e1,e2,e3⟩:=Ly ef;have hp:p∈ps:=by rw[←e1];exact Qf hi
     refine⟨em l p,Kp _ _,hR (l::p) (L.found hi e1 (WK e2) λj hj hji z=>?_) (by have:=(L.way p hp).1;simp;omega)⟩
     have:=e3 j hj hji
     rw[WI z]at this;cases this
   ·have hfe:fs=[]:=Qj λz=>g2 (WI z)
    have hn:∀p∈ps,(Xu l p,l)∉ws:=λp hp z=>by
     have:p∈fs:=by rw[←ef];exact Q6.mpr ⟨hp,WI z⟩
     rw[hfe]at this;cases this
    refine⟨l,ps,ls,ws,rfl,L.srt,L.lsrt,λp hp=>WU (hpk p hp) (by decide),by omega,λlg G hlg=>?_⟩;refine KM (xs:=lg) (emb:=em l) (λp=>some (.int<|Xu l p)) (by omega) (λp _=>⟨_,Fs l p,_,rfl,rfl⟩) ?_;have e1:lg.filterMap (λp=>some (D.int<|Xu l p))=(lg.map<|Xu l).map D.int:=by rw[VG,QA];rfl
    rw[e1];refine KM (xs:=ls) (emb:=D.int) (λh=>if decide (¬h∈lg.map (Xu l))=true then some (.int h)else none) (by omega) (λh _=>⟨_,.li h _,?_⟩) ?_
    ·by_cases c:h∈lg.map (Xu l)
     ·simp only[WI c];exact X1 (WN<|by simp[c])
     ·simp only[Qv c];exact Kg ⟨_,rfl,WO (by simp[c])⟩
    rw[Iz λh=>decide (¬h∈lg.map (Xu l))];have L':=L.next hn G rfl
    have hsub:∀h∈lg.map (Xu l),h∈ls:=λh hh=>by
     obtain⟨q,hq,e⟩:=Qp.mp hh;obtain⟨p,x,⟨_,a⟩,rfl,_⟩:=G.mem q hq;rw[Pi]at e;rw[←e];exact a
    have hfl:=Ve (λh=>decide (¬h∈lg.map (Xu l))) ls
    have hless:lg≠[]->(ls.filter λh=>decide (¬h∈lg.map (Xu l))).length<ls.length:=λhne=>by
     obtain⟨q,hq⟩:=VY lg hne;have hm:Xu l q∈ls:=hsub _ (JG hq);refine Nat.lt_of_le_of_ne hfl λz=>?_
     have:=List.filter_eq_self.mp (List.Sublist.eq_of_length (List.filter_sublist (l:=ls)) z) (Xu l q) hm
     rw[Jr]at this;exact this (JG hq)
    refine⟨⟨k+1,lg,_,rfl,L',by omega,by omega,?_⟩,?_⟩
    ·by_cases c:lg=[]
     ·exact .inr ⟨c,by omega⟩
     ·have:=hless c
      exact .inl (by omega)
    ·show 2*((ls.filter λh=>decide (¬h∈lg.map (Xu l))).map D.int).length+min 1 (lg.map<|em l).length<2*(ls.map D.int).length+min 1 (ps.map<|em l).length;rw[WG,WG,WG,WG]
     have:0<ps.length:=V9.mpr hne
     by_cases c:lg=[]
     ·rw[c];rw[c]at hfl;simp only[List.length_nil];omega
     ·have:=hless c
      omega
  ·have hpe:ps=[]:=Qj λz=>g (WI z);subst hpe;exact⟨by simp,hR [] L.over (by simp)⟩
def Rv(DD:Def K mg "sold" Dx ["strips","place","holder"])
  : Hg ζ:=by
 refine DD.fy Zbq (λhr n=>(bc (sE<|xg YB hr ExcR.XU<|a2 (xv 0)<|xv 1)<|bc (sE<|xg Y6 hr ExcR.XU<|a1<|xv 2)<|bc (sS 3 n<|xx (xv 0)<|xo K0 K4 (xv 1) xi)<|bc (sI (tq hr (xx (xv 3) xi)<|xv 2) (b1<|sQ G.Zi G.Zz ExcR.KW<|a1 xs) b0)<|b1<|sF 2<|sR<|xo Kx Ky (xo Kx Ky (xp (xv 0) o0<|o1<|xo K0 K4 (xv 1) xi)<|xL<|a1<|xt<|a2 (xv 2)<|xx (xv 3) xi)<|xp (xv 0) (o1<|xv 1) o0)) (.a ?_)
 ·rintro ds R X ⟨ps,p,h,rfl,hz,hR⟩;refine⟨rfl,?_⟩;unfold XO at hR;refine⟨ps,p,rfl,?_⟩;unfold BB;by_cases c:p<1\/(ps.length:Int)<p
  ·rw[WO c]at hR ⊢;exact hR
  ·rw[WN c]at hR ⊢;refine⟨h,rfl,?_⟩;unfold Sn;by_cases c2:1<=h/\h<=10
   ·rw[WN (λz=>z c2)]at hR;rw[WO c2];refine⟨_,Tz (by omega) (by omega),?_⟩;have l1:(cutD (ps.map prD) none<|some (p-1)).length<=1000:=by have:=(Nd (ps.map prD) none<|some (p-1)).length_le;rw[WG]at this;omega
    have l2:(cutD (ps.map prD) (some p) none).length<=1000:=by have:=(Nd (ps.map prD) (some p) none).length_le;rw[WG]at this;omega
    refine⟨_,rfl,Xm (λg=>?_) (λg=>?_)⟩
    ·have g':(Xw ps p).1=h:=WK g;rw[WO g']at hR;exact⟨by simp,hR⟩
    ·have g':¬(Xw ps p).1=h:=λz=>g (WI z);rw[WN g']at hR;refine⟨Ti _,_,rfl,by simp,by simp,rfl,rfl,WU (Qw l1<|WQ 1) (by decide),Ti _,rfl,rfl,WU (Qw (by rw[WR];exact Qw l1 (WQ 1)) l2) (by decide),?_⟩;have e:=O2 (ps:=ps) (p:=p) (x:=(h,(Xw ps p).2)) (by omega) (by omega);show R (.own (cutD (ps.map prD) none (some (p-1))++[prD (h,(Xw ps p).2)]++cutD (ps.map prD) (some p) none));rw[e];exact hR
   ·rw[WO c2]at hR;rw[WN c2];exact hR
def Zdr(DD:Def K mg "parted" Ck ["strips","place","width"])
  : ML ζ:=by
 refine DD.fy Zo7 (λhr n=>(bc (sE<|xg YB hr ExcR.XU<|a2 (xv 0)<|xv 1)<|bc (sS 3 n<|xx (xv 0)<|xo K0 K4 (xv 1) xi)<|bc (sI (tp<|wo (tc KS KN (xv 2) xi)<|wO<|tc NU NS (xv 2)<|xx (xv 3) xi) (b1<|sQ G.ZV G.ZU ExcR.KW<|a1 xs) b0)<|bc (sI (tc NU NS (xl G.len<|xv 0)<|xe (ExcR.Pn G.Zp) Xq) (b1<|sQ G.Zn G.Zm ExcR.KW<|a1<|xe (ExcR.Np<|ExcR.PB<|ExcR.NF (ExcR.Pn G.Zp)<|ExcR.PB ExcR.Nv)<|N9<|P6<|N6 Xq<|P6 NH) b0)<|b1<|sF 2<|sR<|xo Kx Ky (xo Kx Ky (xp (xv 0) o0<|o1<|xo K0 K4 (xv 1) xi)<|xL<|a2 (xt<|a2 (xx (xv 3) xi)<|xv 2)<|xt<|a2 (xx (xv 3) xi)<|xo K0 K4 (xx (xv 3) xi)<|xv 2)<|xp (xv 0) (o1<|xv 1) o0)) (.a ?_)
 ·rintro ds R X ⟨ps,p,w,rfl,hz,hR⟩;refine⟨rfl,?_⟩;have hl:(ps.map prD).length=ps.length:=WG ..;refine⟨ps,p,rfl,?_⟩;unfold Kq at hR;unfold BB;by_cases c:p<1\/(ps.length:Int)<p
  ·rw[WO c]at hR ⊢;exact hR
  ·rw[WN c]at hR ⊢;refine⟨_,Tz (by omega) (by omega),?_⟩
   have go:¬(w<1\/(Xw ps p).2<=w)->_:=λc2=>by
    rw[WN c2]at hR;exact hR
   by_cases c2:w<1\/(Xw ps p).2<=w
   ·rw[WO c2]at hR;refine Xm (λg=>Kg ⟨by simp,hR⟩) (λg=>⟨_,rfl,Xm (λg2=>⟨by simp,hR⟩) (λg2=>?_)⟩);have g':¬w<1:=λz=>g (WI z);have g2':¬(Xw ps p).2<=w:=λz=>g2 (WI z);omega
   ·rw[WN c2]at hR;refine Xm (λg=>absurd (WK g) (by omega)) (λg=>⟨_,rfl,Xm (λg2=>absurd (WK g2) (by omega)) (λg2=>?_)⟩);refine Xm (λg3=>?_) (λg3=>?_)
    ·have g3':(40:Int)<=((ps.map prD).length:Int):=WK g3;rw[WO (by omega)]at hR;exact⟨by decide,by decide,by decide,by decide,by decide,by simp,hR⟩
    ·have g3':¬(40:Int)<=((ps.map prD).length:Int):=λz=>g3 (WI z);rw[WN (by omega)]at hR;have l1:(cutD (ps.map prD) none<|some (p-1)).length<=1000:=by have:=(Nd (ps.map prD) none<|some (p-1)).length_le;rw[WG]at this;omega
     have l2:(cutD (ps.map prD) (some p) none).length<=1000:=by have:=(Nd (ps.map prD) (some p) none).length_le;rw[WG]at this;omega
     refine⟨Ti _,_,rfl,by simp,_,rfl,_,rfl,by simp,by simp,rfl,rfl,WU (Qw l1<|WQ 2) (by decide),Ti _,rfl,rfl,WU (Qw (by rw[WR];exact Qw l1 (WQ 2)) l2) (by decide),?_⟩;rw[←GO (by omega)]at hR;exact hR
def Zi7(DD:Def K mg "united" AF ["strips","place"])
  : Iu ζ:=by
 refine DD.fy Zcw (λhr n=>(bc (sE<|xg YR hr ExcR.XU<|a2 (xv 0)<|xv 1)<|bc (sS 2 n<|xx (xv 0)<|xo K0 K4 (xv 1) xi)<|bc (sS 3 n<|xx (xv 0)<|xv 1)<|bc (sI (tn hr (xx (xv 2) xi)<|xx (xv 3) xi) (b1<|sQ G.ZD G.ZC ExcR.KW<|a1 xs) b0)<|bc (sI (tc KF KA (xo XB XC (xx (xv 2) xi)<|xx (xv 3) xi)<|xe (ExcR.Pn G.Zq) Xq) (b1<|sQ G.ZX G.ZW ExcR.KW<|a1<|xe (ExcR.Np<|ExcR.PB<|ExcR.NF (ExcR.Pn G.Zq)<|ExcR.PB ExcR.Nv)<|N9<|P6<|N6 Xq<|P6 NH) b0)<|b1<|sR<|xo Kx Ky (xo Kx Ky (xp (xv 0) o0<|o1<|xo K0 K4 (xv 1) xi)<|xL<|a1<|xt<|a2 (xx (xv 2) xi)<|xo XB XC (xx (xv 2) xi)<|xx (xv 3) xi)<|xp (xv 0) (o1<|xo XB XC (xv 1) xi) o0)) (.a ?_)
 ·rintro ds R X ⟨ps,p,rfl,hz,hR⟩;refine⟨rfl,?_⟩;have hl:(ps.map prD).length=ps.length:=WG ..;refine⟨ps,p,rfl,?_⟩;unfold Kc at hR;by_cases c:p<1\/(ps.length:Int)<=p
  ·rw[WO c]at hR ⊢;exact hR
  ·rw[WN c]at hR ⊢
   have e2:atI (ps.map prD) p=some (prD<|Xw ps (p+1)):=by
    have:=Tz (ps:=ps) (p:=p+1) (by omega) (by omega)
    rwa[show p+1-1=p by omega]at this
   refine⟨_,Tz (by omega) (by omega),_,e2,_,rfl,_,rfl,Xm (λg=>?_) (λg=>?_)⟩
   ·have g':¬(Xw ps p).1=(Xw ps (p+1)).1:=λz=>by rw[WI z]at g;cases g
    rw[WO g']at hR;exact⟨by simp,hR⟩
   ·have g':(Xw ps p).1=(Xw ps (p+1)).1:=Qj λz=>g (by rw[Qv z];rfl);rw[WN (λz=>z g')]at hR;refine⟨_,rfl,_,rfl,Xm (λg2=>?_) (λg2=>?_)⟩
    ·rw[WO (WK g2)]at hR;exact⟨by decide,by decide,by decide,by decide,by decide,by simp,hR⟩
    ·rw[WN (λz=>g2 (WI z))]at hR;have l1:(cutD (ps.map prD) none<|some (p-1)).length<=1000:=by have:=(Nd (ps.map prD) none<|some (p-1)).length_le;rw[WG]at this;omega
     have l2:(cutD (ps.map prD) (some (p+1)) none).length<=1000:=by have:=(Nd (ps.map prD) (some (p+1)) none).length_le;rw[WG]at this;omega
     refine⟨Ti _,_,rfl,_,rfl,_,rfl,by simp,by simp,rfl,rfl,WU (Qw l1<|WQ 1) (by decide),Ti _,rfl,rfl,WU (Qw (by rw[WR];exact Qw l1 (WQ 1)) l2) (by decide),?_⟩;rw[←EH (by omega)]at hR;exact hR
def R6(DD:Def K mg "with_wish" Av ["wishes","ahead","behind"])
  : II ζ:=by
 refine DD.fy Znq (λhr n=>(bc (sE<|xg Y6 hr ExcR.XU<|a1<|xv 1)<|bc (sE<|xg Y6 hr ExcR.XU<|a1<|xv 2)<|bc (sI (tq hr (xv 1)<|xv 2) (b1<|sQ G.ZI G.ZH ExcR.KW<|a1 xs) b0)<|bc (sI (ti hr (xt<|a2 (xv 1)<|xv 2)<|xv 0) (b1<|sQ G.ZO G.ZN ExcR.KW<|a1 xs) b0)<|bc (sI (tc NU NS (xl G.len<|xv 0)<|xe (ExcR.Pn G.Zs) Xq) (b1<|sQ G.ZF G.ZE ExcR.KW<|a1<|xe (ExcR.Np<|ExcR.PB<|ExcR.NF (ExcR.Pn G.Zs)<|ExcR.PB ExcR.Nv)<|N9<|P6<|N6 Xq<|P6 NH) b0)<|b1<|sF 2<|sF 1<|sR<|xo Kx Ky (xv 0)<|xL<|a1<|xt<|a2 (xv 1)<|xv 2)) (.a ?_)
 ·rintro ds R X ⟨ws,a,b,rfl,hz,hR⟩;refine⟨rfl,?_⟩;have hl:(ws.map prD).length=ws.length:=WG ..;unfold Kd at hR;refine⟨a,rfl,?_⟩;unfold Sn;by_cases c1:1<=a/\a<=10
  ·rw[WN (λz=>z c1)]at hR;rw[WO c1];refine⟨b,rfl,?_⟩;unfold Sn;by_cases c2:1<=b/\b<=10
   ·rw[WN (λz=>z c2)]at hR;rw[WO c2];refine Xm (λg=>?_) (λg=>?_)
    ·rw[WO (WK g)]at hR;exact⟨by simp,hR⟩
    ·rw[WN (λz=>g (WI z))]at hR;refine⟨by simp,_,.lp (a,b) ws,Xm (λg2=>?_) (λg2=>?_)⟩
     ·rw[WO (WK g2)]at hR;exact⟨by simp,hR⟩
     ·rw[WN (λz=>g2 (WI z))]at hR;refine Xm (λg3=>?_) (λg3=>?_)
      ·have g3':(20:Int)<=((ws.map prD).length:Int):=WK g3;rw[WO (by omega)]at hR;exact⟨by decide,by decide,by decide,by decide,by decide,by simp,hR⟩
      ·have g3':¬(20:Int)<=((ws.map prD).length:Int):=λz=>g3 (WI z);rw[WN (by omega)]at hR;refine⟨by simp,by simp,Ti _,rfl,WU (Qw (WU (Vf hl) hz)<|WQ 1) (by decide),?_⟩;rw[Qc]at hR;exact hR
   ·rw[WO c2]at hR;rw[WN c2];exact hR
  ·rw[WO c1]at hR;rw[WN c1];exact hR
def Zlh(DD:Def K mg "pair_costs" Di ["strips"])
  : Ib ζ:=by
 refine DD.fz Lo (λhr n=>(bc (sS 1 n<|xf YA hr<|a1<|xv 0)<|bc (se (Pu.pz 2 Lo.nd Zco)<|Tr Zji<|Kt 2)<|bc (sF 1<|sO [3,4] Qd (iL<|xv 1) (gN 3)<|b1<|sF 1<|sO [4] Qd (iL<|xv 1) (gN 4)<|b1<|sF 4<|sF 3<|se (Af (PV<|hr ()) (pv 2) (P4<|bz (pv 3)<|pv 4) (fz YQ (hr ())<|dz (pv 0) (pv 3)<|pv 4) rfl)<|DF 2 (P0<|tz (Xi 3)<|Xi 4)<|Nc<|uz (Xi 0) (Xi 3)<|Xi 4)<|b1<|sV 2)) (.a ?_)
 ·rintro ds R X ⟨ps,rfl,hF,hz,hR⟩;refine⟨rfl,ps,rfl,hF,hz,?_⟩;have hh:=Tw ps;generalize Xp ps=hs at hh hR ⊢
  refine⟨rfl,K7 (xs:=hs) (emb:=D.int) (λi γ'=>∃kvs:List (List Key×V),γ'=[some (.bor<|.lst<|ps.map prD),some (.sh<|.lst<|hs.map D.int),some (.own<|.dT kvs),none,none]/\kvs.length<=i*10/\
   ∀x∈hs.take i,∀y∈hs,X0 kvs [.inl x,.inl y]=some (.int<|pcM ps x y ps.length)) ⟨[],rfl,by simp,by simp⟩ ?_ ?_⟩
  ·rintro i hi γ' ⟨kvs,rfl,hl,hv⟩
   refine⟨rfl,K7 (xs:=hs) (emb:=D.int) (λj γ'=>∃kvs:List (List Key×V),γ'=[some (.bor<|.lst<|ps.map prD),some (.sh<|.lst<|hs.map D.int),some (.own<|.dT kvs),some (.sh (.int hs[i])),none]/\kvs.length<=i*10+j/\
    (∀x∈hs.take i,∀y∈hs,X0 kvs [.inl x,.inl y]=some (.int<|pcM ps x y ps.length))/\∀y∈hs.take j,X0 kvs [.inl hs[i],.inl y]=some (.int (pcM ps hs[i] y ps.length))) ⟨kvs,rfl,by omega,hv,by simp⟩ ?_ ?_⟩
   ·rintro j hj γ' ⟨kvs,rfl,hl,hv,hw⟩;refine⟨ps,_,_,rfl,hF,by simp,_,_,rfl,rfl,by omega,_,rfl,WU (Fw _ _ _) (by omega),λx hx y hy=>?_,λy hy=>?_⟩
    ·rw[Fu];by_cases e:([.inl x,.inl y]:List Key)=[.inl hs[i],.inl hs[j]]
     ·rw[WO e];simp only[JA,Sum.inl.injEq,and_true]at e;rw[e.1,e.2]
     ·rw[WN e];exact hv x hx y hy
    ·rw[Fu];by_cases e:([.inl hs[i],.inl y]:List Key)=[.inl hs[i],.inl hs[j]]
     ·rw[WO e];simp only[JA,Sum.inl.injEq,and_true]at e;rw[e.2]
     ·rw[WN e];rw[WY hj,WV,WJ]at hy;rcases hy with hy|hy
      ·exact hw y hy
      ·subst hy;exact absurd rfl e
   ·rintro γ' ⟨kvs,rfl,hl,hv,hw⟩;rw[Qy]at hw;refine⟨kvs,rfl,by omega,λx hx y hy=>?_⟩;rw[WY hi,WV,WJ]at hx;rcases hx with hx|hx
    ·exact hv x hx y hy
    ·subst hx;exact hw y hy
  ·rintro γ' ⟨kvs,rfl,hl,hv⟩;rw[Qy]at hv;exact hR kvs hv
def Zd3(DD:Def K mg "cost_with_last" DS ["members","last","least","pairs"])
  : HI ζ:=by
 refine DD.fz Zeu (λhr n=>(bc (sS 4 n<|xf YV hr<|a2 (xv 0)<|xv 1)<|b1<|sF 1<|sR<|xo XB XC (xe (LO (PV<|hr ()) (pv 2) (pv 4) (λ_ _=>rfl))<|Il (Xi 2)<|Xi 4)<|xe (Ka (Zpn (K:=K) rfl) (by rfl) G.Yg boot_sum<|az<|cz ["other","pairs","last"] [none,some 3,some 1] (AI (K:=K)<|pv 4) ⟨(gk 0),Nm,(LO (PV<|hr ()) (pv 1) (P4<|bz (pv 0)<|pv 2) (λ_ _=>rfl))⟩)<|Zew<|sz<|To (SndI.c<|En<|Xi 4) (Kt 0) NV<|Il (Xi 1)<|P0<|tz (Xi 0)<|Xi 2)) (.a ?_)
 ·rintro ds R X ⟨ms,l,le,pa,c,v,rfl,hz,hv,hc,hR⟩;refine⟨rfl,?_⟩;rw[DL];have hz':(XZ ms l).length<=1000:=WU less_sub.length_le hz;refine⟨ms,l,rfl,hz,_,_,MQ _,hv,rfl,_,rfl,KM (s:=.sh .non) (xs:=XZ ms l) (emb:=D.int) (λm=>some (.int<|c m)) (by omega) (λm hm=>?_) ?_⟩
  ·exact⟨by simp,_,_,rfl,hc m hm,rfl,_,rfl,rfl⟩
  ·rw[Nw];exact⟨(XZ ms l).map c,by rw[QA];rfl,hR⟩
def Zka(DD:XA K (XF K (X5 ζ) "drop") "drop" "Village.drop" DQ ["self","ahead","behind"])
  : Ld ζ:=by
 refine DD.fy Rq (λhr n=>(bc (se (Pe<|Ke Y4 G.Za (hq<|hr ()) ExcR.XU<|pv 0)<|NN<|Sk Sv (Xi 0) X9)<|bc (sS 3 n<|xg YT hr ExcR.XU<|a3 (xe (Ke Y2 G.Za (hq<|hr ()) Ki<|pv 0)<|KJ Ni (Xi 0) X9) (xv 1)<|xv 2)<|b1<|sF 2<|sF 1<|sF 3<|se (Ks<|Tq Y5 G.Za (hq<|hr ()) Ki (pv 0)<|dz (P4<|dz TM (pv 1)<|pv 2) (Ke Y1 G.Za (hq<|hr ()) Ki<|pv 0)<|pv 3)<|PR<|Se 0 S8<|uz (P0<|uz Nl (Xi 1)<|Xi 2) (KJ Nf (Xi 0) X9)<|Xi 3)) (.c ?_)
 ·rintro o ss R X ⟨x,b1,b2,b3,bk,fs,ws,f,w,p,h,rfl,rfl,hb,hf,hw,hz,hR⟩;refine⟨rfl,?_⟩;unfold FF at hR;refine⟨rfl,rfl,bk,fs++[f],ws++[w],rfl,?_⟩;unfold Nx;by_cases c:100<=bk.length
  ·rw[WO c]at hR ⊢;exact⟨_,rfl,⟨rfl,by simp⟩,hR⟩
  ·rw[WN c]at hR ⊢;refine⟨rfl,rfl,bk,fs++[f],ws,w,rfl,w,p,h,rfl,hz,?_⟩;cases e:Kr w p h with
   |some c=>
    rw[e]at hR;exact⟨_,rfl,⟨rfl,by simp⟩,hR⟩
   |none=>
    rw[e]at hR;refine⟨rfl,rfl,by simp,rfl,rfl,bk,fs,ws++[w],f,rfl,?_⟩;exact⟨x,b1,b2,b3,bk,fs++[f],ws++[w],("drop",[p,h]),f,NO w p h,rfl,rfl,hb,by rw[WR];simp;omega,by rw[WR];simp;omega,_,rfl,⟨rfl,by simp⟩,hR⟩
def RA(DD:Def K mg "_law_draw" A8 ["_law_script","_law_k"])
  : IQ ζ:=by
 refine DD.fz Zo8 (λhr n=>(bc (sI (tq hr (xo X2 X3 (xf Yz hr<|a2 (xv 0) xi) xi) xi) (b1<|sR<|xf Yz hr<|a2 (xv 0)<|xo XB XC xi<|xv 1) b0)<|b1<|sR<|xf Y3 hr<|a2 (xf Yz hr<|a2 (xv 0) xi)<|xv 1)) (.a ?_)
 ·rintro ds R X ⟨ns,k,rfl,hk,hR⟩;refine⟨rfl,ns,0,rfl,by decide,(by show(0:Int)<2;decide),Xm (λ_=>?_) (λ_=>?_)⟩
  ·exact⟨ns,_,rfl,by omega,hR _⟩
  ·exact⟨ns,1,rfl,by decide,_,_,rfl,hR _⟩
def Zc4(DD:Def K mg "_law_spare" CZ ["_law_script"])
  : Hi ζ:=by
 refine DD.fz Zfl (λhr n=>(bc (sI (tq hr (xo X2 X3 (xf Yz hr<|a2 (xv 0) xi) xi) xi) (b1<|sR<|xo XI XH (xf Yz hr<|a2 (xv 0) xi) xi) b0)<|b1<|sR<|xf Y3 hr<|a2 (xf Yz hr<|a2 (xv 0) xi) xi)) (.a ?_)
 ·rintro ds R X ⟨ns,rfl,hR⟩;refine⟨rfl,?_⟩;exact⟨ns,0,rfl,by decide,(by show(0:Int)<2;decide),Xm (λ_=>⟨ns,0,rfl,by decide,⟨by decide,by decide⟩,hR _⟩) (λ_=>⟨ns,1,rfl,by decide,_,_,rfl,hR _⟩)⟩
def Zba(DD:Def K mg "_law_row" Cq ["_law_found","_law_due_here"])
  : M4 ζ:=by
 refine DD.fz Zek (λhr n=>(bc (sI (tp<|wo (tN<|tt<|xe (Ka (TY (K:=K)) (by rfl) G.Zb QG<|bz (pv 0)<|T1 (v:=.ty "list") rfl G.Zj boot_list rfl)<|Nb<|tz (Xi 0) T4)<|wO<|tn hr (xl G.len<|xv 0)<|xl G.len<|xv 1) (b1<|sR xb) b0)<|bc (sO [2] Qd (ir G.Zd<|a1<|xl G.len<|xv 1) (gN 2)<|b1<|sI (tp<|wo (tN<|tt<|xf Y7 hr<|a1<|xx (xv 0)<|xv 2)<|wO<|tn hr (xx (xv 0)<|xv 2)<|xx (xv 1)<|xv 2) (b1<|sR xb) b0)<|b1<|sR xb)) (.a ?_)
 ·rintro ds R X ⟨xs,rfl|rfl,hz,hR⟩;refine⟨rfl,?_⟩
  ·have hl:(xs.map D.int).length=xs.length:=WG ..;refine⟨_,.same _,X1 (Tj rfl ?_)⟩;refine⟨⟨by omega,by omega⟩,P1 (λi γ'=>γ'=[some (.bor<|.lst<|xs.map D.int),some (.bor<|.lst<|xs.map D.int),none]) rfl ?_ ?_⟩
   ·rintro i γ' hi rfl;have hi':i<(((xs.map D.int).length:Nat):Int).toNat:=hi;have ez:(0:Int)+(i:Int)=(i:Int):=by omega
    have hb:i<xs.length:=by omega
    have ha:atI (xs.map D.int) (0+(i:Int))=some (.int xs[i]):=by rw[ez];exact B7 hb
    exact⟨_,ha,_,rfl,X1 ⟨_,ha,_,ha,Tj rfl rfl⟩⟩
   ·rintro γ' rfl;exact hR
  ·refine⟨rfl,?_⟩;have hl:(xs.map D.int).length=xs.length:=WG ..;have hl2:((xs.length:Nat):Int)=(((xs.map D.int).length:Nat):Int):=by rw[hl]
   refine⟨_,.same _,X1 (Tj hl2 ?_)⟩;refine⟨⟨by omega,by omega⟩,P1 (λi γ'=>γ'=[some (.sh<|.fL xs),some (.bor<|.lst<|xs.map D.int),none]) rfl ?_ ?_⟩
   ·rintro i γ' hi rfl;have hi':i<(((xs.map D.int).length:Nat):Int).toNat:=hi;have ez:(0:Int)+(i:Int)=(i:Int):=by omega
    have hb:i<xs.length:=by omega
    have ha:atI (xs.map D.int) (0+(i:Int))=some (.int xs[i]):=by rw[ez];exact B7 hb
    have hc:atI xs (0+(i:Int))=some xs[i]:=by rw[ez];exact NM (WH hb)
    exact⟨_,hc,_,rfl,X1 ⟨_,hc,_,ha,Tj rfl rfl⟩⟩
   ·rintro γ' rfl;exact hR
def Zbz(DD:Def K mg "_law_tuples" Dl ["_law_found","_law_due_here"])
  : Hx ζ:=by
 refine DD.fz Zi9 (λhr n=>(bc (sI (tp<|wo (tN<|tt<|xe (Ka (TY (K:=K)) (by rfl) G.Zb QG<|bz (pv 0)<|T1 (v:=.ty "list") rfl G.Zj boot_list rfl)<|Nb<|tz (Xi 0) T4)<|wO<|tn hr (xl G.len<|xv 0)<|xl G.len<|xv 1) (b1<|sR xb) b0)<|bc (sO [2,3] Qd (ir G.Zd<|a1<|xl G.len<|xv 1) (gN 2)<|bc (sI (tp<|wo (tN<|tt<|xe (Ka (TY (K:=K)) (by rfl) G.Zb QG<|bz (jx K (pv 0)<|pv 2)<|T1 (v:=.ty "tuple") rfl G.ZA boot_tuple rfl)<|Nb<|tz (XM (Xi 0)<|Xi 2) T4)<|wO<|tn hr (xl G.len<|xx (xv 0)<|xv 2)<|xl G.len<|xx (xv 1)<|xv 2) (b1<|sR xb) b0)<|b1<|sO [3] Qd (ir G.Zd<|a1<|xl G.len<|xx (xv 1)<|xv 2) (gN 3)<|b1<|sI (tp<|wo (tN<|tt<|xf Y7 hr<|a1<|xx (xx (xv 0)<|xv 2)<|xv 3)<|wO<|tn hr (xx (xx (xv 0)<|xv 2)<|xv 3)<|xx (xx (xv 1)<|xv 2)<|xv 3) (b1<|sR xb) b0)<|b1<|sR xb)) (.a ?_)
 ·rintro ds R X ⟨ps,rfl,hz,hR⟩;refine⟨rfl,?_⟩;have hl:(ps.map prD).length=ps.length:=WG ..;refine⟨_,.same _,X1 (Tj rfl ?_)⟩;refine⟨⟨by omega,by omega⟩,P1 (λi γ'=>∃t,γ'=[some (.bor<|.lst<|ps.map prD),some (.bor<|.lst<|ps.map prD),none,t]) ⟨_,rfl⟩ ?_ ?_⟩
  ·rintro i γ' hi ⟨t,rfl⟩;have hi':i<(((ps.map prD).length:Nat):Int).toNat:=hi;have ez:(0:Int)+(i:Int)=(i:Int):=by omega
   have hb:i<ps.length:=by omega
   have ha:atI (ps.map prD) (0+(i:Int))=some (prD ps[i]):=by rw[ez];exact B7 hb
   generalize ps[i]=q at ha;refine⟨_,ha,_,.same _,X1 ⟨_,ha,_,ha,?_⟩⟩;refine⟨_,ha,⟨(by show -(2 ^ 62)<=(2:Int);decide),(by show(2:Int)<2 ^ 62;decide)⟩,P1 (λj γ'=>∃t,γ'=[some (.bor<|.lst<|ps.map prD),some (.bor<|.lst<|ps.map prD),some (.sh<|.int (0+(i:Int))),t]) ⟨_,rfl⟩ ?_ ?_⟩
   ·rintro j γ' hj ⟨t,rfl⟩;have hj2:j<2:=hj
    obtain⟨z,ea⟩:∃z:Int,atI [D.int q.1,D.int q.2] (0+(j:Int))=some (.int z):=by
     have:j=0\/j=1:=by omega
     rcases this with rfl|rfl
     ·exact⟨_,rfl⟩
     ·exact⟨_,rfl⟩
    exact⟨_,ha,_,ea,z,rfl,X1 ⟨_,ha,_,ea,_,ha,_,ea,Tj rfl ⟨_,rfl⟩⟩⟩
   ·rintro γ' ⟨t,rfl⟩;exact⟨_,rfl⟩
  ·rintro γ' ⟨t,rfl⟩;exact hR
def Znl(DD:Def K mg "_law_deed_is" EA ["_law_found","_law_due_here"])
  : Mp ζ:=by
 refine DD.fz Zaf (λhr n=>(bc (sI (tp<|wo (tN<|tt<|xe (Ka (TY (K:=K)) (by rfl) G.Zb QG<|bz (pv 0)<|T1 (v:=.ty "tuple") rfl G.ZA boot_tuple rfl)<|Nb<|tz (Xi 0) T4)<|wo (tn hr (xl G.len<|xv 0)<|xl G.len<|xv 1)<|wO<|tN<|tt<|xe (Ka (TY (K:=K)) (by rfl) G.Zb QG<|bz (jx K (pv 0) Xt)<|T1 (v:=.ty "str") rfl G.Yf boot_str rfl)<|Nb<|tz (XM (Xi 0) Xq) T4) (b1<|sR xb) b0)<|bc (sI (tn hr (xx (xv 0) xi)<|xx (xv 1) xi) (b1<|sR xb) b0)<|bc (sO [2] Qd (iR G.Zd<|a2 xi<|xl G.len<|xv 1) (gN 2)<|b1<|sI (tp<|wo (tN<|tt<|xf Y7 hr<|a1<|xx (xv 0)<|xv 2)<|wO<|tn hr (xx (xv 0)<|xv 2)<|xx (xv 1)<|xv 2) (b1<|sR xb) b0)<|b1<|sR xb)) (.a ?_)
 ·rintro ds R X ⟨q,rfl,hz,hR⟩;refine⟨rfl,?_⟩;have hl:(D.str q.1::q.2.map D.int).length=q.2.length+1:=by rw[Qi,WG]
  rw[Za1];show _;rw[Qn,FO];refine⟨_,.same _,X1 (Tj rfl ⟨_,Kp _ _,_,.same _,X1 ⟨_,Kp _ _,_,Kp _ _,Tj rfl ?_⟩⟩)⟩;refine⟨⟨by omega,by omega⟩,P1 (λi γ'=>γ'=[some (.sh<|dD q),some (.sh<|dD q),none]) rfl ?_ ?_⟩
  ·rintro i γ' hi rfl
   have hi':i<q.2.length:=by
    have:i<((((D.str q.1::q.2.map D.int).length:Nat):Int)-1).toNat:=hi
    omega
   exact⟨_,Dh hi',_,rfl,X1 ⟨_,Dh hi',_,Dh hi',Tj rfl rfl⟩⟩
  ·rintro γ' rfl;exact hR
def Zbr(DD:Def K mg "_law_best" Ac ["_law_strips","_law_wishes"])
  : GW ζ:=by
 refine DD.fz Ze6 (λhr n=>(bc (sS 2 n<|xL a0)<|bc (sO [3,4] Qd (iL<|xf Wc hr<|a1<|xf YC hr<|a1<|xv 0) (gN 3)<|b1<|sI (tt<|xf Wb hr<|a2 (xv 3)<|xv 1) (bc (sS 4 n<|xf Wa hr<|a2 (xv 0)<|xv 3)<|b1<|sI (tp<|wo (te (Pb (OD (K:=K)<|show _<cLine from(hr ()).units0) (pv 2) (K9 Km)<|KB _)<|KH<|Bo (Xi 2)<|KC X9)<|wO<|tc KS KN (xv 4)<|xx (xv 2) xi) (b1<|sF 3<|sF 4<|sS 2 n<|xL<|a2 (xv 4)<|xv 3) b0) b0)<|b1<|sV 2)) (.a ?_)
 ·rintro ds R X ⟨ps,ws,rfl,hF,hz,h5,hu,hN,hR⟩;refine⟨rfl,?_⟩;have nd:(Xp ps).Nodup:=(N4 ps).imp (λh=>JC h);have hin:∀z:Yl,z.Perm (Xp ps)->∀p∈ps,p.1∈z:=λz hz p hp=>hz.mem_iff.mpr ((MZ hF).mpr (Qp.mpr ⟨p,hp,rfl⟩))
  have pri:∀z:Yl,z.Perm (Xp ps)->oc (λx y=>pcM ps x y ps.length) z=Tc ps z ps.length:=λz hz=>by
   rw[IZ];refine IY (hz.nodup_iff.mpr nd) ps.length λj hj=>?_;rw[Qb,WH hj];exact hin z hz _ (Qf hj)
  refine⟨by simp,ps,rfl,hz,Xp ps,rfl,nd,h5,?_⟩;refine⟨rfl,K7 (xs:=XJ (Xp ps) (Xp ps).length) (emb:=ilD) (λi γ'=>∃b,γ'=[some (.bor<|.lst<|ps.map prD),some (.bor<|.lst<|ws.map prD),some (.own<|.lst<|BH ps b),none,none]/\Fnd (λq=>Tc ps q ps.length) (λq=>∀w∈ws,Pg q w=false) ((XJ (Xp ps) (Xp ps).length).take i) b) ⟨none,rfl,by simp[Fnd]⟩ ?_ ?_⟩
  ·rintro i hi γ' ⟨b,rfl,hb⟩;have hmem:=Qf hi;have hperm:=(Bw nd).mp hmem;have hts:(XJ (Xp ps) (Xp ps).length).take (i+1)=(XJ (Xp ps) (Xp ps).length).take i++[(XJ (Xp ps) (Xp ps).length)[i]]:=WY hi
   have hsl:∀x∈(XJ (Xp ps) (Xp ps).length).take i,sl x (XJ (Xp ps) (Xp ps).length)[i]:=λx hx=>by
    obtain⟨j,hj,rfl⟩:=Qt.mp hx;rw[Qm]at hj;rw[QT];exact Qo.mp (MR (N4 ps) _) j i (by omega) hi (by omega)
   rw[hts];generalize (XJ (Xp ps) (Xp ps).length)[i]=r at hmem hperm hsl ⊢;refine⟨r,ws,rfl,λg=>Kg ?_,λg=>X1 ⟨b,rfl,hb.no λz=>?_⟩⟩
   ·refine⟨ps,r,rfl,hF,hz,hin r hperm,?_⟩;refine⟨QY _,?_⟩;show if (BH ps b).isEmpty=true then _ else _;rw[Zkq];refine Xm (λk=>Kg ?_) (λk=>?_)
    ·have k':b=none:=WK k;subst k';exact⟨by simp,some r,rfl,hb.first g⟩
    ·cases b with
     |none=>exact absurd (WI rfl) k
     |some q=>exact⟨_,rfl,Xm (λl=>⟨by simp,some r,rfl,hb.less g (WK l)⟩) (λl=>⟨some q,rfl,hb.more (λz=>l (WI z)) hsl⟩)⟩
   ·obtain⟨w,hw,e⟩:=g;rw[z w hw]at e;cases e
  ·rintro γ' ⟨b,rfl,hb⟩;rw[Qy]at hb;obtain⟨o0,p0,k0⟩:=OP hu hN _ (Xp ps) rfl λ_ h=>h;cases b with
   |none=>exact absurd (CD k0) (hb o0 ((Bw nd).mpr p0))
   |some q=>
    obtain⟨q1,q2,q3⟩:=hb;have qp:=(Bw nd).mp q1
    have:=hR q ⟨qp,Zoh (qp.nodup_iff.mpr nd) q2,λp hp hk=>by
     unfold pcc;rw[pri q qp,pri p hp];exact(q3 p ((Bw nd).mpr hp)<|CD hk).1,λp hp hk e=>by
     unfold pcc at e;rw[pri q qp,pri p hp]at e;exact(q3 p ((Bw nd).mpr hp)<|CD hk).2 e⟩
    unfold pcc at this;rw[pri q qp]at this;exact this
def Zlm(DD:Def K mg "_law_step" Ai ["_law_now","_law_deed_here"])
  : Im ζ:=by
 refine DD.fz Zf8 (λhr n=>(bc (sI (tp<|wo (tq hr (xx (xv 1) xi) xs)<|wO<|tq hr (xx (xv 1) xi) xs) (bc (sF 1<|sS 2 n<|xe (fz We (hr ())<|bz (jx K (pv 0) Xt)<|pv 1)<|SA<|tz (XM (Xi 0) Xq)<|Xi 1)<|b1<|sR<|xL<|a3 (xx (xv 2) xi) (xx (xv 0) xi)<|xx (xv 2) xi) b0)<|bc (sF 1<|sS 2 n<|xe (fz YD (hr ())<|bz (jx K (pv 0) Xt)<|pv 1)<|SA<|tz (XM (Xi 0) Xq)<|Xi 1)<|b1<|sR<|xL<|a3 (xx (xv 2) xi) (xx (xv 2) xi)<|xx (xv 0) xi)) (.b ?_)
 ·rintro ds R X ⟨f,w,ds,x,rfl,hz,hw,hR⟩;refine⟨rfl,?_⟩;have at1:atI (plD f::plD w::ds) 1=some (plD w):=Sg (by decide) rfl
  have land:∀x:Dd,x.land=true->R (.own [.int (codeN<|x.err f w),plD (x.nf f w),plD (x.nw f w)])->R (.own [.int (codeN<|x.err f []),plD (x.fld' f),plD w]):=λx h k=>by
   have e:=x.err_land h f w [];have e2:x.wsh w=w:=by cases x<;>first|rfl|cases h
   unfold Dd.nf Dd.nw at k;rw[e2,e,ite_self]at k;unfold Dd.fld';exact k
  have wish:∀x:Dd,x.land=false->R (.own [.int (codeN<|x.err f w),plD (x.nf f w),plD (x.nw f w)])->R (.own [.int (codeN<|x.err [] w),plD f,plD (x.wsh' w)]):=λx h k=>by
   have e:=x.err_wish h f [] w;have e2:x.fld f=f:=by cases x<;>first|rfl|cases h
   unfold Dd.nf Dd.nw at k;rw[e2,e,ite_self]at k;unfold Dd.wsh';exact k
  cases x with
  |sell p h=>exact⟨_,rfl,_,rfl,_,Kp _ _,f,.sell p h,rfl,rfl,hz,_,rfl,_,rfl,_,at1,by simp,land _ rfl hR⟩
  |part p h=>exact⟨_,rfl,_,rfl,_,Kp _ _,f,.part p h,rfl,rfl,hz,_,rfl,_,rfl,_,at1,by simp,land _ rfl hR⟩
  |unite p=>exact⟨_,rfl,_,rfl,_,Kp _ _,f,.unite p,rfl,rfl,hz,_,rfl,_,rfl,_,at1,by simp,land _ rfl hR⟩
  |wish a b=>exact⟨_,rfl,_,at1,w,.wish a b,rfl,rfl,hw,_,rfl,_,Kp _ _,_,rfl,by simp,wish _ rfl hR⟩
  |drop a b=>exact⟨_,rfl,_,rfl,_,at1,w,.drop a b,rfl,rfl,hw,_,rfl,_,Kp _ _,_,rfl,by simp,wish _ rfl hR⟩
def Zoq(DD:Def K mg "_law_start" AU ["_law_script","_law_menu_here","_law_many"])
  : Oy ζ:=by
 refine DD.fz Zm8 (λhr n=>(bc (sS 3 n<|xf Yz hr<|a2 (xv 0) xi)<|bc (sS 4 n<|xL a0)<|bc (sO [5,6,7] Qd (ir G.Zd<|a1<|xv 2) (gN 5)<|bc (sF 3<|sS 6 n<|xv 3)<|bj (sI (tq hr (xo X2 X3 (xf Yz hr<|a2 (xv 0) xi) xi) xi) (b1<|sS 6 n<|xf Y3 hr<|a2 (xf Yz hr<|a2 (xv 0) xi)<|xo XB XC xi<|xv 5) b0)<|bc (sS 7 n<|xo XB XC (xx (xv 1) xi)<|xo X2 X3 (xo XI XH (xv 6)<|xx (xv 1) xi)<|xx (xv 1) xi)<|bc (sF 7<|sA 4<|xt<|a2 (xf Y0 hr<|a2 (xv 1)<|xo X2 X3 (xv 6)<|xx (xv 1) xi)<|xv 7)<|b1<|sS 3 n<|xo XI XH (xo XI XH (xv 3)<|xx (xv 1) xi)<|xx (xv 1) xi)<|b1<|sV 4)) (.a ?_)
 ·rintro ds R X ⟨ns,m,n,rfl,hM,h0,h1,hR⟩;refine⟨rfl,?_⟩;have hMM:=hM;obtain⟨a,b,c,d,e,rfl,ha,hb,hc,hd,he⟩:=hM;refine⟨ns,2,rfl,by decide,by simp,⟨by omega,by omega⟩,P1 (λi γ'=>∃(ps:Yk) (r:Int),γ'=[some (.bor<|.scr ns),some (.bor<|.lst (([a,b,c,d,e]:Yl).map D.int)),some (.sh<|.int n),some (.sh<|.int r),some (.own<|ps.map prD),none,none,none]/\Field ps/\ps.length=i) ⟨[],_,rfl,(λq hq=>by cases hq),rfl⟩ ?_ ?_⟩
  ·rintro i γ' hi ⟨ps,r,rfl,hF,hl⟩;have hlm:(ps.map prD).length=ps.length:=WG ..;have hi':i<n.toNat:=hi;refine TQ (λγ'=>∃(v:Int) (t:Option S),γ'=[some (.bor<|.scr ns),some (.bor<|.lst (([a,b,c,d,e]:Yl).map D.int)),some (.sh<|.int n),some (.sh<|.int r),some (.own<|ps.map prD),t,some (.sh<|.int v),none]) ?_ ?_
   ·refine⟨ns,0,rfl,by decide,(by show(0:Int)<2;decide),Xm (λ_=>?_) (λ_=>⟨_,_,rfl⟩)⟩;exact⟨ns,1,rfl,by decide,_,_,rfl,_,_,rfl⟩
   ·rintro γ' ⟨v,t,rfl⟩;have q1:=Int.emod_nonneg (v / a) (show d≠0 by omega);have q2:=JP (v / a) (show 0<d by omega);refine⟨_,rfl,_,rfl,⟨by omega,by omega⟩,_,rfl,(by show 0<d;omega),_,rfl,(by show 0<a;omega),[a,b,c,d,e],_,rfl,hMM,λh l1 l2 _=>⟨by simp,by omega,?_⟩⟩;refine⟨_,rfl,⟨by omega,by omega⟩,_,rfl,⟨by omega,by omega⟩,ps++[(h,e+v / a % d)],r / a / d,?_,λq hq=>?_,by rw[WR,hl];rfl⟩
    ·rw[Qc];rfl
    ·rcases WV.mp hq with hq|hq
     ·exact hF q hq
     ·rw[WJ]at hq;subst hq;exact⟨l1,l2,by show 1<=e+v / a % d;omega,by show e+v / a % d<=1000;omega⟩
  ·rintro γ' ⟨ps,r,rfl,hF,hl⟩;exact hR ps hF hl
def Znw(DD:Def K mg "_law_days" FU ["_law_script","_law_most"])
  : Hk ζ:=by
 refine DD.fz Zlk (λhr n=>(bc (sI (tq hr (xo X2 X3 (xf Yz hr<|a2 (xv 0) xi) xi) xi) (b1<|sR<|xe (AB (Cm (K:=K)) (pv 0) (Fm Xt)<|Fm<|PQ XB Xt<|pv 1)<|Zov (Xi 0) (BX Xq)<|BX<|XC Xq<|Xi 1) b0)<|b1<|sR<|xC ["_law_k","_law_script"] [none,some 0] (jI<|ir G.Zd<|a1<|xo X2 X3 (xf Yz hr<|a2 (xv 0) xi)<|xo XB XC (xv 1) xi) (gN 0) f0<|xf Y3 hr<|a2 (xf Yz hr<|a2 (xv 1) xi)<|xo XB XC xi<|xv 0)) (.a ?_)
 ·rintro ds R X ⟨ns,n,rfl,h0,h1,hR⟩;refine⟨rfl,ns,0,rfl,by decide,(by show(0:Int)<2;decide),Xm (λ_=>?_) (λ_=>?_)⟩
  ·refine hR _ ?_;unfold Pu.cutD;rw[Qm]
   have e3:HT.sIx ns.length 0 (some 3)=min 3 ns.length:=by
    rw[show(3:Int)=((3:Nat):Int) by rfl,HT.BQ]
   have e2:HT.sIx ns.length ns.length (some (3+n))=min (3+n).toNat ns.length:=by
    rw[show(3+n:Int)=(((3+n).toNat:Nat):Int) by omega,HT.BQ];rfl
   rw[e3,e2];omega
  ·refine⟨ns,2,rfl,by decide,(by show 0<n+1;omega),?_⟩;have q1:=Int.emod_nonneg (ns.getD (2:Int).toNat 0) (show n+1≠0 by omega);have q2:=JP (ns.getD (2:Int).toNat 0) (show 0<n+1 by omega);refine⟨⟨by omega,by omega⟩,Hh (λi=>some (.int<|mixP (ns.getD (1:Int).toNat 0) (200+(0+(i:Int))))) (by omega) (λi hi=>⟨ns,1,rfl,by decide,_,_,rfl,_,rfl,rfl⟩) ?_⟩
   have e:(List.range (ns.getD (2:Int).toNat 0 % (n+1)).toNat).filterMap (λi:Nat=>some (D.int<|mixP (ns.getD (1:Int).toNat 0) (200+(0+(i:Int)))))=((List.range (ns.getD (2:Int).toNat 0 % (n+1)).toNat).map λi:Nat=>mixP (ns.getD (1:Int).toNat 0) (200+(0+(i:Int)))).map D.int:=by
    rw[VG,QA];rfl
   rw[e];refine hR _ ?_;rw[WG,List.length_range];omega
def Zl1(DD:Def K mg "_law_pair" Ew ["_law_cell","_law_menu_here"])
  : Lk ζ:=by
 refine DD.fz Zpx (λhr n=>(bc (sS 2 n<|xx (xL<|ac xi<|ac (xx (xv 1) xi)<|ac (xx (xv 1) xi)<|ac (xx (xv 1) xi) a0)<|xo X2 X3 (xv 0) xi)<|bc (sS 3 n<|xo X2 X3 (xo XI XH (xv 0) xi)<|xv 2)<|bc (sS 4 n<|xo X2 X3 (xo XB XC (xo XB XC (xv 3) xi)<|xo X2 X3 (xo XI XH (xv 0) xi)<|xe (Ka (CN rfl) (by rfl) G.ZM boot_max<|bz Xt<|PQ K0 (pv 2) Xt)<|D1<|tz Xq<|K4 (Xi 2) Xq)<|xv 2)<|bc (sS 5 n<|xf Y8 hr<|a2 (xo XI XH (xv 0) xi)<|xf Y0 hr<|a2 (xv 1)<|xv 3)<|b1<|sF 5<|sR<|xt<|a2 (xv 5)<|xf Y8 hr<|a2 (xo XI XH (xv 0) xi)<|xf Y0 hr<|a2 (xv 1)<|xv 4)) (.a ?_)
 ·rintro ds R X ⟨c,m,rfl,hM,hR⟩;refine⟨rfl,?_⟩;have hMM:=hM;obtain⟨a,b,e,d,f,rfl,ha,hb,he,hd,hf⟩:=hM;have h4:0<=c % 4/\c % 4<4:=by omega
  obtain⟨pool,ep,hp⟩:∃p:Int,atI [D.int 10,.int a,.int a,.int a] (c % 4)=some (.int p)/\1<=p/\p<=10:=by
   have:c % 4=0\/c % 4=1\/c % 4=2\/c % 4=3:=by omega
   rcases this with e|e|e|e<;>rw[e]
   ·exact⟨10,rfl,by decide,by decide⟩
   ·exact⟨a,rfl,ha⟩
   ·exact⟨a,rfl,ha⟩
   ·exact⟨a,rfl,ha⟩
  have hmx:0<(if pool-1>1 then pool-1 else 1):=by split<;>omega
  refine⟨_,rfl,_,rfl,_,rfl,by simp,(by show(0:Int)<4;decide),_,ep,?_⟩;refine⟨⟨by decide,by decide⟩,(by show 0<pool;omega),⟨by decide,by decide⟩,hmx,(by show 0<pool;omega),?_⟩;refine⟨⟨by decide,by decide⟩,_,_,rfl,hMM,λh1 _ _ _=>⟨_,_,rfl,λv1=>?_⟩⟩;exact⟨⟨by decide,by decide⟩,_,_,rfl,hMM,λh2 _ _ _=>⟨_,_,rfl,λv2=>⟨by simp,hR v1 v2⟩⟩⟩
def Zjc(DD:Def K mg "_law_all_pairs" CL ["_law_menu_here","_law_cell"])
  : Mt ζ:=by
 refine DD.fz Zcy (λhr n=>(bc (sS 2 n<|xL a0)<|bc (sO [3] Qd (ir G.Zd<|a1<|xo T7 T9 (xo T7 T9 (xx (xv 0) xi)<|xx (xv 0) xi)<|xe (P5 DJ (by rfl) G.ZL boot_int<|az<|N1 (NA (K:=K)<|show _<cLine from(hr ()).units0) (PQ X2 (pv 1) Xt) Xt<|KB _)<|El<|sz<|Nu (X3 (Xi 1) Xq) Xq) (gN 3)<|b1<|sA 2<|xt<|a3 xs (xf Y0 hr<|a2 (xv 0)<|xo XI XH (xv 3)<|xx (xv 0) xi)<|xf Y0 hr<|a2 (xv 0)<|xo X2 X3 (xv 3)<|xx (xv 0) xi)<|b1<|sV 2)) (.a ?_)
 ·rintro ds R X ⟨m,c,rfl,hM,h4,hR⟩;refine⟨rfl,?_⟩;obtain⟨a0,a1,a2,a3,a4,em,ha,_⟩:=id hM;have i0:atI (m.map D.int) 0=some (.int a0):=by rw[em];rfl
  have ha4:a0<=4:=by
   obtain⟨a,t,e,h⟩:=h4;rw[em]at e;cases e
   exact h
  have sq:1<=a0*a0/\a0*a0<=16:=by
   have:a0=1\/a0=2\/a0=3\/a0=4:=by omega
   rcases this with rfl|rfl|rfl|rfl<;>decide
  refine⟨by simp,_,i0,_,i0,.inl ⟨by omega,by omega⟩,(by show(0:Int)<4;decide),?_⟩
  have key:∀u:Int,u=0\/u=1->0<=a0*a0*u/\a0*a0*u<=16:=λu hu=>by
   rcases hu with rfl|rfl
   ·rw[Int.mul_zero];decide
   ·rw[Int.mul_one];omega
  have hu:∀b:Bool,(if b=true then(1:Int)else 0)=0\/(if b=true then(1:Int)else 0)=1:=by decide
  have hk:=key _ (hu (if false=true then !decide (c % 4=1)else decide (c % 4=1)));refine⟨.inl ⟨by omega,by omega⟩,⟨by omega,by omega⟩,P1 (λi γ'=>∃qs:Yk,γ'=[some (.bor<|.lst<|m.map D.int),some (.sh<|.int c),some (.own (qs.map λq=>dD (Dd.wish q.1 q.2).q)),none]/\qs.length=i) ⟨[],rfl,rfl⟩ ?_ ?_⟩
  ·rintro i γ' hi ⟨qs,rfl,hl⟩;have hi':i<(a0*a0*(if (if false=true then !decide (c % 4=1)else decide (c % 4=1))=true then(1:Int)else 0)).toNat:=hi;refine⟨_,i0,⟨by show 0<a0;omega,by show a0<1073741824;omega⟩,m,_,rfl,hM,λu _ _ _=>⟨_,i0,(by show 0<a0;omega),m,_,rfl,hM,λv _ _ _=>⟨by simp,by rw[WG];omega,qs++[(u,v)],?_,by rw[WR,hl];rfl⟩⟩⟩;rw[Qc];rfl
  ·rintro γ' ⟨qs,rfl,hl⟩;exact hR qs (by omega)
def R0(DD:Def K mg "_law_buyer" CU ["_law_cell","_law_menu_here"])
  : Hv ζ:=by
 refine DD.fz Zfc (λhr n=>(bc (sI (tq hr (xo X2 X3 (xv 0) xi) xi) (b1<|sR<|xf Y8 hr<|a2 (xo XI XH (xv 0) xi)<|xo XB XC xi<|xo X2 X3 (xo XI XH (xv 0) xi) xi) b0)<|b1<|sR<|xf Y0 hr<|a2 (xv 1)<|xo X2 X3 (xo XI XH (xv 0) xi)<|xx (xv 1) xi)) (.a ?_)
 ·rintro ds R X ⟨c,m,rfl,hM,hR⟩;refine⟨rfl,?_⟩;obtain⟨a0,a1,a2,a3,a4,em,ha,_⟩:=id hM;have i0:atI (m.map D.int) 0=some (.int a0):=by rw[em];rfl
  refine⟨(by show(0:Int)<3;decide),Xm (λ_=>?_) (λ_=>?_)⟩
  ·exact⟨⟨by decide,by decide⟩,⟨by decide,by decide⟩,(by show(0:Int)<10;decide),_,_,rfl,hR⟩
  ·exact⟨⟨by decide,by decide⟩,_,i0,(by show 0<a0;omega),m,_,rfl,hM,λv _ _ _=>hR v⟩
def Zbv(DD:Def K mg "find_ring" E6 ["holders","wishes"])
  : Mi ζ:=by
 refine DD.fz Zls (λhr n=>(bc (sS 2 n<|xL a0)<|bc (sF 2<|sO [3,4] Qd (iL<|xe (Ka (F3 (K:=K) (w:=w) rfl) (by rfl) G.Zl boot_sorted<|az<|pv 0)<|FL<|sz<|Xi 0) (gN 3)<|bc (sS 4 n<|xf Wh hr<|a3 (xv 3) (xv 0)<|xv 1)<|b1<|sI (tp<|wa (tt<|xv 4)<|wA<|tp<|wo (tN<|tt<|xv 2)<|wO<|tc KS KN (xl G.len<|xv 4)<|xl G.len<|xv 2) (b1<|sF 4<|sS 2 n<|xv 4) b0)<|b1<|sF 2<|sV 2)) (.a ?_)
 ·rintro ds R X ⟨hs,ws,rfl,hnd,hz,hR⟩;refine⟨rfl,by simp,hs,rfl,by omega,λns hp hsrt=>?_⟩;have hlt:ns.Pairwise (· < ·):=Bc hsrt (hp.nodup_iff.mpr hnd);refine⟨rfl,K7 (xs:=ns) (emb:=D.int) (λi γ'=>∃r,γ'=[some (.bor<|.lst<|hs.map D.int),some (.bor<|.lst<|ws.map prD),some (.sh<|.lst<|r.map D.int),none,none]/\r.length<=60/\FRi hs ws (ns.take i) r) ⟨[],rfl,by simp,.inl ⟨rfl,λl hl=>by rw[QS]at hl;cases hl⟩⟩ ?_ ?_⟩
  ·rintro i hi γ' ⟨r,rfl,hrl,F⟩
   have hbef:∀m∈ns.take i,m<ns[i]:=λm hm=>by
    obtain⟨j,hj,e⟩:=Qt.mp hm;rw[Qm]at hj;rw[QT]at e;rw[←e];exact Qo.mp hlt j i (by omega) hi (by omega)
   rw[WY hi];generalize ns[i]=l at hbef ⊢;refine⟨l,hs,ws,rfl,hnd,hz,λf hf hfl=>?_⟩;have ef:(!(f.map D.int).isEmpty)=decide (f≠[]):=by cases f<;>simp
   have er:(!(r.map D.int).isEmpty)=decide (r≠[]):=by cases r<;>simp
   show if (!(f.map D.int).isEmpty)=true then _ else _;rw[ef];refine Xm (λg=>?_) (λg=>X1 ⟨r,rfl,hrl,F.keep hbef hf (.inl (Qj λz=>g (WI z)))⟩);have hfe:f≠[]:=WK g;show if (!(!(r.map D.int).isEmpty))=true then _ else _;rw[er];by_cases hre:r=[]
   ·rw[Qv (λz=>z hre)];exact Kg (Kg ⟨f,rfl,hfl,F.take hbef hf ⟨hfe,.inl hre⟩⟩)
   ·rw[WI hre];refine X1 ?_;show if decide (((f.map D.int).length:Int)<((r.map D.int).length:Int))=true then _ else _;rw[WG,WG];refine Xm (λg2=>?_) (λg2=>?_)
    ·have:=WK g2
     exact⟨f,rfl,hfl,F.take hbef hf ⟨hfe,.inr (by omega)⟩⟩
    ·have:¬(f.length:Int)<(r.length:Int):=λz=>g2 (WI z)
     exact⟨r,rfl,hrl,F.keep hbef hf (.inr ⟨hre,by omega⟩)⟩
  ·rintro γ' ⟨r,rfl,hrl,F⟩;rw[Qy]at F;exact hR r (F.all λz=>hp.mem_iff) hrl
def Zk8(DD:Def K mg "least_costs" Ao ["strips","wishes","pairs"])
  : G9 ζ:=by
 refine DD.fz Ij (λhr n=>(bc (se (Pu.pz 3 Ij.nd<|Zi6 (PV<|hr ()) (P4 Km) Xt)<|Tr (RW (P0 X9) Xq)<|Kt 3)<|bc (sO [4,5] Qd (iL<|xp (xf YU hr<|a1<|xf YA hr<|a1<|xv 0) (o1 xi) o0) (gN 4)<|bc (sC 5 ["holder","members","wishes"] [none,some 4,some 1] n (je (AI (K:=K)<|pv 4)<|SndI.c<|En<|Xi 4) (gN 0) (f1<|tt<|xf YW hr<|a3 (xv 1) (xv 0)<|xv 2)<|xv 0)<|b1<|se (Af (PV<|hr ()) (pv 3) (pv 4) (Ka (Zb1 (K:=K) rfl) (by rfl) G.Yb boot_min<|az<|cz ["last","members","least","pairs"] [none,some 4,some 3,some 2] (TB (K:=K)<|pv 5) ⟨(gk 0),Nm,(fz Wm (hr ())<|X7 (pv 1)<|X7 (pv 0)<|X7 (pv 2)<|X7 (pv 3) Km)⟩) rfl)<|DF 3 (Xi 4)<|Zkd<|sz<|To (Sa<|Xi 5) (Kt 0) NV<|Nc<|XN (Xi 1)<|XN (Xi 0)<|XN (Xi 2)<|XN (Xi 3) X9)<|b1<|sV 3)) (.a ?_)
 ·rintro ds R X ⟨ps,ws,pa,c,rfl,hF,hz,hw,hu,hc,hL,hR⟩;refine⟨rfl,by simp,_,_,rfl,rfl,?_⟩;refine⟨ps,rfl,hF,hz,_,rfl,Tw ps,?_⟩;have hh:=Tw ps;have nd:(Xp ps).Nodup:=(N4 ps).imp (λh=>JC h);generalize Xp ps=hs at hh nd hc hL hR ⊢;have hsl:=HN hs;have hsub:=Fh hs;have hbef:=Zit nd;have hsn:=Oi nd
  have hlen:(XG hs).length<=1024:=by
   rw[hsl];exact Nat.pow_le_pow_right (j:=10) (by decide) hh
  obtain⟨T,eT⟩:=Zmo hs;rw[eT]at hsub hbef hsn hlen hR ⊢;refine⟨rfl,rfl,?_⟩
  have ec:Pu.cutD (List.map tD ([]::T)) (some 1) none=T.map tD:=by
   rw[Nt,Bg _ (by decide)];rfl
  rw[ec];refine K7 (xs:=T) (emb:=tD) (λi γ'=>∃kvs:List (List Key×V),γ'=[some (.bor<|.lst<|ps.map prD),some (.bor<|.lst<|ws.map prD),some (.bor<|.dT pa),some (.own<|.dT kvs),none,none]/\Tab ws c ([]::T.take i) kvs) ⟨_,rfl,Zlo ws c⟩ ?_ ?_
  ·rintro i hi γ' ⟨kvs,rfl,ht⟩;have em:([]::T)[i+1]?=some T[i]:=by rw[QI,WH hi]
   have hmem:T[i]∈[]::T:=Qg em;have hsm:=hsub _ hmem;have hne:T[i]≠[]:=λe=>(Q3.mp hsn).1 (e▸Qf hi)
   have hnew:T[i]∉[]::T.take i:=λz=>by
    rcases Qa.mp z with z|z
    ·exact hne z
    ·obtain⟨j,hj,e⟩:=Qt.mp z;rw[Qm]at hj;rw[QT]at e;exact Qo.mp (Q3.mp hsn).2 j i (by omega) hi (by omega) e
   have hml:T[i].length<=10:=WU hsm.length_le hh
   have hless:∀l∈T[i],XZ T[i] l∈[]::T.take i:=λl hl=>by
    obtain⟨j,hj,e⟩:=hbef (i+1) _ em l hl
    have:([]::T.take i)=([]::T).take (i+1):=by rw[List.take_succ_cons]
    rw[this];refine Qg (i:=j) ?_;rw[Vg hj];exact e
   have ndm:T[i].Nodup:=nd.sublist hsm
   have hkl:kvs.length<=1024:=by
    have:=Q2 List.length ht.keys
    rw[WG,WG,Qi,Qm]at this;rw[Qi]at hlen;omega
   have etk:[]::T.take (i+1)=([]::T.take i)++[T[i]]:=by rw[WY hi];rfl
   rw[etk];generalize T[i]=ms at *;obtain⟨vs,hvs⟩:=Zgj λl hl=>ht.val _ (hless l hl);obtain⟨l0,hl0,hl0'⟩:=hL ms hsm hne;refine⟨_,rfl,KM (s:=.sh .non) (xs:=ms) (emb:=D.int) (λh=>if T8 ws ms h=true then some (.int h)else none) (by omega) (λh hm=>?_) ?_⟩
   ·refine⟨ms,h,ws,rfl,hw,?_⟩;refine Xm (λg=>⟨_,rfl,WO g⟩) (λg=>WN g)
   ·rw[Tg (λh=>T8 ws ms h)];refine KM (xs:=ms.filter (λh=>T8 ws ms h)) (emb:=D.int) (λl=>some (.int (vs l+((XZ ms l).map (c · l)).sum))) (WU (Ve _ _)<|by omega) (λl hl=>?_) ?_
    ·obtain⟨hl1,hl2⟩:=Q6.mp hl;exact⟨ms,l,kvs,pa,(c · l),vs l,rfl,by omega,(hvs l hl1).1,λm hm=>hc m (hsm.subset<|less_sub.subset hm) l (hsm.subset hl1),_,rfl,rfl⟩
    ·rw[Nw];refine⟨(ms.filter (λh=>T8 ws ms h)).map λl=>vs l+((XZ ms l).map (c · l)).sum,by rw[QA];rfl,?_,λM hM hle=>⟨_,_,MQ ms,rfl,by omega,_,rfl,ht.put hnew (Zk3 ndm hu (λl hl=>(hvs l hl).2) ?_ ?_)⟩⟩
     ·rw[WG];exact List.length_pos_of_mem (Q6.mpr ⟨hl0,lastM_iff.mpr hl0'⟩)
     ·obtain⟨l,hl,e⟩:=Qp.mp hM;obtain⟨hl1,hl2⟩:=Q6.mp hl;exact⟨l,hl1,hl2,e.symm⟩
     ·intro l hl hlast;exact hle _ (Qp.mpr ⟨l,Q6.mpr ⟨hl,hlast⟩,rfl⟩)
  ·rintro γ' ⟨kvs,rfl,ht⟩;rw[Qy]at ht;exact hR kvs ht
def Zap(DD:XA K (Mk K<|X5 ζ) "__init__" "Village.__init__" Cn ["self","strips"])
  : MT ζ:=by
 refine DD.fy Zl4 (λhr n=>(bc (sE<|xg Wg hr ExcR.XU<|a1<|xv 1)<|bc (se (Co (pv 0) (K9 Km) rfl)<|Dj 0 G.Za G.Zc RN<|KC X9)<|bc (se (Co (pv 0) (K9<|az<|P5 (B6 (K:=K)) (by rfl) G.Zj boot_list<|az<|pv 1) rfl)<|Dj 0 G.Za G.Ze Zpb<|KC<|sz<|Sr<|sz<|Xi 1)<|b1<|se (Co (pv 0) (K9<|az<|K9 Km) rfl)<|Dj 0 G.Za G.Zf Zli<|KC<|sz<|KC X9)) (.c ?_)
 ·rintro o ss R X ⟨x,ps,rfl,rfl,hz,hR⟩;refine⟨rfl,ps,rfl,hz,?_⟩;cases e:NL ps with
  |some c=>
   rw[e]at hR;exact⟨_,rfl,⟨rfl,by simp⟩,hR⟩
  |none=>
   rw[e]at hR;refine⟨by simp,rfl,rfl,by decide,λb1=>?_⟩;refine⟨rfl,by simp,rfl,rfl,by decide,λb2=>?_⟩;refine⟨by simp,by simp,rfl,rfl,by decide,λb3=>?_⟩;exact⟨_,rfl,⟨rfl,by simp⟩,hR b1 b2 b3⟩
def Zoj(DD:XA K (XF K (X5 ζ) "sell") "sell" "Village.sell" A7 ["self","place","holder"])
  : OO ζ:=by
 refine DD.fy Zou (λhr n=>(bc (se (Pe<|Ke Y4 G.Za (hq<|hr ()) ExcR.XU<|pv 0)<|NN<|Sk Sv (Xi 0) X9)<|bc (sS 3 n<|xg YF hr ExcR.XU<|a3 (xe (Ke Y1 G.Za (hq<|hr ()) Ki<|pv 0)<|KJ Nf (Xi 0) X9) (xv 1)<|xv 2)<|b1<|sF 2<|sF 1<|sF 3<|se (Ks<|Tq Y5 G.Za (hq<|hr ()) Ki (pv 0)<|dz (P4<|dz TM (pv 1)<|pv 2) (pv 3)<|Ke Y2 G.Za (hq<|hr ()) Ki<|pv 0)<|PR<|Se 0 S8<|uz (P0<|uz Nl (Xi 1)<|Xi 2) (Xi 3)<|KJ Ni (Xi 0) X9)) (.c ?_)
 ·rintro o ss R X ⟨x,b1,b2,b3,bk,fs,ws,f,w,p,h,rfl,rfl,hb,hf,hw,hz,hR⟩;refine⟨rfl,?_⟩;unfold BZ at hR;refine⟨rfl,rfl,bk,fs++[f],ws++[w],rfl,?_⟩;unfold Nx;by_cases c:100<=bk.length
  ·rw[WO c]at hR ⊢;exact⟨_,rfl,⟨rfl,by simp⟩,hR⟩
  ·rw[WN c]at hR ⊢;refine⟨rfl,rfl,bk,fs,ws++[w],f,rfl,f,p,h,rfl,hz,?_⟩;cases e:XO f p h with
   |some c=>
    rw[e]at hR;exact⟨_,rfl,⟨rfl,by simp⟩,hR⟩
   |none=>
    rw[e]at hR;refine⟨rfl,rfl,by simp,rfl,rfl,bk,fs++[f],ws,w,rfl,?_⟩;exact⟨x,b1,b2,b3,bk,fs++[f],ws++[w],("sell",[p,h]),X8 f p h,w,rfl,rfl,hb,by rw[WR];simp;omega,by rw[WR];simp;omega,_,rfl,⟨rfl,by simp⟩,hR⟩
def Zmg(DD:XA K (XF K (X5 ζ) "part") "part" "Village.part" D7 ["self","place","width"])
  : GZ ζ:=by
 refine DD.fy Zl7 (λhr n=>(bc (se (Pe<|Ke Y4 G.Za (hq<|hr ()) ExcR.XU<|pv 0)<|NN<|Sk Sv (Xi 0) X9)<|bc (sS 3 n<|xg Wi hr ExcR.XU<|a3 (xe (Ke Y1 G.Za (hq<|hr ()) Ki<|pv 0)<|KJ Nf (Xi 0) X9) (xv 1)<|xv 2)<|b1<|sF 2<|sF 1<|sF 3<|se (Ks<|Tq Y5 G.Za (hq<|hr ()) Ki (pv 0)<|dz (P4<|dz TM (pv 1)<|pv 2) (pv 3)<|Ke Y2 G.Za (hq<|hr ()) Ki<|pv 0)<|PR<|Se 0 S8<|uz (P0<|uz Nl (Xi 1)<|Xi 2) (Xi 3)<|KJ Ni (Xi 0) X9)) (.c ?_)
 ·rintro o ss R X ⟨x,b1,b2,b3,bk,fs,ws,f,w,p,h,rfl,rfl,hb,hf,hw,hz,hR⟩;refine⟨rfl,?_⟩;unfold FI at hR;refine⟨rfl,rfl,bk,fs++[f],ws++[w],rfl,?_⟩;unfold Nx;by_cases c:100<=bk.length
  ·rw[WO c]at hR ⊢;exact⟨_,rfl,⟨rfl,by simp⟩,hR⟩
  ·rw[WN c]at hR ⊢;refine⟨rfl,rfl,bk,fs,ws++[w],f,rfl,f,p,h,rfl,hz,?_⟩;cases e:Kq f p h with
   |some c=>
    rw[e]at hR;exact⟨_,rfl,⟨rfl,by simp⟩,hR⟩
   |none=>
    rw[e]at hR;refine⟨rfl,rfl,by simp,rfl,rfl,bk,fs++[f],ws,w,rfl,?_⟩;exact⟨x,b1,b2,b3,bk,fs++[f],ws++[w],("part",[p,h]),P3 f p h,w,rfl,rfl,hb,by rw[WR];simp;omega,by rw[WR];simp;omega,_,rfl,⟨rfl,by simp⟩,hR⟩
def Zk2(DD:XA K (XF K (X5 ζ) "unite") "unite" "Village.unite" CY ["self","place"])
  : GV ζ:=by
 refine DD.fy Zpz (λhr n=>(bc (se (Pe<|Ke Y4 G.Za (hq<|hr ()) ExcR.XU<|pv 0)<|NN<|Sk Sv (Xi 0) X9)<|bc (sS 2 n<|xg Wj hr ExcR.XU<|a2 (xe (Ke Y1 G.Za (hq<|hr ()) Ki<|pv 0)<|KJ Nf (Xi 0) X9)<|xv 1)<|b1<|sF 1<|sF 2<|se (Ks<|Tq Y5 G.Za (hq<|hr ()) Ki (pv 0)<|dz (P4<|bz TM<|pv 1) (pv 2)<|Ke Y2 G.Za (hq<|hr ()) Ki<|pv 0)<|PR<|Se 0 S8<|uz (P0<|tz Nl<|Xi 1) (Xi 2)<|KJ Ni (Xi 0) X9)) (.c ?_)
 ·rintro o ss R X ⟨x,b1,b2,b3,bk,fs,ws,f,w,p,rfl,rfl,hb,hf,hw,hz,hR⟩;refine⟨rfl,?_⟩;unfold Fj at hR;refine⟨rfl,rfl,bk,fs++[f],ws++[w],rfl,?_⟩;unfold Nx;by_cases c:100<=bk.length
  ·rw[WO c]at hR ⊢;exact⟨_,rfl,⟨rfl,by simp⟩,hR⟩
  ·rw[WN c]at hR ⊢;refine⟨rfl,rfl,bk,fs,ws++[w],f,rfl,f,p,rfl,hz,?_⟩;cases e:Kc f p with
   |some c=>
    rw[e]at hR;exact⟨_,rfl,⟨rfl,by simp⟩,hR⟩
   |none=>
    rw[e]at hR;refine⟨rfl,rfl,by simp,rfl,rfl,bk,fs++[f],ws,w,rfl,?_⟩;exact⟨x,b1,b2,b3,bk,fs++[f],ws++[w],("unite",[p]),PM f p,w,rfl,rfl,hb,by rw[WR];simp;omega,by rw[WR];simp;omega,_,rfl,⟨rfl,by simp⟩,hR⟩
def Zo9(DD:XA K (XF K (X5 ζ) "wish") "wish" "Village.wish" De ["self","ahead","behind"])
  : Rl ζ:=by
 refine DD.fy Zjk (λhr n=>(bc (se (Pe<|Ke Y4 G.Za (hq<|hr ()) ExcR.XU<|pv 0)<|NN<|Sk Sv (Xi 0) X9)<|bc (sS 3 n<|xg Wk hr ExcR.XU<|a3 (xe (Ke Y2 G.Za (hq<|hr ()) Ki<|pv 0)<|KJ Ni (Xi 0) X9) (xv 1)<|xv 2)<|b1<|sF 2<|sF 1<|sF 3<|se (Ks<|Tq Y5 G.Za (hq<|hr ()) Ki (pv 0)<|dz (P4<|dz TM (pv 1)<|pv 2) (Ke Y1 G.Za (hq<|hr ()) Ki<|pv 0)<|pv 3)<|PR<|Se 0 S8<|uz (P0<|uz Nl (Xi 1)<|Xi 2) (KJ Nf (Xi 0) X9)<|Xi 3)) (.c ?_)
 ·rintro o ss R X ⟨x,b1,b2,b3,bk,fs,ws,f,w,p,h,rfl,rfl,hb,hf,hw,hz,hR⟩;refine⟨rfl,?_⟩;unfold FJ at hR;refine⟨rfl,rfl,bk,fs++[f],ws++[w],rfl,?_⟩;unfold Nx;by_cases c:100<=bk.length
  ·rw[WO c]at hR ⊢;exact⟨_,rfl,⟨rfl,by simp⟩,hR⟩
  ·rw[WN c]at hR ⊢;refine⟨rfl,rfl,bk,fs++[f],ws,w,rfl,w,p,h,rfl,hz,?_⟩;cases e:Kd w p h with
   |some c=>
    rw[e]at hR;exact⟨_,rfl,⟨rfl,by simp⟩,hR⟩
   |none=>
    rw[e]at hR;refine⟨rfl,rfl,by simp,rfl,rfl,bk,fs,ws++[w],f,rfl,?_⟩;exact⟨x,b1,b2,b3,bk,fs++[f],ws++[w],("wish",[p,h]),f,w++[(p,h)],rfl,rfl,hb,by rw[WR];simp;omega,by rw[WR];simp;omega,_,rfl,⟨rfl,by simp⟩,hR⟩
def Zem(DD:Def K mg "_law_book_is" A4 ["_law_found","_law_due_here"])
  : EY ζ:=by
 refine DD.fz Zpv (λhr n=>(bc (sI (tp<|wo (tN<|tt<|xe (Ka (TY (K:=K)) (by rfl) G.Zb QG<|bz (pv 0)<|T1 (v:=.ty "list") rfl G.Zj boot_list rfl)<|Nb<|tz (Xi 0) T4)<|wO<|tn hr (xl G.len<|xv 0)<|xl G.len<|xv 1) (b1<|sR xb) b0)<|bc (sO [2] Qd (ir G.Zd<|a1<|xl G.len<|xv 1) (gN 2)<|b1<|sI (tN<|tt<|xf Wp hr<|a2 (xx (xv 0)<|xv 2)<|xx (xv 1)<|xv 2) (b1<|sR xb) b0)<|b1<|sR xb)) (.a ?_)
 ·rintro ds R X ⟨bk,rfl,hq,hz,hR⟩;refine⟨rfl,?_⟩;have hl:(bk.map dD).length=bk.length:=WG ..;refine⟨_,.same _,X1 (Tj rfl ?_)⟩;refine⟨⟨by omega,by omega⟩,P1 (λi γ'=>γ'=[some (.bor<|.lst<|bk.map dD),some (.bor<|.lst<|bk.map dD),none]) rfl ?_ ?_⟩
  ·rintro i γ' hi rfl;have hi':i<(((bk.map dD).length:Nat):Int).toNat:=hi;have ez:(0:Int)+(i:Int)=(i:Int):=by omega
   have hb:i<bk.length:=by omega
   have ha:atI (bk.map dD) (0+(i:Int))=some (dD bk[i]):=by rw[ez];exact B7 hb
   refine⟨_,ha,_,ha,bk[i],?_,hq _ (Qf hb),X1 rfl⟩;show[(arg (dD bk[i])).d,(arg (dD bk[i])).d]=_;rw[FO];rfl
  ·rintro γ' rfl;exact hR
def Zc8(DD:Def K mg "_law_opening" Eg ["_law_script","_law_menu_here"])
  : M7 ζ:=by
 refine DD.fz HS (λhr n=>(bc (sS 2 n<|xf Y3 hr<|a2 (xf Yz hr<|a2 (xv 0) xi) xi)<|bc (se (λ{_}=>(@Pu.pz _ _ _ _ _ _ 3 HS.nd (@OV _ _ _ _ _ _ _ (Gi (K:=K)) (@K9 _ _ _ _<|@X7 _ _ _ _ _ Xt (@X7 _ _ _ _ _ Xt (@X7 _ _ _ _ _ Xt (@X7 _ _ _ _ _ Xt (@X7 _ _ _ _ _ Xt (@X7 _ _ _ _ _ Xt (@X7 _ _ _ _ _ Xt (@X7 _ _ _ _ _ Xt (@X7 _ _ _ _ _ (jx K (pv 1) Xt) Km rfl) rfl) rfl) rfl) rfl) rfl) rfl) rfl) rfl) (PQ X2 (pv 2) Xt) (λ_ _=>rfl)) rfl (by first|exact Or.inl rfl|exact Or.inr rfl) rfl (by first|exact .inl rfl|exact .inr rfl|assumption)))<|Tr (XM (KC<|XN Xq<|XN Xq<|XN Xq<|XN Xq<|XN Xq<|XN Xq<|XN Xq<|XN Xq<|XN (XM (Xi 1) Xq) X9)<|X3 (Xi 2) Xq)<|Kt 3)<|bc (sS 4 n<|xL a0)<|bc (sO [5,6] Qd (ir G.Zd<|a1<|xv 3) (gN 5)<|bc (sS 6 n<|xf YK hr<|a2 (xf Y3 hr<|a2 (xv 2)<|xo XB XC xi<|xv 5)<|xv 1)<|bj (sI (tq hr (xo X2 X3 (xv 2) xi) xi) (b1<|sS 6 n<|xt<|a2 (xo XB XC xi<|xo X2 X3 (xo XB XC (xv 2)<|xv 5) xi)<|xo XB XC xi<|xo X2 X3 (xo XB XC (xo XB XC (xo XB XC (xv 2)<|xv 5) xi)<|xo XI XH (xv 5) xi) xi) b0)<|bj (sI (tq hr (xo X2 X3 (xv 2) xi) xi) (b1<|sS 6 n<|xt<|a2 (xf Y0 hr<|a2 (xv 1)<|xv 5)<|xf Y0 hr<|a2 (xv 1)<|xo X2 X3 (xo XB XC (xv 5) xi)<|xv 3) b0)<|b1<|sA 4<|xt<|a3 xs (xx (xv 6) xi)<|xx (xv 6) xi)<|b1<|sV 4)) (.a ?_)
 ·rintro ds R X ⟨ns,m,rfl,hM,hR⟩;refine⟨rfl,?_⟩;have hMM:=hM;obtain⟨a,b,c,d,e,rfl,ha,hb,hc,hd,he⟩:=hM;refine⟨ns,1,rfl,by decide,_,_,rfl,?_⟩;generalize mixP (ns.getD (1:Int).toNat 0) 300=sd;have h9:0<=sd % 9/\sd % 9<9:=by omega
  obtain⟨many,em,hm⟩:∃v:Int,atI ([0,1,2,3,4,6,9,24,a].map D.int) (sd % 9)=some (.int v)/\0<=v/\v<=24:=by
   refine⟨_,N7 (f:=D.int) (xs:=[0,1,2,3,4,6,9,24,a]) h9.1 h9.2,?_⟩
   have hall:∀v∈([0,1,2,3,4,6,9,24,a]:Yl),0<=v/\v<=24:=by
    intro v hv;simp at hv;rcases hv with rfl|rfl|rfl|rfl|rfl|rfl|rfl|rfl|rfl<;>omega
   exact hall _ (Qf _)
  refine⟨_,rfl,by simp,(by show(0:Int)<9;decide),_,em,by simp,⟨by omega,by omega⟩,?_⟩;refine P1 (λi γ'=>∃qs:Yk,qs.length=i/\γ'=[some (.bor<|.scr ns),some (.bor<|.lst (([a,b,c,d,e]:Yl).map D.int)),some (.sh<|.int sd),some (.sh<|.int many),some (.own (qs.map λq=>dD (Dd.wish q.1 q.2).q)),none,none]) ⟨[],rfl,rfl⟩ ?_ ?_
  ·rintro i γ' hi ⟨qs,hq,rfl⟩;have hi':i<many.toNat:=hi;have hlm:(qs.map λq=>dD (Dd.wish q.1 q.2).q).length=qs.length:=WG ..;refine⟨_,_,rfl,_,_,rfl,hMM,λp1 p2=>?_⟩;refine TQ (λγ'=>∃(x y:Int),γ'=[some (.bor<|.scr ns),some (.bor<|.lst (([a,b,c,d,e]:Yl).map D.int)),some (.sh<|.int sd),some (.sh<|.int many),some (.own (qs.map λq=>dD (Dd.wish q.1 q.2).q)),some (.sh<|.int (0+(i:Int))),some (.sh<|prD (x,y))]) ?_ ?_
   ·refine⟨(by show(0:Int)<9;decide),Xm (λ_=>?_) (λ_=>⟨p1,p2,rfl⟩)⟩;exact⟨(by show(0:Int)<10;decide),⟨by decide,by decide⟩,(by show(0:Int)<10;decide),by simp,_,_,rfl⟩
   ·rintro γ' ⟨p1,p2,rfl⟩;refine TQ (λγ'=>∃(x y:Int),γ'=[some (.bor<|.scr ns),some (.bor<|.lst (([a,b,c,d,e]:Yl).map D.int)),some (.sh<|.int sd),some (.sh<|.int many),some (.own (qs.map λq=>dD (Dd.wish q.1 q.2).q)),some (.sh<|.int (0+(i:Int))),some (.sh<|prD (x,y))]) ?_ ?_
    ·refine⟨(by show(0:Int)<9;decide),Xm (λ_=>?_) (λ_=>⟨p1,p2,rfl⟩)⟩;exact⟨_,_,rfl,hMM,λh1 _ _ _=>⟨(by show 0<many;omega),_,_,rfl,hMM,λh2 _ _ _=>⟨by simp,_,_,rfl⟩⟩⟩
    ·rintro γ' ⟨x,y,rfl⟩;refine⟨_,Kp _ _,_,G6 _ _ (.inr rfl),by simp,by omega,?_⟩;exact⟨qs++[(x,y)],by rw[WR,hq];rfl,by rw[Qc];rfl⟩
  ·rintro γ' ⟨qs,hq,rfl⟩;have hq':qs.length=many.toNat:=hq;exact hR qs (by omega)
def Zig(DD:Def K mg "_law_deed" Cj ["_law_cell","_law_menu_here","_law_now"])
  : L7 ζ:=by
 refine DD.fz Zne (λhr n=>(bc (sS 3 n<|xo X2 X3 (xv 0) xi)<|bc (sS 4 n<|xo XI XH (xv 0) xi)<|bc (sS 5 n<|xf YE hr<|a2 (xv 4)<|xx (xv 2) xi)<|bc (sS 6 n<|xo XI XH (xo XI XH (xv 4) xi)<|xe (Ka (CN rfl) (by rfl) G.ZM boot_max<|bz Xt<|ln K G.len<|jx K (pv 2) Xt)<|D1<|tz Xq<|B3<|sz<|XM (Xi 2) Xq)<|bc (sI (tc KS KN (xv 3) xi) (b1<|sF 5<|sR<|xt<|a3 xs (xv 5)<|xf Y8 hr<|a2 (xv 6)<|xf Y0 hr<|a2 (xv 1)<|xo X2 X3 (xo XI XH (xv 6) xi)<|xx (xv 1) xi) b0)<|bc (sI (tc KS KN (xv 3) xi) (b1<|sF 5<|sR<|xt<|a3 xs (xv 5)<|xf Wf hr<|a3 (xv 6) (xx (xv 2) xi)<|xv 5) b0)<|bc (sI (tq hr (xv 3) xi) (b1<|sF 5<|sR<|xt<|a2 xs<|xv 5) b0)<|bc (sS 7 n<|xf YK hr<|a2 (xv 4)<|xv 1)<|bj (sI (tp<|wa (tq hr (xv 3) xi)<|wa (tc KF KA (xo X2 X3 (xv 4) xi) xi)<|wA<|te (Pb (Ag (K:=K)<|show _<cLine from(hr ()).units0) (jx K (pv 2) Xt) (K9 Km)<|KB _)<|KH<|Bo (XM (Xi 2) Xq)<|KC X9) (b1<|sS 7 n<|xx (xx (xv 2) xi)<|xo X2 X3 (xo XI XH (xv 4) xi)<|xl G.len<|xx (xv 2) xi) b0)<|bc (sI (tc KS KN (xv 3) xi) (b1<|sR<|xt<|a3 (xx (xL<|a2 xs xs)<|xo XI XH (xv 3) xi) (xx (xv 7) xi)<|xx (xv 7) xi) b0)<|b1<|sR<|xt<|a1 xs)) (.a ?_)
 ·rintro ds R X ⟨c,m,f,w,es,rfl,hM,hz,hF,hw,hR,hB⟩;refine⟨rfl,?_⟩;have hMM:=hM;have at1:atI (plD f::plD w::es) 1=some (plD w):=Sg (by decide) rfl;have hl:(f.map prD).length=f.length:=WG ..;have hlw:(w.map prD).length=w.length:=WG ..;have hmx:∀z:Int,0<(if z>1 then z else 1)/\((if z>1 then z else 1)=z\/(if z>1 then z else 1)=1):=λz=>by split<;>omega
  have hm1:=hmx (((f.map prD).length:Nat):Int);refine⟨(by show(0:Int)<9;decide),⟨by decide,by decide⟩,_,Kp _ _,_,f,rfl,hz,λp=>?_⟩;refine⟨⟨by decide,by decide⟩,_,Kp _ _,⟨hm1.1,Int.lt_of_le_of_lt (b:=1000) (by rcases hm1.2 with w|w<;>rw[w]<;>omega) (by decide)⟩,?_⟩
  obtain⟨m0,m1,m2,m3,m4,em,ha,hb,hc,hd,he⟩:=hM;have i0:atI (m.map D.int) 0=some (.int m0):=by rw[em];rfl
  refine Xm (λ_=>?_) (λ_=>Xm (λ_=>?_) (λ_=>Xm (λ_=>?_) (λg4=>?_)))
  ·exact⟨⟨by decide,by decide⟩,_,i0,(by show 0<m0;omega),m,_,rfl,hMM,λh _ _ _=>⟨_,_,rfl,λv=>⟨by simp,hR (.sell p v)⟩⟩⟩
  ·exact⟨_,Kp _ _,_,f,p,rfl,hz,hF,λv=>⟨by simp,hR (.part p v)⟩⟩
  ·exact⟨by simp,hR (.unite p)⟩
  ·refine⟨_,m,rfl,hMM,λa b=>?_⟩;refine TQ (λγ'=>∃(a b:Int) (t1 t2 t3:Option S),γ'=[some (.sh<|.int c),some (.bor<|.lst<|m.map D.int),some (.bor<|.tup (plD f::plD w::es)),some (.sh<|.int (c % 9)),t1,t2,t3,some (.sh<|prD (a,b))]) ?_ ?_
   ·refine Xm (λ_=>⟨(by show(0:Int)<4;decide),Xm (λ_=>⟨_,at1,by simp,?_⟩) (λ_=>X1 ⟨a,b,_,_,_,rfl⟩)⟩) (λ_=>X1 ⟨a,b,_,_,_,rfl⟩);have emp:(w.map prD).isEmpty=decide (w=[]):=by cases w<;>simp
    show if (!(w.map prD).isEmpty)=true then _ else _;rw[emp];refine Xm (λg=>?_) (λg=>⟨a,b,_,_,_,rfl⟩);have hne:w≠[]:=λz=>by rw[WI z]at g;cases g
    have hp:0<w.length:=V9.mpr hne;have q1:=Int.emod_nonneg (c / 9 / 4) (show(((w.map prD).length:Nat):Int)≠0 by omega);have q2:=JP (c / 9 / 4) (show 0<(((w.map prD).length:Nat):Int) by omega);exact⟨_,at1,⟨by decide,by decide⟩,_,at1,(by show 0<(((w.map prD).length:Nat):Int);omega),_,N7 (f:=prD) (xs:=w) q1 (by omega),_,_,_,_,_,rfl⟩
   ·rintro γ' ⟨a,b,t1,t2,t3,rfl⟩;refine Xm (λg=>?_) (λg=>⟨by simp,hB⟩);have g':c % 9<8:=WK g;have hk:c % 9 / 7=0\/c % 9 / 7=1:=by omega
    have ex:∃k:Str,atI [D.str "wish",.str "drop"] (c % 9 / 7)=some (.str k)/\(k=("wish" : Str)\/k=("drop" : Str)):=by
     rcases hk with e|e<;>rw[e]
     ·exact⟨_,rfl,.inl rfl⟩
     ·exact⟨_,rfl,.inr rfl⟩
    obtain⟨k,ek,hk2⟩:=ex;refine⟨by simp,⟨by decide,by decide⟩,_,ek,_,Kp _ _,_,G6 _ _ (.inr rfl),by simp,?_⟩;rcases hk2 with rfl|rfl
    ·exact hR (.wish a b)
    ·exact hR (.drop a b)
def RU(DD:Def K mg "_law_due" Ad ["_law_now","_law_place_here","_law_holder_here"])
  : Ga ζ:=by
 refine DD.fz Zme (λhr n=>(bc (sF 2<|sF 1<|sS 3 n<|xe (fz YD (hr ())<|bz (jx K (pv 0) Xt)<|P4<|dz TM (pv 1)<|pv 2)<|SA<|tz (XM (Xi 0) Xq)<|P0<|uz Nl (Xi 1)<|Xi 2)<|bc (sI (tc KF KA (xx (xv 3) xi) xi) (b1<|sR<|xL<|a3 (xx (xv 3) xi) (xL a0) xi) b0)<|bc (sO [4,5] Qd (iL<|xL<|a2 (xx (xv 0) xi)<|xx (xv 3) xi) (gN 4)<|bc (sS 5 n<|xf Wd hr<|a2 (xf YC hr<|a1<|xv 4)<|xx (xv 0) xi)<|b1<|sI (te (Pb (Ag (K:=K)<|show _<cLine from(hr ()).units0) (pv 5) (K9 Km)<|KB _)<|KH<|Bo (Xi 5)<|KC X9) (b1<|sF 5<|sR<|xL<|a3 xi (xv 5) xi) b0)<|b1<|sR<|xL<|a3 xi (xL a0)<|xo K0 K4 (xx (xf YJ hr<|a2 (xx (xv 3) xi)<|xx (xv 0) xi) xi)<|xx (xf YJ hr<|a2 (xx (xv 0) xi)<|xx (xv 0) xi) xi)) (.b ?_)
 ·rintro ds R X ⟨f,w,es,p,h,rfl,hF,hz,hW,hE,hN⟩;refine⟨rfl,?_⟩;have hu:∀q∈w,q.1≠q.2:=λq hq=>(hW.2.2 q hq).2;have hw:=hW.1;have at1:atI (plD f::plD w::es) 1=some (plD w):=Sg (by decide) rfl;refine⟨_,Kp _ _,by simp,f,.sell p h,rfl,rfl,hz,_,rfl,?_⟩;cases he:XO f p h with
  |some e=>
   have ec:codeN (Dd.err f []<|.sell p h)=codeN (some e):=by
    show codeN (XO f p h)=_;rw[he]
   have hR:=hE e he;rw[←ec]at hR;refine Xm (λg=>⟨_,rfl,by simp,by simp,hR⟩) (λg=>?_)
   have:=Zni e
   rw[←ec]at this;exact absurd (WI this) g
  |none=>
   have ec:codeN (Dd.err f []<|.sell p h)=0:=by
    show codeN (XO f p h)=_;rw[he];rfl
   have ef:Dd.fld' f (.sell p h)=X8 f p h:=by
    unfold Dd.fld';rw[show Dd.err f [] (.sell p h)=none from he,WO rfl]
    rfl
   rw[ef];refine Xm (λg=>?_) (λg=>?_)
   ·have:=WK g
    omega
   obtain⟨h1,h2⟩:=hN he;have nd:=λg:Yk=>(N4 g).imp λh:_<_=>JC h;have hl:=Em f p h;have hF2:=D3 hF he;refine⟨_,Kp _ _,_,rfl,by simp,rfl,?_⟩;refine K7 (xs:=[f,X8 f p h]) (emb:=plD) (λi γ'=>γ'=[some (.sh<|.tup (plD f::plD w::es)),some (.sh<|.int p),some (.sh<|.int h),some (.own<|.lst [.int (codeN<|Dd.err f []<|.sell p h),plD (X8 f p h)]),none,none]/\(0<i->¬ ∃r,Ring (Xp f) w r)/\(1<i->¬ ∃r,Ring (Xp<|X8 f p h) w r)) ⟨rfl,λz=>absurd z (by decide),λz=>absurd z (by decide)⟩ ?_ ?_
   ·rintro i hi γ' ⟨rfl,k1,k2⟩
    have hi2:i=0\/i=1:=by
     have:i<2:=hi
     omega
    rcases hi2 with rfl|rfl
    ·obtain⟨r,hr⟩:=FR.ex (Xp f) w;have hl2:=Tw f;refine⟨f,rfl,by omega,_,at1,Xp f,w,r,rfl,nd f,by omega,hu,hw,hr,?_⟩;have er:(!(r.map D.int).isEmpty)=decide (r≠[]):=by cases r<;>simp
     refine⟨by simp,?_⟩;show if (!(r.map D.int).isEmpty)=true then _ else _;rw[er];refine Xm (λg=>⟨by simp,h1 r hr (WK g)⟩) (λg=>?_);have hN0:¬ ∃r,Ring (Xp f) w r:=(hr.none_iff hu).mp (Qj λz=>g (WI z));exact⟨rfl,λ_=>hN0,λz=>absurd z (by decide)⟩
    ·obtain⟨r,hr⟩:=FR.ex (Xp<|X8 f p h) w;have hl2:=Tw (X8 f p h);refine⟨X8 f p h,rfl,by omega,_,at1,Xp (X8 f p h),w,r,rfl,nd (X8 f p h),by omega,hu,hw,hr,?_⟩;have er:(!(r.map D.int).isEmpty)=decide (r≠[]):=by cases r<;>simp
     refine⟨by simp,?_⟩;show if (!(r.map D.int).isEmpty)=true then _ else _;rw[er];refine Xm (λg=>⟨by simp,(h2<|k1<|by decide).1 r hr (WK g)⟩) (λg=>?_);have hN0:¬ ∃r,Ring (Xp<|X8 f p h) w r:=(hr.none_iff hu).mp (Qj λz=>g (WI z));exact⟨rfl,λ_=>k1 (by decide),λ_=>hN0⟩
   ·rintro γ' ⟨rfl,k1,k2⟩;have n1:=k1 (Nat.succ_pos _);have n2:=k2 (Nat.succ_lt_succ<|Nat.succ_pos _);have hl3:=Tw f;have hl4:=Tw (X8 f p h);refine⟨by simp,_,rfl,_,at1,X8 f p h,w,rfl,hF2,by omega,by omega,hu,n2,λo2 hB2=>⟨_,rfl,?_⟩⟩;refine⟨_,Kp _ _,_,at1,f,w,rfl,hF,by omega,by omega,hu,n1,λo hB=>⟨_,rfl,by simp,(h2 n1).2 n2 o o2 hB hB2⟩⟩
def R9(DD:Def K mg "check_no_ring" Aw ["strips","wishes"])
  : Hc ζ:=by
 refine DD.fy RX (λhr n=>(bc (sS 2 n<|xf Wv hr<|a2 (xf YA hr<|a1<|xv 0)<|xv 1)<|b1<|sI (tt<|xv 2) (b1<|sF 2<|se (ExcR.Zaa YN (hq<|hr ()) G.Z9 ExcR.Rx rfl rfl<|az<|pv 2)<|Zf4<|sz<|Xi 2) b0)) (.a ?_)
 ·rintro ds R X ⟨ps,ws,rfl,hF,hz,hu,hX,hR⟩;refine⟨rfl,ps,rfl,hF,hz,_,ws,rfl,(N4 ps).imp (λh=>JC h),WU (Tw ps) (by decide),λr hr hl=>?_⟩;by_cases e:r=[]
  ·have hN:=(hr.none_iff hu).mp e;subst e;exact X1 (A:=False) (hR hN)
  ·have hx:=hX r hr e;refine Xm (λ_=>⟨r,rfl,hx⟩) (λg=>absurd g ?_);cases r with
   |nil=>exact absurd rfl e
   |cons a t=>simp
def Zjp(DD:Def K mg "_law_call" Au ["_law_village","_law_deed_here"])
  : Oz ζ:=by
 refine DD.fy Zgr (λhr n=>(bc (sI (tq hr (xx (xv 1) xi) xs) (b1<|se (Ks<|Tq Wy G.Za (hq<|hr ()) ExcR.XU (pv 0)<|bz (jx K (pv 1) Xt)<|jx K (pv 1) Xt)<|PR<|Ss 0 Zlg<|tz (XM (Xi 1) Xq)<|XM (Xi 1) Xq) b0)<|bc (sI (tq hr (xx (xv 1) xi) xs) (b1<|se (Ks<|Tq Wz G.Za (hq<|hr ()) ExcR.XU (pv 0)<|bz (jx K (pv 1) Xt)<|jx K (pv 1) Xt)<|PR<|Ss 0 RE<|tz (XM (Xi 1) Xq)<|XM (Xi 1) Xq) b0)<|bc (sI (tq hr (xx (xv 1) xi) xs) (b1<|se (Ks<|Tq W1 G.Za (hq<|hr ()) ExcR.XU (pv 0)<|az<|jx K (pv 1) Xt)<|PR<|Ss 0 Zep<|sz<|XM (Xi 1) Xq) b0)<|bc (sI (tq hr (xx (xv 1) xi) xs) (b1<|se (Ks<|Tq W2 G.Za (hq<|hr ()) ExcR.XU (pv 0)<|bz (jx K (pv 1) Xt)<|jx K (pv 1) Xt)<|PR<|Ss 0 Zcj<|tz (XM (Xi 1) Xq)<|XM (Xi 1) Xq) b0)<|b1<|se (Ks<|Tq Wn G.Za (hq<|hr ()) ExcR.XU (pv 0)<|bz (jx K (pv 1) Xt)<|jx K (pv 1) Xt)<|PR<|Ss 0 Zea<|tz (XM (Xi 1) Xq)<|XM (Xi 1) Xq)) (.c ?_)
 ·rintro o ss R X ⟨x,b1,b2,b3,bk,fs,ws,f,w,d,rfl,rfl,hb,hf,hw,hz,hy,hR⟩;refine⟨rfl,?_⟩;cases d with
  |sell p h=>
   refine⟨_,rfl,?_⟩;refine⟨rfl,rfl,_,rfl,_,rfl,x,b1,b2,b3,bk,fs,ws,f,w,p,h,rfl,rfl,hb,hf,hw,hz,?_⟩;have hR:Kk (BZ bk f p h) (X<|vO (ExcR.Xl mg "Village") x b1 b2 b3 bk (fs++[f]) (ws++[w])) (R (vO (ExcR.Xl mg "Village") x b1 b2 b3 (bk++[(Dd.sell p h).q]) (fs++[f]++[(Dd.sell p h).fld f]) (ws++[w]++[(Dd.sell p h).wsh w]))<|.int (bk.length+1)):=hR;cases e:BZ bk f p h with
   |some c=>rw[e]at hR;exact⟨_,rfl,⟨rfl,by simp⟩,hR⟩
   |none=>rw[e]at hR;exact⟨_,rfl,⟨rfl,by simp⟩,hR⟩
  |part p h=>
   refine⟨_,rfl,_,rfl,?_⟩;refine⟨rfl,rfl,_,rfl,_,rfl,x,b1,b2,b3,bk,fs,ws,f,w,p,h,rfl,rfl,hb,hf,hw,hz,?_⟩;have hR:Kk (FI bk f p h) (X<|vO (ExcR.Xl mg "Village") x b1 b2 b3 bk (fs++[f]) (ws++[w])) (R (vO (ExcR.Xl mg "Village") x b1 b2 b3 (bk++[(Dd.part p h).q]) (fs++[f]++[(Dd.part p h).fld f]) (ws++[w]++[(Dd.part p h).wsh w]))<|.int (bk.length+1)):=hR;cases e:FI bk f p h with
   |some c=>rw[e]at hR;exact⟨_,rfl,⟨rfl,by simp⟩,hR⟩
   |none=>rw[e]at hR;exact⟨_,rfl,⟨rfl,by simp⟩,hR⟩
  |unite p=>
   refine⟨_,rfl,_,rfl,_,rfl,?_⟩;refine⟨rfl,rfl,_,rfl,x,b1,b2,b3,bk,fs,ws,f,w,p,rfl,rfl,hb,hf,hw,hz,?_⟩;have hR:Kk (Fj bk f p) (X<|vO (ExcR.Xl mg "Village") x b1 b2 b3 bk (fs++[f]) (ws++[w])) (R (vO (ExcR.Xl mg "Village") x b1 b2 b3 (bk++[(Dd.unite p).q]) (fs++[f]++[(Dd.unite p).fld f]) (ws++[w]++[(Dd.unite p).wsh w]))<|.int (bk.length+1)):=hR;cases e:Fj bk f p with
   |some c=>rw[e]at hR;exact⟨_,rfl,⟨rfl,by simp⟩,hR⟩
   |none=>rw[e]at hR;exact⟨_,rfl,⟨rfl,by simp⟩,hR⟩
  |wish p h=>
   refine⟨_,rfl,_,rfl,_,rfl,_,rfl,?_⟩;refine⟨rfl,rfl,_,rfl,_,rfl,x,b1,b2,b3,bk,fs,ws,f,w,p,h,rfl,rfl,hb,hf,hw,hy,?_⟩;have hR:Kk (FJ bk w p h) (X<|vO (ExcR.Xl mg "Village") x b1 b2 b3 bk (fs++[f]) (ws++[w])) (R (vO (ExcR.Xl mg "Village") x b1 b2 b3 (bk++[(Dd.wish p h).q]) (fs++[f]++[(Dd.wish p h).fld f]) (ws++[w]++[(Dd.wish p h).wsh w]))<|.int (bk.length+1)):=hR;cases e:FJ bk w p h with
   |some c=>rw[e]at hR;exact⟨_,rfl,⟨rfl,by simp⟩,hR⟩
   |none=>rw[e]at hR;exact⟨_,rfl,⟨rfl,by simp⟩,hR⟩
  |drop p h=>
   refine⟨_,rfl,_,rfl,_,rfl,_,rfl,?_⟩;refine⟨rfl,rfl,_,rfl,_,rfl,x,b1,b2,b3,bk,fs,ws,f,w,p,h,rfl,rfl,hb,hf,hw,hy,?_⟩;have hR:Kk (FF bk w p h) (X<|vO (ExcR.Xl mg "Village") x b1 b2 b3 bk (fs++[f]) (ws++[w])) (R (vO (ExcR.Xl mg "Village") x b1 b2 b3 (bk++[(Dd.drop p h).q]) (fs++[f]++[(Dd.drop p h).fld f]) (ws++[w]++[(Dd.drop p h).wsh w]))<|.int (bk.length+1)):=hR;cases e:FF bk w p h with
   |some c=>rw[e]at hR;exact⟨_,rfl,⟨rfl,by simp⟩,hR⟩
   |none=>rw[e]at hR;exact⟨_,rfl,⟨rfl,by simp⟩,hR⟩
def Znu(DD:Def K mg "_law_stands" Cb ["_law_village","_law_past"])
  : Ln ζ:=by
 refine DD.fz Rz (λhr n=>(bc (sI (tN<|tt<|xf YI hr<|a2 (xe (Ke Y1 G.Za (hq<|hr ()) Ki<|pv 0)<|KJ Nf (Xi 0) X9)<|xx (xx (xv 1)<|xe (KP KU Xt)<|KR Xq) xi) (b1<|sR xb) b0)<|bc (sI (tN<|tt<|xf YI hr<|a2 (xe (Ke Y2 G.Za (hq<|hr ()) Ki<|pv 0)<|KJ Ni (Xi 0) X9)<|xx (xx (xv 1)<|xe (KP KU Xt)<|KR Xq) xi) (b1<|sR xb) b0)<|b1<|sR<|xf W3 hr<|a2 (xe (Ke YX G.Za (hq<|hr ()) Ki<|pv 0)<|KJ Zch (Xi 0) X9)<|xe (cz ["_law_one"] [none] (TB (K:=K)<|AB (Cm (K:=K)) (pv 1) (Fm Xt) Md) ⟨(gk 0),Nm,(jx K (pv 0) Xt)⟩)<|To (Zdn (Xi 1) (BX Xq) MB) (Kt 0) NV<|XM (Xi 0) Xq)) (.a ?_)
 ·rintro ds R X ⟨f0,hs,rfl,hz,hf,hw,hR⟩;refine⟨rfl,?_⟩;obtain⟨fs,ef,lf⟩:=F8 f0 hs;obtain⟨ws,ew,lw⟩:=BL hs;obtain⟨d,el⟩:=FN f0 hs;have h1:(Xz f0 hs).length<=1000:=hf _ (by rw[ef];simp);have h2:(XD hs).length<=1000:=hw _ (by rw[ew];simp);have lb:=BG hs
  have bq:∀q∈bkH hs,q.2.length<=100:=λq hq=>by
   unfold bkH at hq;obtain⟨h,_,rfl⟩:=Qp.mp hq
   have:=h.1.q_len
   omega
  have ec:cutD (XX f0 hs) (some 1) none=hs.map Su:=by
   rw[Bg _ (by decide)];rfl
  refine⟨rfl,rfl,bkH hs,fs,wsH hs,Xz f0 hs,by rw[←ef];rfl,?_⟩;refine⟨_,el,_,rfl,Xz f0 hs,rfl,by omega,X1 ?_⟩;refine⟨rfl,rfl,bkH hs,fsH f0 hs,ws,XD hs,by rw[←ew];rfl,?_⟩;refine⟨_,el,_,rfl,XD hs,rfl,by omega,X1 ?_⟩;refine⟨rfl,rfl,bkH hs,fsH f0 hs,wsH hs,rfl,?_⟩;show Sw _ _ _ _ _ (cutD (XX f0 hs) (some 1) none).length (λi=>arg ((cutD (XX f0 hs) (some 1) none).getD i .non)) _;rw[ec];refine Zbo (xs:=hs) (emb:=Su) (λh=>some (dD h.1.q)) (by omega) (λh _=>?_) ?_
  ·refine⟨_,rfl,_,?_,rfl⟩;show(arg<|dD h.1.q).shd=_;rw[FO];rfl
  ·rw[Nw (λh:Dd×Yk×Yk=>dD h.1.q)]
   have eb:hs.map (λh:Dd×Yk×Yk=>dD h.1.q)=(bkH hs).map dD:=by
    unfold bkH;rw[QA];rfl
   rw[eb];exact⟨bkH hs,rfl,bq,by omega,hR⟩
def Zb0(DD:Def K mg "cost_table" AD ["strips","wishes"])
  : MK ζ:=by
 refine DD.fy Zda (λhr n=>(bc (sE<|xg W7 hr ExcR.XU<|a2 (xv 0)<|xv 1)<|bc (sS 2 n<|xf Ww hr<|a3 (xv 0) (xv 1)<|xf Wl hr<|a1<|xv 0)<|b1<|sR<|xe (P5 (Zdz rfl) (by rfl) G.Zj boot_list<|X7 (Zoe (K:=K)<|pv 2) Km)<|Zhn<|Xi 2)) (.a ?_)
 ·rintro ds R X ⟨ps,ws,rfl,hF,hz,hw,hu,hX,hR⟩;refine⟨rfl,ps,ws,rfl,hF,hz,hu,hX,λhN=>?_⟩;have hR:=hR hN;refine⟨ps,rfl,hF,hz,λpa hpa=>⟨ps,ws,pa,pcc ps,rfl,hF,hz,hw,hu,hpa,Zkr hu hN,λkvs T=>?_⟩⟩;have nd:(Xp ps).Nodup:=(N4 ps).imp (λh=>JC h);obtain⟨vs,e,hv⟩:=T.vals (Oi nd);obtain⟨e1,e2⟩:=IL e;refine⟨kvs,rfl,e1,?_⟩;rw[e2];exact hR vs hv
def Zjz(DD:Def K mg "_law_go" E7 ["_law_village","_law_past","_law_deed_here"])
  : EU ζ:=by
 refine DD.fz HJ (λhr n=>(bc (sI (tq hr (xx (xv 2) xi) xs) (bj (sI (tc KF KA (xl G.len<|xv 1) xi) (bc (se (Pe<|Ke YY G.Za (hq<|hr ()) Du<|pv 0)<|N8<|Se 0 Znx X9)<|b1<|se (Pe<|SD Qx VN VO Fc<|pv 1)<|N8<|Zfo 1) b0)<|b1<|se (Ks Py)<|BR Pz) b0)<|bc (sF 2<|sS 3 n<|xe (fz Wq (hr ())<|bz (jx K (pv 1)<|KP KU Xt)<|pv 2)<|SA<|tz (XM (Xi 1)<|KR Xq)<|Xi 2)<|bc (sI (tc KF KA (xx (xv 3) xi) xi) (b1<|se (Ks Py)<|BR Pz) b0)<|bc (sF 2<|sA 1<|xt<|a3 (xx (xv 3) xi) (xx (xv 3) xi)<|xv 2)<|bc (sF 2<|se (Pu.pz 4 HJ.nd<|Cy W8 (hq<|hr ()) Du<|bz (pv 0)<|pv 2)<|Zk4 (Zf7 0<|sz<|Xi 2)<|Kt 4)<|b1<|se (Ks<|AS (fz Y7 (hr ())<|az<|pv 4)<|AY<|N1 (NA (K:=K)<|show _<cLine from(hr ()).units0) (pv 4) (PQ K0 (ln K G.len<|pv 1) Xt)<|KB _)<|BR<|Et (Nc<|sz<|Xi 4)<|Nu (Xi 4)<|K4 (B3<|sz<|Xi 1) Xq)) (.d ?_)
 ·rintro o1 o2 ss R X ⟨x,b1,b2,b3,a,f0,hs,q,rfl,rfl,rfl,hz,hf,hor⟩;refine⟨rfl,?_⟩;obtain⟨⟨h1,h2⟩,h3⟩:=hf.cur;rcases hor with⟨rfl,hR⟩|⟨d,rfl,hR⟩
  ·refine⟨_,rfl,?_⟩;refine TQ (λγ'=>∃t1 t2 t3:Option S,γ'=[some (.own<|vO (ExcR.Xl mg "Village") x b1 b2 b3 (bkH hs.dropLast) (fsH f0 hs.dropLast)<|wsH hs.dropLast),some (.own<|.lsA a<|XX f0 hs.dropLast),t1,t2,t3]) ?_ ?_
   ·rcases QX hs with rfl|⟨h,y,rfl⟩
    ·exact⟨_,_,_,rfl⟩
    ·rw[Vu,Vi];have lp':(XX f0 (h++[y])).length=h.length+2:=by rw[FT,WR,Vt]
     have g:(((XX f0 (h++[y])).length:Nat):Int)>1:=by omega
     have el:(XX f0 (h++[y]))[(XX f0 (h++[y])).length-1]?=some (Su y):=by
      rw[lp',Eh,Q1 (by rw[FT];omega),FT];rw[show h.length+2-1-(h.length+1)=0 by omega];rfl
     have ed:(XX f0 (h++[y])).dropLast=XX f0 h:=by rw[Eh,Vi]
     show if decide ((((XX f0 (h++[y])).length:Nat):Int)>1)=true then _ else _;rw[WI g];refine Kg ⟨rfl,rfl,x,b1,b2,b3,bkH (h++[y]),fsH f0 (h++[y]),wsH (h++[y]),rfl,rfl,by rw[Zbe,BG],by rw[Zen,BG],λe=>?_,λb0 q e=>?_⟩
     ·rw[CQ]at e;simp at e
     ·rw[CQ]at e;obtain⟨rfl,e2⟩:=List.append_inj' e rfl;cases e2
      rw[F0,Fe,Vi,Vi];refine⟨_,el,?_⟩;rw[ed];exact⟨_,_,_,rfl⟩
   ·rintro γ' ⟨t1,t2,t3,rfl⟩;exact⟨_,_,rfl,rfl,⟨rfl,by simp⟩,rfl,hR⟩
  ·obtain⟨fs,ef,lf⟩:=F8 f0 hs;obtain⟨ws,ew,lw⟩:=BL hs;obtain⟨dl,el⟩:=FN f0 hs;have lb:=BG hs;have lp:=FT f0 hs;have nb:=d.not_back;refine⟨_,Kp _ _,?_⟩;show if decide (d.q.1=("back" : Str))=true then _ else _;rw[Qv nb];refine X1 ⟨_,el,Xz f0 hs,XD hs,[dl],d,rfl,h2,h3.1,_,rfl,?_⟩;by_cases e:d.err (Xz f0 hs) (XD hs)=none
   ·have ea:Pk f0 hs d=hs++[(d,d.fld (Xz f0 hs),d.wsh (XD hs))]:=by unfold Pk;rw[WO e]
    rw[ea]at hR;rw[CQ,F0,Fe,Eh,ef,ew]at hR;show if decide (codeN (d.err (Xz f0 hs)<|XD hs)>0)=true then _ else _;rw[e];refine X1 ⟨_,rfl,_,rfl,by simp,by omega,?_⟩;refine⟨x,b1,b2,b3,bkH hs,fs,ws,Xz f0 hs,XD hs,d,by rw[←ef,←ew],rfl,by omega,by omega,by omega,by omega,by have:=h3.1;omega,?_⟩
    have ec:Dm (bkH hs) (Xz f0 hs) (XD hs) d=none:=by
     unfold Dm;rw[WN (by omega),e]
    have en:d.nf (Xz f0 hs) (XD hs)=d.fld (Xz f0 hs):=by unfold Dd.nf;rw[WO e]
    have ew':d.nw (Xz f0 hs) (XD hs)=d.wsh (XD hs):=by unfold Dd.nw;rw[WO e]
    rw[ec];have es:((((bkH hs).length:Nat):Int)+1=((((XX f0 hs++[D.tup [plD (d.nf (Xz f0 hs)<|XD hs),plD (d.nw (Xz f0 hs)<|XD hs),dD d.q]]).length:Nat)):Int)-1):=by rw[WR,Vt];omega
    refine⟨_,rfl,Kg ?_⟩;refine⟨_,_,rfl,rfl,⟨rfl,by simp⟩,rfl,?_⟩;rw[WI es,en,ew'];exact hR
   ·have ea:Pk f0 hs d=hs:=by unfold Pk;rw[WN e]
    rw[ea]at hR;show if decide (codeN (d.err (Xz f0 hs)<|XD hs)>0)=true then _ else _;rw[WI (Dd.code_pos e)];exact Kg ⟨_,_,rfl,rfl,⟨rfl,by simp⟩,rfl,hR⟩
def Zge(DD:Def K mg "least_cost" AE ["strips","wishes"])
  : MJ ζ:=by
 refine DD.fy Zcu (λhr n=>(b1<|sR<|xx (xg WA hr ExcR.XU<|a2 (xv 0)<|xv 1)<|xe (KP KU Xt)<|KR Xq)) (.a ?_)
 ·rintro ds R X ⟨ps,ws,rfl,hF,hz,hw,hu,hX,hR⟩;refine⟨rfl,ps,ws,rfl,hF,hz,hw,hu,hX,λhN vs hv=>?_⟩;have hR:=hR hN;have e1:=Zb8 (Xp ps);rw[List.getLast?_eq_getElem?]at e1;have hi:=(WZ.mp e1).1;have hl:=hv.1;obtain⟨v,h2⟩:∃v,vs[(XG<|Xp ps).length-1]?=some v:=⟨_,WH (by omega)⟩;have L:=hv.2 _ _ _ e1 h2;rw[←hl]at h2;exact⟨_,T5 (f:=D.int) (BM h2),hR _ L⟩
def Zbx(DD:XA K (XF K (X5 ζ) "cost") "cost" "Village.cost" Ax ["self"])
  : Gq ζ:=by
 refine DD.fy Zlz (λhr n=>(b1<|sR<|xg YM hr ExcR.XU<|a2 (xe (Ke Y1 G.Za (hq<|hr ()) Ki<|pv 0)<|KJ Nf (Xi 0) X9)<|xe (Ke Y2 G.Za (hq<|hr ()) Ki<|pv 0)<|KJ Ni (Xi 0) X9)) (.a ?_)
 ·rintro ds R X ⟨bk,fs,ws,f,w,rfl,hF,hz,hw,hu,hN,hR⟩;refine⟨rfl,?_⟩;exact⟨rfl,rfl,bk,fs,ws++[w],f,rfl,rfl,rfl,bk,fs++[f],ws,w,rfl,f,w,rfl,hF,hz,hw,hu,hN,hR⟩
def Zd5(DD:XA K (XF K (X5 ζ) "offer") "offer" "Village.offer" DZ ["self","place","holder"])
  : Hs ζ:=by
 refine DD.fy Zcv (λhr n=>(bc (sS 3 n<|xg YF hr ExcR.XU<|a3 (xe (Ke Y1 G.Za (hq<|hr ()) Ki<|pv 0)<|KJ Nf (Xi 0) X9) (xv 1)<|xv 2)<|bc (sS 4 n<|xe (Ke WB G.Za (hq<|hr ()) ExcR.XU<|pv 0)<|Sk Zdd (Xi 0) X9)<|b1<|sR<|xo K0 K4 (xg YM hr ExcR.XU<|a2 (xv 3)<|xe (Ke Y2 G.Za (hq<|hr ()) Ki<|pv 0)<|KJ Ni (Xi 0) X9)<|xv 4)) (.a ?_)
 ·rintro ds R X ⟨bk,fs,ws,f,w,p,h,rfl,hF,hz,hw,hu,hR⟩;refine⟨rfl,rfl,rfl,bk,fs,ws++[w],f,rfl,?_⟩;refine⟨f,p,h,rfl,by omega,?_⟩;cases hE:XO f p h with
  |some c=>rw[hE]at hR;exact hR
  |none=>
   rw[hE]at hR;obtain⟨hX,hR⟩:=(show PY _ _ _ _ from hR)
   have hl:=Em f p h;have hF2:=D3 hF hE;refine⟨rfl,rfl,bk,fs,ws,f,w,rfl,hF,by omega,hw,hu,hX,λhN u h1=>?_⟩;exact⟨rfl,rfl,bk,fs++[f],ws,w,rfl,X8 f p h,w,rfl,hF2,by omega,hw,hu,hR hN u h1⟩
def Zk5(DD:Def K mg "_law_offered" Aa ["_law_village","_law_place_here","_law_holder_here"])
  : HM ζ:=by
 refine DD.fz Nq (λhr n=>(bc (sS 3 n xi)<|bc (sS 4 n<|xL<|a1 xb)<|bc (sS 5 n<|xL a0)<|bj (se (ExcR.Zgv (λpins D=>(Na<|Pu.pz 3 Nq.nd<|Zh6 WC G.Za (hq<|hr ()) (ExcR.Zgp (pins:=pins) (D:=D) rfl rfl<|ExcR.IX (i:=6) Nq.nd rfl rfl rfl G.Z9 (by decide) (λa=>(HW (Pu.pz 4 Nq.nd<|K9<|X7 (Ka (ExcR.Bz (K:=K)) (by rfl) G.Zb QG<|bz (pv 6)<|ExcR.FC G.Zt)<|X7 Py<|X7 Py<|X7 Py<|X7 Py Km)<|Na<|Pu.pz 5 Nq.nd<|ExcR.Zh9 (pv 6)<|by rfl))<|ExcR.IX (i:=6) Nq.nd rfl rfl rfl G.Zt (by decide) (λa=>(Na<|Pu.pz 4 Nq.nd<|K9<|X7 (Ka (ExcR.Bz (K:=K)) (by rfl) G.Zb QG<|bz (pv 6)<|T1 (v:=.ty "ValueError") rfl G.ZP (by decide +kernel) rfl)<|X7 (Ka (ExcR.Bz (K:=K)) (by rfl) G.Zb QG<|bz (pv 6)<|ExcR.FC G.Zo)<|X7 (Ka (ExcR.Bz (K:=K)) (by rfl) G.Zb QG<|bz (pv 6)<|ExcR.FC G.Zu)<|X7 (Ka (ExcR.Bz (K:=K)) (by rfl) G.Zb QG<|bz (pv 6)<|ExcR.FC G.Zz)<|X7 Py Km)) ExcR.Zo6) (pv 0)<|bz (pv 1)<|pv 2)))<|RZ (E':=λ_=>E0) ["NoStrip","BadHolder","OwnStrip"] ["Ringed","MeldError"] (G.ex.sub (by decide)<|by decide) (.cons (Ra (Tr (KC<|XN (Bq<|tz (Xi 6) BS)<|XN Pz<|XN Pz<|XN Pz<|XN Pz X9)<|Kt 4)<|Tr (Zaj G.Zr<|Xi 6)<|Kt 5) (.cons (Tr (KC<|XN (Bq<|tz (Xi 6) T4)<|XN (Bq<|tz (Xi 6) BS)<|XN (Bq<|tz (Xi 6) BS)<|XN (Bq<|tz (Xi 6) BS)<|XN Pz X9)<|Kt 4)
    .nil)) (λD=>(Tr (EF Zo5 (Xi 0)<|tz (Xi 1)<|Xi 2)<|Kt 3)))<|b1<|sF 5<|sF 4<|sF 3<|sR<|xt<|a3 (xv 3) (xv 4)<|xv 5)) (.a ?_)
 ·rintro ds R X ⟨bk,fs,ws,f,w,p,h,rfl,hF,hz,hw,hu,hE,hN⟩;refine⟨rfl,by simp,by simp,TQ (λγ'=>∃(v:Int) (ks:List D) (s5:S),γ'=[some (.bor<|Tv (ExcR.Xl mg "Village") bk (fs++[f]) (ws++[w])),some (.sh<|.int p),some (.sh<|.int h),some (.sh<|.int v),some (.own<|.lst ks),some s5,none]/\(s5=.own (.lst [])/\R (.sh<|.tup [.int v,.lst ks,.lst []])\/∃r,s5=.sh (.fL r)/\R (.sh<|.tup [.int v,.lst ks,.fL r]))) ?_ ?_⟩
  ·refine⟨rfl,rfl,bk,fs,ws,f,w,p,h,rfl,hF,hz,hw,hu,?_⟩;cases he:XO f p h with
   |some e=>
    have hR:=hE e he;rcases Iv he with rfl|rfl|rfl
    ·exact .inl ⟨by simp,_,G.Zh,G.Z1,_,G.Zh,G.Z8,_,G.Zh,G.Z4,_,G.Zh,G.Z6,by simp,_,_,_,rfl,.inl ⟨rfl,hR⟩⟩
    ·exact .inl ⟨by simp,_,G.Zg,G.Zv,_,G.Zg,G.Z3,_,G.Zg,G.Zw,_,G.Zg,G.Z0,by simp,_,_,_,rfl,.inl ⟨rfl,hR⟩⟩
    ·exact .inl ⟨by simp,_,G.Zi,G.Zx,_,G.Zi,G.Z7,_,G.Zi,G.Z2,_,G.Zi,G.Z5,by simp,_,_,_,rfl,.inl ⟨rfl,hR⟩⟩
   |none=>
    obtain⟨hX,hA⟩:=(show PY _ _ _ _ from hN he)
    refine⟨λr h n=>.inr ⟨r,rfl,_,G.Zr.elim λg c=>c.any,G.Zk,by simp,rfl,_,_,_,rfl,.inr ⟨r,rfl,hX r h n r rfl⟩⟩,λhN1 u h1=>?_⟩;obtain⟨hX2,hA2⟩:=(show PY _ _ _ _ from hA hN1 u h1)
    exact⟨λr h n=>.inr ⟨r,rfl,_,G.Zr.elim λg c=>c.any,G.Zk,by simp,rfl,_,_,_,rfl,.inr ⟨r,rfl,hX2 r h n r rfl⟩⟩,λhN2 v h2=>⟨_,_,_,rfl,.inl ⟨rfl,hA2 hN2 v h2⟩⟩⟩
  ·rintro γ' ⟨v,ks,s5,rfl,c⟩;rcases c with⟨rfl,k⟩|⟨r,rfl,k⟩
   ·exact⟨by simp,k⟩
   ·exact⟨by simp,k⟩
def Zpg(DD:Def K mg "law" Th ["_law_script"])
  : Zkf ζ:=by
 refine DD.fz Zn3 (λhr n=>(bc (sS 1 n<|xf YZ hr<|a1<|xf Wo hr<|a2 (xv 0) xi)<|bc (sX 1 xi<|xo XB XC xi<|xo X2 X3 (xx (xv 1) xi) xi)<|bc (sS 2 n<|xf Wr hr<|a3 (xv 0) (xv 1)<|xo X2 X3 (xo XI XH (xf Yz hr<|a2 (xv 0) xi) xi) xi)<|bc (sS 3 n<|xe (Zm3 Wx G.ZY (hq<|hr ()) Du<|az<|P5 (B6 (K:=K)) (by rfl) G.Zj boot_list<|az<|pv 2)<|Zpw<|sz<|Sr<|sz<|Xi 2)<|bc (sF 2<|sS 4 n<|xL<|a1<|xt<|a3 (xv 2) (xL a0)<|xt a0)<|bc (sN 4<|sO [5] Qd (iL<|xe (PQ Kx (fz W4 (hr ())<|bz (pv 0)<|pv 1)<|fz Wt (hr ())<|bz (pv 1)<|PQ XI (fz YG (hr ())<|az<|pv 0) Xt)<|Ky (Nc<|tz (Xi 0)<|Xi 1)<|Nc<|tz (Xi 1)<|XH (Nc<|sz<|Xi 0) Xq) (gN 5)<|b1<|sF 5<|sN 4<|se (Dg (A9<|Ee (K:=K)<|fz YL (hr ())<|dz (pv 3) (pv 4)<|pv 5) (Na<|Ks Py)
   FZ)<|Rc (Re<|Ma<|Mj 3 4 (by decide)<|sz<|Xi 5) (E4 Pz) An)<|bc (sO [6] Qd (iL<|xf Ws hr<|a2 (xv 0) xi) (gN 6)<|b1<|sN 4<|se (Dg (A9<|Ee (K:=K)<|fz YL (hr ())<|dz (pv 3) (pv 4)<|fz W5 (hr ())<|dz (pv 6) (pv 1)<|jx K (pv 4)<|KP KU Xt) (Na<|Ks Py)
   FZ)<|Rc (Re<|Ma<|Mj 3 4 (by decide)<|sz<|Nc<|uz (Xi 6) (Xi 1)<|XM (Xi 4)<|KR Xq) (E4 Pz) An)<|bc (sS 7 n<|xx (xv 4)<|xe (KP KU Xt)<|KR Xq)<|bc (sO [6,8,9,10,11,12] Qd (ir G.Zd<|a1<|xo XB XC xi<|xo X2 X3 (xf YG hr<|a1<|xv 0) xi) (gN 8)<|bc (sS 6 n<|xf Y3 hr<|a2 (xf Yz hr<|a2 (xv 0) xi)<|xv 8)<|bc (sS 9 n<|xf YE hr<|a2 (xv 6)<|xx (xv 7) xi)<|bc (sS 10 n<|xf Wu hr<|a2 (xo XI XH (xo XI XH (xv 6) xi)<|xe (Ka (CN rfl) (by rfl) G.ZM boot_max<|bz Xt<|ln K G.len<|jx K (pv 7) Xt)<|D1<|tz Xq<|B3<|sz<|XM (Xi 7) Xq)<|xv 1)<|bj (sF 10<|sF 9<|sF 7<|sS 11 n<|xe (fz W6 (hr ())<|dz (pv 7) (pv 9)<|pv 10)<|SA<|uz (Xi 7) (Xi 9)<|Xi 10)<|bj (sS 12 n<|xf WD hr<|a3 (xv 3) (xv 9)<|xv 10)<|bc (sI (te (Pb (Zmc (K:=K)<|show _<cLine from(hr ()).units0) (jx K (pv 12) Xt) (jx K (K9<|bz (PQ Kx (K9<|az Py)<|cz ["_law_j","_law_due_here"] [none,some 11] (TB (K:=K)<|K9<|X7 Xt<|X7 Xt<|X7 Xt<|X7 Xt Km) ⟨(gk 0),Nm,(N1 (NA (K:=K)<|show _<cLine from(hr ()).units0) (pv 0) (jx K (pv 1) Xt)<|KB _)⟩)<|K9<|az Py)<|P5 DJ (by rfl) G.ZL boot_int<|az<|N1 (NA (K:=K)<|show _<cLine from(hr ()).units0) (jx K (pv 11) Xt) Xt<|KB _)<|KB _)<|KH<|Zoc (XM (Xi 12) Xq)<|XM (KC<|tz (Ky (KC<|sz Pz)<|To (Sa<|KC<|XN Xq<|XN Xq<|XN Xq<|XN Xq X9) (Kt 0) NV<|Nu (Xi 0)<|XM (Xi 1) Xq)<|KC<|sz Pz)<|El<|sz<|Nu (XM (Xi 11) Xq) Xq) (b1<|sR xb) b0)<|b1<|sI (tp<|wo (tN<|tt<|xf YH hr<|a2 (xx (xv 12) xi)<|xx (xv 11) xi)<|wO<|tN<|tt<|xf YH hr<|a2 (xL<|a1<|xx (xv 12) xi)<|xL<|a1<|xx (xv 11) xi) (b1<|sR xb) b0)<|b1<|sR<|xf W9 hr<|a2 (xv 3)<|xv 4)) (.a ?_)
 ·rintro ds R X ⟨ns,rfl,hR⟩;refine⟨rfl,ns,0,rfl,by decide,λc0=>⟨c0,rfl,λm hM=>?_⟩⟩;have hM0:=hM;obtain⟨a0,a1,a2,a3,a4,em,ha,_⟩:=hM0;have i0:atI (m.map D.int) 0=some (.int a0):=by rw[em];rfl
  have s0:ixN (m.map D.int).length 0=some 0:=by rw[em];rfl
  have hM:=Zij hM (v:=1+a0 % 4) (by omega);have es:(m.map D.int).set 0 (.int (1+a0 % 4))=(m.set 0 (1+a0 % 4)).map D.int:=by rw[List.map_set]
  refine⟨_,i0,(by show(0:Int)<4;decide),_,_,s0,rfl,?_⟩;rw[es];have h4:∃a t,m.set 0 (1+a0 % 4)=a::t/\a<=4:=⟨1+a0 % 4,[a1,a2,a3,a4],by rw[em];rfl,by omega⟩;generalize m.set 0 (1+a0 % 4)=m at hM h4;refine⟨ns,0,rfl,by decide,⟨by decide,by decide⟩,(by show(0:Int)<11;decide),ns,m,_,rfl,hM,by omega,by omega,λps hF hlen=>?_⟩;have hz:ps.length<=40:=by omega
  refine⟨rfl,λx=>⟨x,ps,rfl,rfl,by omega,?_⟩⟩;rw[Zar hF hz];refine λb1 b2 b3=>⟨rfl,?_⟩;refine⟨by simp,by simp,by simp,by simp,λa=>?_⟩;refine⟨ns,m,rfl,hM,λqs0 hq0=>?_⟩;refine⟨ns,rfl,λsp=>⟨⟨by decide,by decide⟩,m,_,rfl,hM,h4,λqs1 hq1=>⟨rfl,rfl,by rw[WG,WG];omega,?_⟩⟩⟩;rw[←Qc];generalize eqs:qs0++qs1=qs;have hq:qs.length<=40:=by rw[←eqs,WR];omega
  refine⟨rfl,K7 (xs:=qs) (emb:=λq:Int×Int=>dD (Dd.wish q.1 q.2).q) (λi γ'=>∃(hs:Kf) (s2:Option S),hs.length<=i/\FineH ps hs/\γ'=[some (.bor<|.scr ns),some (.own<|m.map D.int),s2,some (.own<|vO (ExcR.Xl mg "Village") x b1 b2 b3 (bkH hs) (fsH ps hs)<|wsH hs),some (.own<|.lsA a<|XX ps hs),none,none,none,none,none,none,none,none]) ?_ ?_ ?_⟩
  ·exact⟨[],_,QY _,FineH.nil hF hz,rfl⟩
  ·rintro i γ' hi ⟨hs,s2,h1,h2,rfl⟩;refine⟨x,b1,b2,b3,a,ps,hs,_,rfl,rfl,rfl,by omega,h2,.inr ⟨.wish qs[i].1 qs[i].2,rfl,?_⟩⟩;refine X1 ?_;exact⟨Pk ps hs (.wish qs[i].1 qs[i].2),_,by have:=G1 ps hs (.wish qs[i].1 qs[i].2);omega,h2.add _,rfl⟩
  rintro γ' ⟨hs,s2,h1,h2,rfl⟩;refine⟨ns,20,rfl,by decide,by decide,λcs hc=>?_⟩;refine⟨rfl,K7 (xs:=cs) (emb:=D.int) (λi γ'=>∃(hs:Kf) (s2:Option S),hs.length<=40+i/\FineH ps hs/\γ'=[some (.bor<|.scr ns),some (.own<|m.map D.int),s2,some (.own<|vO (ExcR.Xl mg "Village") x b1 b2 b3 (bkH hs) (fsH ps hs)<|wsH hs),some (.own<|.lsA a<|XX ps hs),none,none,none,none,none,none,none,none]) ?_ ?_ ?_⟩
  ·exact⟨hs,_,by omega,h2,rfl⟩
  ·rintro i γ' hi ⟨hs,s2,h1,h2,rfl⟩;obtain⟨⟨c1,c2⟩,c3⟩:=h2.cur;obtain⟨dl,el⟩:=FN ps hs;refine⟨_,el,_,m,Xz ps hs,XD hs,[dl],rfl,hM,by omega,c1,by have:=c3.1;omega,λd=>?_,?_⟩
   ·refine⟨x,b1,b2,b3,a,ps,hs,_,rfl,rfl,rfl,by omega,h2,.inr ⟨d,rfl,?_⟩⟩;have la:=G1 ps hs d;exact⟨Pk ps hs d,_,by omega,h2.add d,rfl⟩
   ·refine⟨x,b1,b2,b3,a,ps,hs,_,rfl,rfl,rfl,by omega,h2,.inl ⟨rfl,?_⟩⟩;have la:hs.dropLast.length<=hs.length:=by rw[List.length_dropLast];omega
    exact⟨hs.dropLast,_,by omega,h2.back,rfl⟩
  rintro γ' ⟨hs,s2,h1,h2,rfl⟩;obtain⟨⟨c1,c2⟩,c3⟩:=h2.cur;obtain⟨dl,el⟩:=FN ps hs;obtain⟨fs,ef,lf⟩:=F8 ps hs;obtain⟨ws,ew,lw⟩:=BL hs;have hu:∀q∈XD hs,q.1≠q.2:=λq hq=>(c3.2.2 q hq).2;have hw20:=c3.1;have hl2:=h2.len;refine⟨_,el,ns,rfl,λsp2=>⟨(by show(0:Int)<6;decide),?_⟩⟩
  have hrl:∀(f:Yk) (r:Yl),FR (Xp f) (XD hs) r->r≠[]->r.length<=60:=λf r hr hn=>by
   have RR:=(hr.ring hu hn).1
   have:=Nn RR.nodup RR.sub
   have:=Tw f
   omega
  refine⟨⟨by omega,by omega⟩,P1 (λi γ'=>γ'=[some (.bor<|.scr ns),some (.own<|m.map D.int),s2,some (.own<|vO (ExcR.Xl mg "Village") x b1 b2 b3 (bkH hs) (fsH ps hs)<|wsH hs),some (.own<|.lsA a<|XX ps hs),none,none,some (.sh<|.tup [plD (Xz ps hs),plD (XD hs),dl]),none,none,none,none,none]) rfl ?_ ?_⟩
  ·rintro i γ' hi rfl;refine⟨ns,2,rfl,by decide,_,_,rfl,?_⟩;generalize mixP (ns.getD (2:Int).toNat 0) (0+(i:Int))=cell;refine⟨_,Kp _ _,cell,Xz ps hs,rfl,by omega,λp=>?_⟩;have hcl:((Xz ps hs).map prD).length=(Xz ps hs).length:=WG ..;have hmx:0<(if ((((Xz ps hs).map prD).length:Nat):Int)>1 then((((Xz ps hs).map prD).length:Nat):Int)else 1)/\(if ((((Xz ps hs).map prD).length:Nat):Int)>1 then((((Xz ps hs).map prD).length:Nat):Int)else 1)<1073741824:=by split<;>omega
   refine⟨⟨by decide,by decide⟩,_,Kp _ _,hmx,_,m,rfl,hM,λh=>?_⟩
   refine TQ (λγ'=>∃(c v:Int) (r:Yl) (t1 t2:Option S),γ'=[some (.bor<|.scr ns),some (.own<|m.map D.int),s2,some (.own<|vO (ExcR.Xl mg "Village") x b1 b2 b3 (bkH hs) (fsH ps hs)<|wsH hs),some (.own<|.lsA a<|XX ps hs),none,t1,some (.sh<|.tup [plD (Xz ps hs),plD (XD hs),dl]),t2,some (.sh<|.int p),some (.sh<|.int h),some (.own<|.lst [.int c,.lst (r.map D.int),.int v]),none]/\r.length<=60/\((∃e,XO (Xz ps hs) p h=some e/\c=codeN (some e)/\r=[]/\v=0)\/
    (XO (Xz ps hs) p h=none/\c=4/\v=0/\r≠[]/\(FR (Xp<|Xz ps hs) (XD hs) r\/((¬ ∃r,Ring (Xp<|Xz ps hs) (XD hs) r)/\FR (Xp<|X8 (Xz ps hs) p h) (XD hs) r)))\/
    (XO (Xz ps hs) p h=none/\c=0/\r=[]/\(¬ ∃r,Ring (Xp<|Xz ps hs) (XD hs) r)/\(¬ ∃r,Ring (Xp<|X8 (Xz ps hs) p h) (XD hs) r)/\∃o o2,Bu (XD hs) (pcc<|Xz ps hs) (Xp<|Xz ps hs) o/\Bu (XD hs) (pcc<|X8 (Xz ps hs) p h) (Xp<|X8 (Xz ps hs) p h) o2/\v=oc (pcc<|X8 (Xz ps hs) p h) o2-oc (pcc<|Xz ps hs) o))) ?_ ?_
   ·refine⟨Xz ps hs,XD hs,[dl],p,h,rfl,c1,by omega,c3,λe he=>?_,λhe=>⟨λr hr hne=>?_,λhN1=>⟨λr hr hne=>?_,λhN2 o o2 hB hB2=>?_⟩⟩⟩
    ·exact⟨_,_,[],_,_,rfl,by decide,.inl ⟨e,he,rfl,rfl,rfl⟩⟩
    ·exact⟨_,_,r,_,_,rfl,hrl _ r hr hne,.inr (.inl ⟨he,rfl,rfl,hne,.inl hr⟩)⟩
    ·exact⟨_,_,r,_,_,rfl,hrl _ r hr hne,.inr (.inl ⟨he,rfl,rfl,hne,.inr ⟨hN1,hr⟩⟩)⟩
    ·exact⟨_,_,[],_,_,rfl,by decide,.inr (.inr ⟨he,rfl,rfl,hN1,hN2,o,o2,hB,hB2,rfl⟩)⟩
   rintro γ' ⟨c,v,r,t1,t2,rfl,hrr,hd⟩;refine TQ (λγ'=>∃(c v:Int) (r:Yl) (kb:List D) (z:D) (t1 t2 t3 t4:Option S),γ'=[some (.bor<|.scr ns),some (.own<|m.map D.int),s2,some (.own<|vO (ExcR.Xl mg "Village") x b1 b2 b3 (bkH hs) (fsH ps hs)<|wsH hs),some (.own<|.lsA a<|XX ps hs),none,t1,some (.sh<|.tup [plD (Xz ps hs),plD (XD hs),dl]),t2,t3,t4,some (.own<|.lst [.int c,.lst (r.map D.int),.int v]),some (.sh<|.tup [.int v,.lst kb,z])]/\(z=.lst (r.map D.int)\/z=.fL r)/\r.length<=60/\((c=0/\kb=[.bl true])\/(c=1/\kb=[.bl true,.bl true,.bl false,.bl false,.bl false])\/(c=2/\kb=[.bl true,.bl false,.bl true,.bl false,.bl false])\/(c=3/\kb=[.bl true,.bl false,.bl false,.bl true,.bl false])\/(c=4/\kb=[.bl true,.bl false,.bl false,.bl false,.bl true]))) ?_ ?_
   ·refine⟨bkH hs,fs,ws,Xz ps hs,XD hs,p,h,by rw[←ef,←ew];rfl,c1,by omega,by omega,hu,λe he=>?_,λhe=>?_⟩
    ·rcases hd with⟨e',he',rfl,rfl,rfl⟩|⟨hn,_⟩|⟨hn,_⟩
     ·obtain rfl:=WW (he.symm.trans he');rcases Iv he with rfl|rfl|rfl
      ·exact⟨_,_,[],_,_,_,_,_,_,rfl,.inl rfl,by decide,.inr (.inl ⟨BI,rfl⟩)⟩
      ·exact⟨_,_,[],_,_,_,_,_,_,rfl,.inl rfl,by decide,.inr (.inr<|.inl ⟨Sq,rfl⟩)⟩
      ·exact⟨_,_,[],_,_,_,_,_,_,rfl,.inl rfl,by decide,.inr (.inr<|.inr<|.inl ⟨DU,rfl⟩)⟩
     ·rw[he]at hn;cases hn
     ·rw[he]at hn;cases hn
    ·refine⟨λr1 hr1 hn1 r2 er=>?_,λhN1 u hu1=>⟨λr1 hr1 hn1 r2 er=>?_,λhN2 v1 hv1=>?_⟩⟩
     ·obtain rfl:=M1 er;rcases hd with⟨_,he',_⟩|⟨_,rfl,rfl,hne,hq|⟨hq,_⟩⟩|⟨_,_,_,hq,_⟩
      ·rw[he]at he';cases he'
      ·obtain rfl:=hq.one hr1;exact⟨_,_,r,_,_,_,_,_,_,rfl,.inr rfl,hrr,.inr (.inr<|.inr<|.inr ⟨rfl,rfl⟩)⟩
      ·exact absurd ((hr1.none_iff hu).mpr hq) hn1
      ·exact absurd ((hr1.none_iff hu).mpr hq) hn1
     ·obtain rfl:=M1 er;rcases hd with⟨_,he',_⟩|⟨_,rfl,rfl,hne,hq|⟨_,hq⟩⟩|⟨_,_,_,_,hq,_⟩
      ·rw[he]at he';cases he'
      ·exact absurd ((hq.none_iff hu).mpr hN1) hne
      ·obtain rfl:=hq.one hr1;exact⟨_,_,r,_,_,_,_,_,_,rfl,.inr rfl,hrr,.inr (.inr<|.inr<|.inr ⟨rfl,rfl⟩)⟩
      ·exact absurd ((hr1.none_iff hu).mpr hq) hn1
     ·rcases hd with⟨_,he',_⟩|⟨_,rfl,rfl,hne,hq|⟨_,hq⟩⟩|⟨_,rfl,rfl,_,_,o,o2,hB,hB2,rfl⟩
      ·rw[he]at he';cases he'
      ·exact absurd ((hq.none_iff hu).mpr hN1) hne
      ·exact absurd ((hq.none_iff hu).mpr hN2) hne
      ·obtain rfl:u=oc (pcc<|Xz ps hs) o:=hu1.uniq ⟨⟨o,hB.perm,hB.keeps,rfl⟩,hB.le⟩;obtain rfl:v1=oc (pcc<|X8 (Xz ps hs) p h) o2:=hv1.uniq ⟨⟨o2,hB2.perm,hB2.keeps,rfl⟩,hB2.le⟩;exact⟨_,_,[],_,_,_,_,_,_,rfl,.inl rfl,by decide,.inl ⟨rfl,rfl⟩⟩
   rintro γ' ⟨c,v,r,kb,z,t1,t2,t3,t4,rfl,hz',hrr,hd⟩;have hrl2:((r.map D.int).length=r.length):=WG ..;refine⟨_,Zfj _ _ _,by simp,by simp,?_⟩;refine KM (xs:=[1,2,3,4]) (emb:=D.int) (λj=>some (.bl<|decide (j=c))) (by decide) (λj _=>⟨_,rfl,_,rfl,rfl⟩) ?_;refine⟨rfl,rfl,by simp,by simp,by simp,_,rfl,?_⟩
   have hzz:[z,.lst (r.map D.int)]=[D.lst (r.map D.int),.lst (r.map D.int)]\/[z,.lst (r.map D.int)]=[D.fL r,.lst (r.map D.int)]:=by
    rcases hz' with rfl|rfl
    ·exact .inl rfl
    ·exact .inr rfl
   rcases hd with⟨rfl,rfl⟩|⟨rfl,rfl⟩|⟨rfl,rfl⟩|⟨rfl,rfl⟩|⟨rfl,rfl⟩
   ·exact⟨_,rfl,_,_,rfl,rfl,rfl,rfl,X1 ⟨_,rfl,_,rfl,r,hzz,by omega,X1 ⟨_,rfl,by simp,_,rfl,by simp,[v],.inl rfl,by simp,X1 rfl⟩⟩⟩
   ·exact⟨_,rfl,_,_,rfl,rfl,rfl,rfl,X1 ⟨_,rfl,_,rfl,r,hzz,by omega,X1 ⟨_,rfl,by simp,_,rfl,by simp,[v],.inl rfl,by simp,X1 rfl⟩⟩⟩
   ·exact⟨_,rfl,_,_,rfl,rfl,rfl,rfl,X1 ⟨_,rfl,_,rfl,r,hzz,by omega,X1 ⟨_,rfl,by simp,_,rfl,by simp,[v],.inl rfl,by simp,X1 rfl⟩⟩⟩
   ·exact⟨_,rfl,_,_,rfl,rfl,rfl,rfl,X1 ⟨_,rfl,_,rfl,r,hzz,by omega,X1 ⟨_,rfl,by simp,_,rfl,by simp,[v],.inl rfl,by simp,X1 rfl⟩⟩⟩
   ·exact⟨_,rfl,_,_,rfl,rfl,rfl,rfl,X1 ⟨_,rfl,_,rfl,r,hzz,by omega,X1 ⟨_,rfl,by simp,_,rfl,by simp,[v],.inl rfl,by simp,X1 rfl⟩⟩⟩
  ·rintro γ' rfl;exact⟨ps,hs,rfl,by omega,h2.len.1,h2.len.2,hR⟩
end
end T
namespace T
open L2 Own M
def Zdf{l:PySem.W.OpenLaw}{w:World}{K:Yj}{h:Heap}{mg:Yn}{fa:Addr}(X:K.In h)(G0:h.Ns mainGlobals mg)(hfa:mg "law"=some (.ref fa)){JT:Addr}(Ui:PySem.W.nsIn K mainGlobals "Village"=some (some<|.ref JT))(Uw:PySem.W.plainGet K JT Str.empty=true)(Ux:PySem.W.hasDictIn K JT=true)(Uy:PySem.W.plainOver K JT=true)(U0:PySem.W.findIn K (.ref JT) "__setattr__"=some (some<|.builtin "object.__setattr__"))(U1:PySem.W.makesIn K JT=true)(U2:PySem.W.keepIn K (.ref JT)=true)(U3:PySem.W.findIn K (.ref JT) "book"=some none)(U4:PySem.W.findIn K (.ref JT) "fields"=some none)(U5:PySem.W.findIn K (.ref JT) "wished"=some none)(a1:Pu.DI K "check_holder" FW)(a2:Pu.DI K "check_width" Da)(a3:Pu.DI K "check_strips" Ex)(a4:Pu.DI K "holders_of" DX)(a5:Pu.DI K "pair_cost" A3)(a6:Pu.DI K "check_neighbours" Ei)(a7:Pu.DI K "longer_paths" Cz)(a8:Pu.DI K "ring_from" Cu)(a9:Pu.DI K "find_ring" E6)(a10:Pu.DI K "check_no_ring" Aw)(a11:Pu.DI K "check_place" D4)(a12:Pu.DI K "sold" Dx)(a13:Pu.DI K "parted" Ck)(a14:Pu.DI K "united" AF)(a15:Pu.DI K "with_wish" Av)(a16:Pu.DI K "without_wish" AC)(a17:Pu.DI K "pair_costs" Di)(a18:Pu.DI K "sets_of" AK)(a19:Pu.DI K "without" A0)(a20:Pu.DI K "may_lie_last" Ca)(a21:Pu.DI K "cost_with_last" DS)(a22:Pu.DI K "least_costs" Ao)(a23:Pu.DI K "cost_table" AD)(a24:Pu.DI K "least_cost" AE)(a25:Pu.MI K JT "__init__" "Village.__init__" Cn)(a26:Pu.MI K JT "strips" "Village.strips" Ef)(a27:Pu.MI K JT "wishes" "Village.wishes" Ae)(a28:Pu.MI K JT "deeds" "Village.deeds" DE)(a29:Pu.MI K JT "check_room" "Village.check_room" Cg)(a30:Pu.MI K JT "enter" "Village.enter" Dc)(a31:Pu.MI K JT "sell" "Village.sell" A7)(a32:Pu.MI K JT "part" "Village.part" D7)(a33:Pu.MI K JT "unite" "Village.unite" CY)(a34:Pu.MI K JT "wish" "Village.wish" De)(a35:Pu.MI K JT "drop" "Village.drop" DQ)(a36:Pu.MI K JT "take_back" "Village.take_back" Ea)(a37:Pu.MI K JT "cost" "Village.cost" Ax)(a38:Pu.MI K JT "offer" "Village.offer" DZ)(a39:Pu.DI K "_law_at" Cp)(a40:Pu.DI K "_law_whole" DA)(a41:Pu.DI K "_law_mix" AH)(a42:Pu.DI K "_law_draw" A8)(a43:Pu.DI K "_law_spare" CZ)(a44:Pu.DI K "_law_menu" Ah)(a45:Pu.DI K "_law_holder" AG)(a46:Pu.DI K "_law_row" Cq)(a47:Pu.DI K "_law_tuples" Dl)(a48:Pu.DI K "_law_deed_is" EA)(a49:Pu.DI K "_law_book_is" A4)(a50:Pu.DI K "_law_present" Ey)(a51:Pu.DI K "_law_price" DV)(a52:Pu.DI K "_law_kept" DH)(a53:Pu.DI K "_law_orders" Dk)(a54:Pu.DI K "_law_best" Ac)(a55:Pu.DI K "_law_ring" Dz)(a56:Pu.DI K "_law_field_step" Ez)(a57:Pu.DI K "_law_wish_step" Cd)(a58:Pu.DI K "_law_step" Ai)(a59:Pu.DI K "_law_call" Au)(a60:Pu.DI K "_law_stands" Cb)(a61:Pu.DI K "_law_go" E7)(a62:Pu.DI K "_law_start" AU)(a63:Pu.DI K "_law_days" FU)(a64:Pu.DI K "_law_odd" Dv)(a65:Pu.DI K "_law_place" Cf)(a66:Pu.DI K "_law_pair" Ew)(a67:Pu.DI K "_law_opening" Eg)(a68:Pu.DI K "_law_width" Eu)(a69:Pu.DI K "_law_deed" Cj)(a70:Pu.DI K "_law_due" Ad)(a71:Pu.DI K "_law_offered" Aa)(a72:Pu.DI K "_law_all_pairs" CL)(a73:Pu.DI K "_law_buyer" CU){f74:Addr}{od74 an74:Yw}{sl74:Array (Yv)}{oc74 kV74 dc74 pm74 cd74 ct74:Value}(a74:PySem.W.nsIn K mainGlobals "law"=some (some<|.ref f74))(l74:K.lookup f74=some ⟨oc74,od74,.func (PySem.W.fnOf "law" "law" (Pm Th) (XQ Th) (Xk Th) .none kV74 dc74 pm74 an74 cd74 ct74),sl74⟩)(c74:PySem.W.codeIn K cd74 "law"=true)(k74:PySem.W.keepIn K (.ref f74)=true)(U6:PySem.W.nsIn K mainGlobals "ValueError"=some none)(U7:PySem.W.nsIn K mainGlobals "any"=some none)(U8:PySem.W.nsIn K mainGlobals "bool"=some none)(U9:PySem.W.nsIn K mainGlobals "int"=some none)(UA:PySem.W.nsIn K mainGlobals "isinstance"=some none)(UB:PySem.W.nsIn K mainGlobals "len"=some none)(UC:PySem.W.nsIn K mainGlobals "list"=some none)(UD:PySem.W.nsIn K mainGlobals "max"=some none)(UE:PySem.W.nsIn K mainGlobals "min"=some none)(UF:PySem.W.nsIn K mainGlobals "range"=some none)(UG:PySem.W.nsIn K mainGlobals "set"=some none)(UH:PySem.W.nsIn K mainGlobals "sorted"=some none)(UI:PySem.W.nsIn K mainGlobals "str"=some none)(UJ:PySem.W.nsIn K mainGlobals "sum"=some none)(UK:PySem.W.nsIn K mainGlobals "tuple"=some none){US:Tok}(UL:PySem.W.nsIn K mainGlobals "HOLDERS"=some (some<|.int 10 US)){UT:Tok}(UM:PySem.W.nsIn K mainGlobals "STRIPS"=some (some<|.int 40 UT)){UU:Tok}(UN:PySem.W.nsIn K mainGlobals "WIDEST"=some (some<|.int 1000 UU)){UV:Tok}(UO:PySem.W.nsIn K mainGlobals "MOST_WISHES"=some (some<|.int 20 UV)){UW:Tok}(UP:PySem.W.nsIn K mainGlobals "MOST_DEEDS"=some (some<|.int 100 UW)){UQ:Addr}(Ud:Pu.EI K "MeldError" UQ){UX:Addr}(Uj:Pu.EI K "TooManyStrips" UX){JV:Addr}(Ue:Pu.EI K "BadHolder" JV){UY:Addr}(Uk:Pu.EI K "BadWidth" UY){JW:Addr}(Ug:Pu.EI K "NoStrip" JW){JX:Addr}(Uh:Pu.EI K "OwnStrip" JX){UZ:Addr}(Ul:Pu.EI K "BadPart" UZ){Xa:Addr}(Um:Pu.EI K "UnlikeHolders" Xa){Xb:Addr}(Uo:Pu.EI K "TooWide" Xb){Xc:Addr}(Up:Pu.EI K "LikeHolders" Xc){Xd:Addr}(Uq:Pu.EI K "WishStands" Xd){Xe:Addr}(Ur:Pu.EI K "TooManyWishes" Xe){Xf:Addr}(Us:Pu.EI K "NoWish" Xf){Xg:Addr}(Ut:Pu.EI K "BookFull" Xg){Xh:Addr}(Uu:Pu.EI K "NothingDone" Xh){Ub:Addr}(Uc:Pu.RI K "Ringed" Ub "Ringed.__init__" FX)(x_Ringed:PySem.W.exmOne K (.ref Ub) (.ref Ub)=some true)(x_all:Pu.Gn K [("Ringed",Ub),("NoStrip",JW),("BadHolder",JV),("OwnStrip",JX)] [("Ringed",Ub),("MeldError",UQ)]=true)(k_BadHolder_ValueError:PySem.W.kitOne K (.ref JV) (.type "ValueError")=some true)(k_BadHolder_NoStrip:PySem.W.kitOne K (.ref JV) (.ref JW)=some false)(k_BadHolder_BadHolder:PySem.W.kitOne K (.ref JV) (.ref JV)=some true)(k_BadHolder_OwnStrip:PySem.W.kitOne K (.ref JV) (.ref JX)=some false)(k_NoStrip_ValueError:PySem.W.kitOne K (.ref JW) (.type "ValueError")=some true)(k_NoStrip_NoStrip:PySem.W.kitOne K (.ref JW) (.ref JW)=some true)(k_NoStrip_BadHolder:PySem.W.kitOne K (.ref JW) (.ref JV)=some false)(k_NoStrip_OwnStrip:PySem.W.kitOne K (.ref JW) (.ref JX)=some false)(k_OwnStrip_ValueError:PySem.W.kitOne K (.ref JX) (.type "ValueError")=some true)(k_OwnStrip_NoStrip:PySem.W.kitOne K (.ref JX) (.ref JW)=some false)(k_OwnStrip_BadHolder:PySem.W.kitOne K (.ref JX) (.ref JV)=some false)(k_OwnStrip_OwnStrip:PySem.W.kitOne K (.ref JX) (.ref JX)=some true)(k_Ringed_MeldError:PySem.W.kitOne K (.ref Ub) (.ref UQ)=some true)
  : ∃fd:FuncData,(∀(s:Shared) (v:Value),BindsTo s fd ⟨[v],[]⟩ [("_law_script",v)])/\∀base:Heap,K.In base->base.Ns mainGlobals mg->K8 l.prog w K mg base CX0 10 fa fd ["_law_script"] (Pu.Eb K):=by
 have e:=hfa.symm.trans (QF X G0 a74);cases e
 have UR:=Ud.c X G0;have JY:=Ue.c X G0;have JZ:=Ug.c X G0;have Ua:=Uh.c X G0;have Uv:=Uc.c X G0;have JU:=ExcR.Dn (QF X G0 Ui);have G:Glob K mg:=⟨Q0 X G0 U6,Q0 X G0 U7,Q0 X G0 U8,Q0 X G0 U9,Q0 X G0 UA,Q0 X G0 UB,Q0 X G0 UC,Q0 X G0 UD,Q0 X G0 UE,Q0 X G0 UF,Q0 X G0 UG,Q0 X G0 UH,Q0 X G0 UI,Q0 X G0 UJ,Q0 X G0 UK,⟨_,QF X G0 UL,⟨_,rfl⟩⟩,⟨_,QF X G0 UM,⟨_,rfl⟩⟩,⟨_,QF X G0 UN,⟨_,rfl⟩⟩,⟨_,QF X G0 UO,⟨_,rfl⟩⟩,⟨_,QF X G0 UP,⟨_,rfl⟩⟩,(Ud.m X G0),(Ud.k X G0),(Uj.m X G0),(Uj.k X G0),(Ue.m X G0),(Ue.k X G0),(Uk.m X G0),(Uk.k X G0),(Ug.m X G0),(Ug.k X G0),(Uh.m X G0),(Uh.k X G0),(Ul.m X G0),(Ul.k X G0),(Um.m X G0),(Um.k X G0),(Uo.m X G0),(Uo.k X G0),(Up.m X G0),(Up.k X G0),(Uq.m X G0),(Uq.k X G0),(Ur.m X G0),(Ur.k X G0),(Us.m X G0),(Us.k X G0),(Ut.m X G0),(Ut.k X G0),(Uu.m X G0),(Uu.k X G0),(Uc.m X G0),(Uc.i X G0),(by rw[Uv];exact x_Ringed),(by rw[←Uv,←JZ,←JY,←Ua,←UR]at x_all;exact Pu.Zd9 x_all),(by rw[JY];exact k_BadHolder_ValueError),(by rw[JY,JZ];exact k_BadHolder_NoStrip),(by rw[JY];exact k_BadHolder_BadHolder),(by rw[JY,Ua];exact k_BadHolder_OwnStrip),(by rw[JZ];exact k_NoStrip_ValueError),(by rw[JZ];exact k_NoStrip_NoStrip),(by rw[JZ,JY];exact k_NoStrip_BadHolder),(by rw[JZ,Ua];exact k_NoStrip_OwnStrip),(by rw[Ua];exact k_OwnStrip_ValueError),(by rw[Ua,JZ];exact k_OwnStrip_NoStrip),(by rw[Ua,JY];exact k_OwnStrip_BadHolder),(by rw[Ua];exact k_OwnStrip_OwnStrip),(by rw[Uv,UR];exact k_Ringed_MeldError),(by rw[JU];exact QF X G0 Ui),(by rw[JU];exact⟨Uw,Ux,Uy,U0⟩),(by rw[JU];exact U3),(by rw[JU];exact U4),(by rw[JU];exact U5)⟩;have F74:=BU (st:=Th) l74 c74 k74;have b74:=F74.binds (ps:=["_law_script"]) λ_ _ _ _ _ _ us hl=>by obtain⟨_,rfl⟩:=Pu.Bi hl;rfl
 have D74:Def K mg "law" Th ["_law_script"]:=⟨_,_,F74,QF X G0 a74,b74⟩;refine⟨PySem.W.fnOf "law" "law" (Pm Th) (XQ Th) (Xk Th) .none kV74 dc74 pm74 an74 cd74 ct74,λs v=>.of_eq rfl,λbase _ _=>?_⟩;have C0:=@Zgz l.prog w K mg base G (Uc.j Uv);have C1:=@Zn5 l.prog w K mg base ⟨⟩ G (a1.e X G0);have C2:=@Zi0 l.prog w K mg base ⟨⟩ G (a2.e X G0);have C4:=@Zib l.prog w K mg base G (a4.e X G0);have C5:=@Znb l.prog w K mg base ⟨⟩ (a5.e X G0);have C6:=@Zeq l.prog w K mg base ⟨⟩ G (a6.e X G0);have C7:=@Zbg l.prog w K mg base ⟨⟩ (a7.e X G0);have C11:=@Za9 l.prog w K mg base ⟨⟩ G (a11.e X G0);have C16:=@Znn l.prog w K mg base ⟨⟩ G (a16.e X G0);have C18:=@Zjw l.prog w K mg base ⟨⟩ (a18.e X G0);have C19:=@Zbd l.prog w K mg base ⟨⟩ G (a19.e X G0);have C20:=@Zpf l.prog w K mg base ⟨⟩ G (a20.e X G0);have C26:=@Zir l.prog w K mg base ⟨⟩ G (a26.e JU);have C27:=@Zmu l.prog w K mg base ⟨⟩ G (a27.e JU);have C28:=@Zcm l.prog w K mg base ⟨⟩ G (a28.e JU);have C29:=@Zpr l.prog w K mg base ⟨⟩ G (a29.e JU);have C30:=@Zkx l.prog w K mg base ⟨⟩ G (a30.e JU);have C36:=@Zb9 l.prog w K mg base ⟨⟩ G (a36.e JU);have C39:=@Znj l.prog w K mg base ⟨⟩ G (a39.e X G0);have C40:=@Zif l.prog w K mg base ⟨⟩ G (a40.e X G0);have C41:=@Znt l.prog w K mg base ⟨⟩ (a41.e X G0);have C44:=@Zae l.prog w K mg base ⟨⟩ (a44.e X G0);have C45:=@R4 l.prog w K mg base ⟨⟩ (a45.e X G0);have C50:=@Zl8 l.prog w K mg base ⟨⟩ G (a50.e X G0);have C51:=@Zbp l.prog w K mg base ⟨⟩ G (a51.e X G0);have C52:=@Zjb l.prog w K mg base ⟨⟩ (a52.e X G0);have C53:=@Zhb l.prog w K mg base ⟨⟩ (a53.e X G0);have C55:=@Zhx l.prog w K mg base ⟨⟩ G (a55.e X G0);have C56:=@Zat l.prog w K mg base ⟨⟩ G (a56.e X G0);have C57:=@Za6 l.prog w K mg base ⟨⟩ G (a57.e X G0);have C64:=@Zlp l.prog w K mg base ⟨⟩ (a64.e X G0);have C65:=@Zlt l.prog w K mg base ⟨⟩ G (a65.e X G0);have C68:=@R5 l.prog w K mg base ⟨⟩ G (a68.e X G0);have C3:=Zgn ⟨⟩ G C1 C2 (a3.e X G0);have C8:=Zhm ⟨⟩ G C7 (a8.e X G0);have C12:=Rv ⟨⟩ G C1 C11 (a12.e X G0);have C13:=Zdr ⟨⟩ G C11 (a13.e X G0);have C14:=Zi7 ⟨⟩ G C6 (a14.e X G0);have C15:=R6 ⟨⟩ G C1 (a15.e X G0);have C17:=Zlh ⟨⟩ (Dy C4) C5 (a17.e X G0);have C21:=Zd3 ⟨⟩ G C19 (a21.e X G0);have C35:=Zka ⟨⟩ G C16 C26 C27 C29 C30 (a35.e JU);have C42:=RA ⟨⟩ C39 C41 (a42.e X G0);have C43:=Zc4 ⟨⟩ C39 C41 (a43.e X G0);have C46:=Zba ⟨⟩ G C40 (a46.e X G0);have C47:=Zbz ⟨⟩ G C40 (a47.e X G0);have C48:=Znl ⟨⟩ G C40 (a48.e X G0);have C54:=Zbr ⟨⟩ C50 C51 C52 C53 (a54.e X G0);have C58:=Zlm ⟨⟩ C56 C57 (a58.e X G0);have C62:=Zoq ⟨⟩ G C39 C41 C45 (a62.e X G0);have C63:=Znw ⟨⟩ G C39 C41 (a63.e X G0);have C66:=Zl1 ⟨⟩ G C45 C64 (a66.e X G0);have C72:=Zjc ⟨⟩ G C45 (a72.e X G0);have C73:=R0 ⟨⟩ C45 C64 (a73.e X G0);have C9:=Zbv ⟨⟩ G C8 (a9.e X G0);have C22:=Zk8 ⟨⟩ G (Dy C4) C18 C20 C21 (a22.e X G0);have C25:=Zap ⟨⟩ G C3 (a25.j JU U1 U2);have C31:=Zoj ⟨⟩ G C26 C27 C29 C30 C12 (a31.e JU);have C32:=Zmg ⟨⟩ G C26 C27 C29 C30 C13 (a32.e JU);have C33:=Zk2 ⟨⟩ G C26 C27 C29 C30 C14 (a33.e JU);have C34:=Zo9 ⟨⟩ G C26 C27 C29 C30 C15 (a34.e JU);have C49:=Zem ⟨⟩ G C48 (a49.e X G0);have C67:=Zc8 ⟨⟩ G C39 C41 C45 C66 (a67.e X G0);have C69:=Zig ⟨⟩ G C45 C64 C65 C68 C66 (a69.e X G0);have C70:=RU ⟨⟩ C50 C55 C56 C54 (a70.e X G0);have C10:=R9 ⟨⟩ G C0 (Dy C4) C9 (a10.e X G0);have C59:=Zjp ⟨⟩ G C35 C31 C32 C33 C34 (a59.e X G0);have C60:=Znu ⟨⟩ G C26 C27 C28 C47 C49 (a60.e X G0);have C23:=Zb0 ⟨⟩ G C17 C22 C10 (a23.e X G0);have C61:=Zjz ⟨⟩ G C36 C40 C58 C59 (a61.e X G0);have C24:=Zge ⟨⟩ C23 (a24.e X G0);have C37:=Zbx ⟨⟩ G C26 C27 C24 (a37.e JU);have C38:=Zd5 ⟨⟩ G C26 C27 C12 C24 C37 (a38.e JU);have C71:=Zk5 ⟨⟩ G C38 (a71.e X G0);have C74:=Zpg ⟨⟩ G C39 C41 C44 C65 C42 C43 C46 C62 C63 C72 C73 C25 C67 C69 C70 C60 C61 C71 D74;exact(C74.at (QF X G0 a74) F74 D74).imp λ_ _ _ _ z=>Pu.Zjo z
end T
namespace PySem.W.Fast
def I:True:=⟨⟩
def tw4236740819834696851:=I
def tw4999329351634073600:=I
def tw16069239639365630976:=I
def tw7393198807712919552:=I
def tw4300379157601582080:=I
def tw11536737037106042944:=I
def tw14685159274580297824:=I
def tw17171194204834270496:=I
def tw1405212699017460000:=I
def tw5523942508904268064:=I
def tw11223467471561339232:=I
def tw1718073757050093984:=I
def tw8231948076724356576:=I
def tw13457159102248132096:=I
def tw3207616901752959488:=I
def tw14923925404478536192:=I
def tw10012387505884290592:=I
def tw1832395582641856032:=I
def tw11279813305251667520:=I
def tw6098268326222777920:=I
def tw6858620591687919168:=I
def tw18307280445920451200:=I
def tw12525850457694985856:=I
def tw9771173824145779328:=I
def tw4005943104198849184:=I
def tw6066853644281861792:=I
def tw1898365056726590112:=I
def tw15952401139513840384:=I
def tw4415270731496043296:=I
def tw9462810339440839456:=I
def tw9171405005561663328:=I
def tw16649684193414160288:=I
def tw18209550318852258720:=I
def tw10374994950054673312:=I
def tw4880822722737745953:=I
def tw15831258014476121121:=I
def tw4935318439378562113:=I
def tw783016938792533057:=I
def tw16877864864141618273:=I
def tw957424695907432609:=I
def tw17399791994482409697:=I
def tw2376440875109404897:=I
def tw7212966892067984641:=I
def tw8662654972097566977:=I
def tw14771036876091369761:=I
def tw5750947763178162465:=I
def tw2909442860122336545:=I
def tw7976958206558464321:=I
def tw15665302474277934433:=I
def tw3037133727608859009:=I
def tw14151530374763685345:=I
def tw3074585272725480961:=I
def tw17676411587515693569:=I
def tw16013324719421752897:=I
def tw9105366465307760193:=I
def tw7491790185104508513:=I
def tw16764283413425736289:=I
def tw5849897892197715553:=I
def tw16762762343986256513:=I
def tw15836136178749336225:=I
def tw10591339733249696481:=I
def tw11422991187696730849:=I
def tw1480013878116959009:=I
def tw4731776179059423009:=I
def tw2863684587629477729:=I
def tw9180683925327997825:=I
def tw16608871177592454049:=I
def tw4589715362013046689:=I
def tw10680119826483592194:=I
def tw3041862725986721826:=I
def tw538275605423383586:=I
def tw13487884078202724450:=I
def tw13493576396364280930:=I
def tw17410215481806389378:=I
def tw12152795002209969282:=I
def tw16414139546948022402:=I
def tw13520461305535416450:=I
def tw2009289455109143682:=I
def tw3425872983309157602:=I
def tw18254297576378968290:=I
def tw4042121892772605154:=I
def tw2470125442104654050:=I
def tw11065995810405037314:=I
def tw587014765260139778:=I
def tw1312789798882086178:=I
def tw9165861754601750850:=I
def tw4892743761076471138:=I
def tw4080270551569095074:=I
def tw14326024176020066786:=I
def tw11141956346090962402:=I
def tw11079654958381864450:=I
def tw8050059746908546626:=I
def tw9630533165222862434:=I
def tw11564253656010208898:=I
def tw5237317894779665122:=I
def tw12771904887642191650:=I
def tw14207548457055836034:=I
def tw6000255517171506050:=I
def tw3064674211407686530:=I
def tw119016340570327970:=I
def tw301005520507616194:=I
def tw1961048862940751810:=I
def tw1117411619098060738:=I
def tw11224993164467341315:=I
def tw2894209291987202083:=I
def tw16311550696054167619:=I
def tw15378002488121811043:=I
def tw3361836427215372419:=I
def tw13479370279793566851:=I
def tw5929760949711072451:=I
def tw2071905832632297731:=I
def tw14641602288511953187:=I
def tw2950068502032861475:=I
def tw1194847005049671971:=I
def tw15314054832715229475:=I
def tw7076602486405460291:=I
def tw3854218324818276739:=I
def tw3421937491812659587:=I
def tw761444335114734051:=I
def tw286187878786520611:=I
def tw17949509707965700707:=I
def tw10487056129325080227:=I
def tw444970104041532067:=I
def tw14266345025648815779:=I
def tw14328872321603818179:=I
def tw15875349804105739107:=I
def tw12138611306367808355:=I
def tw8389740947624449955:=I
def tw12255331029798521795:=I
def tw15274906523165821923:=I
def tw10646551826083525603:=I
def tw2997619526596248547:=I
def tw23673029839262756:=I
def tw13835471084389938244:=I
def tw5485528693828887684:=I
def tw15267025704978365668:=I
def tw3581192853052483812:=I
def tw14051132153161324804:=I
def tw9360247118384556324:=I
def tw18082565368402639204:=I
def tw9030479526217388420:=I
def tw9611636153320877476:=I
def tw10128360971298216420:=I
def tw16569370574389331428:=I
def tw5116141741831221732:=I
def tw8302759230814188036:=I
def tw13458121366982336100:=I
def tw204107904385911428:=I
def tw10859571325892001412:=I
def tw6241087449092367044:=I
def tw5307048594442733252:=I
def tw3461788344812894916:=I
def tw3106133922920888068:=I
def tw1040834174708153156:=I
def tw17360266173424773988:=I
def tw14804812922684773252:=I
def tw10725471961214748580:=I
def tw18264986033028939684:=I
def tw12198856761109041060:=I
def tw10529343107946813380:=I
def tw3617413359955585988:=I
def tw8638725260610543621:=I
def tw11658194796279639045:=I
def tw9990189781460701189:=I
def tw4630327377100533797:=I
def tw14339957794047636581:=I
def tw259916570552148101:=I
def tw8185969630375658693:=I
def tw17030027061727500549:=I
def tw4987577323482349861:=I
def tw13407739432223756677:=I
def tw15247999063746802085:=I
def tw12042094001376742853:=I
def tw16336229135223700965:=I
def tw9050731138251275749:=I
def tw10161484045390809605:=I
def tw17837798337269076485:=I
def tw12002400868182037029:=I
def tw11578486959707225637:=I
def tw15190983162976748101:=I
def tw17040263152567610949:=I
def tw17912831091119198821:=I
def tw5146341144978714213:=I
def tw3971640853802229381:=I
def tw14579800223545453189:=I
def tw1589669158118022821:=I
def tw1406119249927344869:=I
def tw4718554889345229541:=I
def tw13072190162534757189:=I
def tw5230901919091748709:=I
def tw5300153347582305157:=I
def tw18211022107262559141:=I
def tw9728547985733150661:=I
def tw3204872211668988966:=I
def tw12008809948865273926:=I
def tw470455465586083910:=I
def tw14410938555406568518:=I
def tw9241351219702615110:=I
def tw12471114942539852870:=I
def tw18163963585524379750:=I
def tw5530148437624847622:=I
def tw13222417321513897286:=I
def tw13506969127603398982:=I
def tw4237292840207877510:=I
def tw9819173365528983942:=I
def tw14229204860044913062:=I
def tw13803994749857417638:=I
def tw10917596858017028582:=I
def tw4250987002257555942:=I
def tw3845685842399221222:=I
def tw14874853326491137542:=I
def tw3322830011546886694:=I
def tw18152990720123170374:=I
def tw8656104923705701958:=I
def tw16479218616900130406:=I
def tw18073922368892662374:=I
def tw15468388269323063942:=I
def tw1830368988119470790:=I
def tw5596171474799090406:=I
def tw18383973975222056678:=I
def tw643708087566250822:=I
def tw17705934254369040198:=I
def tw4348569458348193606:=I
def tw2038441194102989702:=I
def tw11050696921207412646:=I
def tw769524879407174598:=I
def tw16132985962553710566:=I
def tw1549089757269663751:=I
def tw4801178893593093159:=I
def tw16650856428765503527:=I
def tw6790836814018434119:=I
def tw11195779281403114567:=I
def tw15363418271640652903:=I
def tw1192727520032167015:=I
def tw14192860909708508263:=I
def tw688652129126570119:=I
def tw4106545027518654599:=I
def tw15943373752766937255:=I
def tw3459040070556542119:=I
def tw14256978154903338183:=I
def tw10650918934510116103:=I
def tw13276319904370864391:=I
def tw16831397980056884519:=I
def tw14841198944340396327:=I
def tw15126030870272958791:=I
def tw15850434548823850375:=I
def tw15767285553332295079:=I
def tw18196303065889196455:=I
def tw11859635737965055399:=I
def tw16416404490001381799:=I
def tw8449203692640622023:=I
def tw3211309317733519879:=I
def tw7759837773250918919:=I
def tw8956528253443573287:=I
def tw10263998432020863527:=I
def tw14805442871597767207:=I
def tw9435903606494586407:=I
def tw9639294525439541927:=I
def tw14979121417463860903:=I
def tw14069541798826124967:=I
def tw3552165569244627655:=I
def tw2983453083196128967:=I
def tw5986836579971636967:=I
def tw2393069568727026439:=I
def tw16840777530274188039:=I
def tw9503857892684415751:=I
def tw467985129282787079:=I
def tw10766276353947600679:=I
def tw4509995174305701671:=I
def tw664020867933087559:=I
def tw13159934895598858055:=I
def tw12961819451591325543:=I
def tw12271342448425053063:=I
def tw17396622889398354823:=I
def tw10776256515979706279:=I
def tw8198176154383623143:=I
def tw15378937944825772007:=I
def tw16953680371378018279:=I
def tw7844705618578004967:=I
def tw8995356471812921352:=I
def tw12210838903206693896:=I
def tw16515849826062169224:=I
def tw1908131594161674408:=I
def tw4695304072465464616:=I
def tw16663586984832056616:=I
def tw1847722745585893736:=I
def tw4394895225272133064:=I
def tw621515190772212200:=I
def tw5048246440251303432:=I
def tw4070501725222099464:=I
def tw16304912573340377608:=I
def tw18286305485439245864:=I
def tw4367814314390592200:=I
def tw12041921995074055880:=I
def tw13170368926249778888:=I
def tw17135271375777500904:=I
def tw5860380569429153512:=I
def tw5780161171054561032:=I
def tw4838004572758969096:=I
def tw3605019600142576424:=I
def tw1029962874088227752:=I
def tw5384023813003875240:=I
def tw11978877864541619209:=I
def tw18039173632148973577:=I
def tw18017376645951781897:=I
def tw331739655010893865:=I
def tw18244626692072108073:=I
def tw163928996873863241:=I
def tw16697759209138324585:=I
def tw7980471063106633833:=I
def tw8758842108340197545:=I
def tw14900871138172102889:=I
def tw14464211967581171017:=I
def tw9300886828628196681:=I
def tw11757533105509838313:=I
def tw4130024062765788681:=I
def tw17010104405815363113:=I
def tw14219855475903749673:=I
def tw12134336194349784617:=I
def tw15543720352302217801:=I
def tw18192862152447186505:=I
def tw2003643303304196681:=I
def tw9434982012042062473:=I
def tw12916499387188296361:=I
def tw11078107811418373801:=I
def tw14466062392544985833:=I
def tw4194432397650104041:=I
def tw13927772167584817897:=I
def tw5132114723943852809:=I
def tw18201986387338850153:=I
def tw2178375042852382730:=I
def tw8230531098028601354:=I
def tw4364832735818017866:=I
def tw12695472240440534154:=I
def tw16247638864212459690:=I
def tw6131646792286580906:=I
def tw17555864044141286634:=I
def tw18167663866275497226:=I
def tw12249082488931168522:=I
def tw3748165229346923818:=I
def tw11988747400389583146:=I
def tw17824875733676462474:=I
def tw13033045467625127306:=I
def tw14167961432963553706:=I
def tw8600512585111215530:=I
def tw6699634240850142666:=I
def tw3061106750395624970:=I
def tw6256790741547601418:=I
def tw8341564620779263594:=I
def tw8662958906155692682:=I
def tw3791299611981385514:=I
def tw6686137711400853354:=I
def tw14150597769533097866:=I
def tw10248684374360789898:=I
def tw7087937746884777898:=I
def tw8345874449383249866:=I
def tw6257146077219787819:=I
def tw4283016852494018635:=I
def tw6167138406758887563:=I
def tw9911314034895668363:=I
def tw16286929973241381099:=I
def tw18277140582994408779:=I
def tw1735664435540622667:=I
def tw14578255321352637803:=I
def tw15420040485814011339:=I
def tw149779999932369355:=I
def tw7549698096764972587:=I
def tw10122444065668733611:=I
def tw10460525158222130955:=I
def tw13187379815980682027:=I
def tw6689353045719107403:=I
def tw7012964571997260619:=I
def tw5063308203286658891:=I
def tw15256458302788158347:=I
def tw7412165679170045835:=I
def tw17341710627357469643:=I
def tw15478430745577539563:=I
def tw2255948918626790412:=I
def tw5380909105580833836:=I
def tw10443610577645496396:=I
def tw14112732545975193708:=I
def tw567999281372908652:=I
def tw3651855003015129260:=I
def tw16340155082204037292:=I
def tw6617473540977279148:=I
def tw17144344449235541196:=I
def tw9202116999445462348:=I
def tw12425660420998285644:=I
def tw16257950064777890156:=I
def tw16355529941665491308:=I
def tw18135975702313017740:=I
def tw3744146634356731308:=I
def tw15414457829447617996:=I
def tw17609097259648864716:=I
def tw2640010476233218572:=I
def tw14366180506400089644:=I
def tw10546471799531639372:=I
def tw1486998267719721548:=I
def tw10871495454171883116:=I
def tw16367011901218668204:=I
def tw3639148775420682956:=I
def tw2210057869864891084:=I
def tw9275339783143315212:=I
def tw1071747256512482092:=I
def tw6511939885113942860:=I
def tw6370050748431718220:=I
def tw3052527133948315500:=I
def tw7026414415972973420:=I
def tw11956274193920128876:=I
def tw5014304729420392428:=I
def tw11611029968117338125:=I
def tw16145366248041847917:=I
def tw342760355611533517:=I
def tw11118805183570540877:=I
def tw8884202705079095693:=I
def tw5690969469747797421:=I
def tw17515270684700017101:=I
def tw17924562322490769901:=I
def tw8311672548473423341:=I
def tw1271051009784586765:=I
def tw11041252523118408205:=I
def tw12121397491504564781:=I
def tw11201263832928465517:=I
def tw2152376339441732269:=I
def tw1618647874270056141:=I
def tw1740110745388757741:=I
def tw81934240491586285:=I
def tw5103978011684519725:=I
def tw811379278916507565:=I
def tw12053954427082923949:=I
def tw12238058348905021486:=I
def tw13703713865499080750:=I
def tw4105598975448939598:=I
def tw16593773697065715822:=I
def tw15246589707373105294:=I
def tw8949151878639664302:=I
def tw5937082644371098798:=I
def tw9460973092124390574:=I
def tw14954824169027308750:=I
def tw3301826724170208462:=I
def tw14426425817032894670:=I
def tw11982625178726402286:=I
def tw5688611242371879246:=I
def tw2648267126723223950:=I
def tw9136607844262884750:=I
def tw17918015378615821742:=I
def tw969474858846881262:=I
def tw334553983710192142:=I
def tw2831300450740604462:=I
def tw8827193500478615086:=I
def tw6630014843245807150:=I
def tw12793644341841191470:=I
def tw10173190211442742926:=I
def tw16094231953909171854:=I
def tw17592974018618881678:=I
def tw8958014731330437806:=I
def tw12118372699578764046:=I
def tw14706608125045159726:=I
def tw2595519352892244846:=I
def tw17327816080685280238:=I
def tw166605902243342415:=I
def tw6376221535049559151:=I
def tw4210934844005192879:=I
def tw3652691553577747631:=I
def tw8241191317344042191:=I
def tw3013950501647883503:=I
def tw14717442640251697423:=I
def tw6056348253383483663:=I
def tw3362497362859414831:=I
def tw3143356219311111503:=I
def tw595061163510986063:=I
def tw1054424503730053519:=I
def tw14429004658636559855:=I
def tw8296510966952885775:=I
def tw1173278665956785679:=I
def tw1039303031784097359:=I
def tw16373132305203590735:=I
def tw896322346147616367:=I
def tw9658371401129156207:=I
def tw12184269472564962991:=I
def tw18302248433695702735:=I
def tw10076011003327217359:=I
def tw12484833611803623151:=I
def tw3876695997436922671:=I
def tw13576613483792485167:=I
def tw9012795472268649263:=I
def tw4206214390182881103:=I
def tw4824547350402161615:=I
def tw13584635424507255759:=I
def tw5615008716535207952:=I
def tw1048388595649617936:=I
def tw9064949805183567920:=I
def tw5822685100628727856:=I
def tw11006137431568775248:=I
def tw15274886686828129392:=I
def tw11861423129885394096:=I
def tw1943785664326149328:=I
def tw6220762869880965424:=I
def tw16209505814207290672:=I
def tw3143008356626457904:=I
def tw11315806090771568976:=I
def tw7026352591422614864:=I
def tw14490378001233105264:=I
def tw5288314040148487536:=I
def tw80423283757740400:=I
def tw8324318499807548816:=I
def tw7514523484094345648:=I
def tw17267836867975696912:=I
def tw3676378015395766832:=I
def tw4460237071708455536:=I
def tw10406220759412120208:=I
def tw1148696405115843280:=I
def tw8859362036461584080:=I
def tw7696295164147503856:=I
def tw16365100566629322512:=I
def tw5525044048344867600:=I
def tw8046968288254117680:=I
def tw8398581518389017392:=I
def tw7094913431320513360:=I
def tw17901107572171822960:=I
def tw2297353515731280752:=I
def tw9817935114842555312:=I
def tw8166295700396259280:=I
def tw2181916409224672305:=I
def tw3989000677783175249:=I
def tw3543261194025706577:=I
def tw13630457976320829521:=I
def tw8205814376689334353:=I
def tw7923864054750727281:=I
def tw10242385463644562577:=I
def tw18198884743771968657:=I
def tw7022478930391174321:=I
def tw15984513865852719409:=I
def tw12974095360999337265:=I
def tw10747476800182540593:=I
def tw11514544700994677073:=I
def tw12106946259397077329:=I
def tw1349336670519255441:=I
def tw1376024387224212945:=I
def tw9709783979665743313:=I
def tw2534433709745892817:=I
def tw13373236006851758609:=I
def tw10789351030705282577:=I
def tw8528438739484204561:=I
def tw9348233716749205041:=I
def tw17261125897947197009:=I
def tw11269030901321642577:=I
def tw1516557986158257777:=I
def tw4063626795782597233:=I
def tw5614931223259866769:=I
def tw2519057672774482609:=I
def tw10853418267459782353:=I
def tw17780910794175505137:=I
def tw17609583057119569681:=I
def tw1464105713450849137:=I
def tw11489098293386554225:=I
def tw15010861781861329777:=I
def tw15203725131913710577:=I
def tw1586962640053447698:=I
def tw18045465403806329874:=I
def tw11049272849859985426:=I
def tw9767698777519653010:=I
def tw3098512508432417938:=I
def tw15548843751103959186:=I
def tw2518880777051213970:=I
def tw13971079150780690578:=I
def tw14817006375681604786:=I
def tw11440651705988089074:=I
def tw12114460280836758770:=I
def tw743590067055465778:=I
def tw15754703336029169970:=I
def tw3786418508830843218:=I
def tw5202810267790746962:=I
def tw11428240116700954994:=I
def tw5544136770364305778:=I
def tw17389189337864789394:=I
def tw10502601631413190066:=I
def tw13500237676038448594:=I
def tw6433012749730515442:=I
def tw5417065784336789010:=I
def tw17298477232370044434:=I
def tw14483693608644073042:=I
def tw16068302945766496850:=I
def tw731423998076424850:=I
def tw11150528887019188914:=I
def tw5602446343474273970:=I
def tw12695230425207580370:=I
def tw6841022254608474834:=I
def tw3850517241900648178:=I
def tw3725033742771531570:=I
def tw6745052996092871474:=I
def tw17371155771017089842:=I
def tw7356766701858026290:=I
def tw8206370490118706002:=I
def tw1539421511103427410:=I
def tw6765809774762935154:=I
def tw983482963594368882:=I
def tw16098119078476980114:=I
def tw8694542544429617138:=I
def tw3930090749912429651:=I
def tw1369196224291199091:=I
def tw3011775452619140211:=I
def tw3650065143933293715:=I
def tw15227968272743153939:=I
def tw11975746463735646707:=I
def tw4701914859954583059:=I
def tw1776248264936089139:=I
def tw11049384978821480019:=I
def tw433892216763670131:=I
def tw8058687268675755667:=I
def tw10510431337608947411:=I
def tw4831296042335824595:=I
def tw16658216081130406675:=I
def tw9057815428441215827:=I
def tw14928981120662786899:=I
def tw11210551355561562035:=I
def tw9458252263541969875:=I
def tw7579744450601361363:=I
def tw6868187400925007827:=I
def tw5379234547402671091:=I
def tw17913986195495092276:=I
def tw13435661068836060212:=I
def tw15335749141899167892:=I
def tw493072810607371412:=I
def tw6412806279356950868:=I
def tw15930176493303025044:=I
def tw8400769712089230740:=I
def tw10519490079783908756:=I
def tw15419947053271359924:=I
def tw7633208710695765428:=I
def tw1350200661591123444:=I
def tw13198849307170832980:=I
def tw14747414719286301268:=I
def tw1359410332624579188:=I
def tw3268400076967611028:=I
def tw3750678470064586420:=I
def tw13387336139488615124:=I
def tw14800896552805679860:=I
def tw2175215131513864980:=I
def tw2033758561811119988:=I
def tw12847938030767911828:=I
def tw15221882017192066101:=I
def tw105943814998100053:=I
def tw4098782429476906133:=I
def tw14827301901496466741:=I
def tw6565360828849958229:=I
def tw17053108952740554101:=I
def tw13380968079307507093:=I
def tw17098679297062908341:=I
def tw18176829098395940277:=I
def tw9291158061957171637:=I
def tw7770767323181210101:=I
def tw6876995710502490677:=I
def tw14501389661322758741:=I
def tw9096451477670508213:=I
def tw14166163521290294965:=I
def tw16566027648736100021:=I
def tw10298044900188587733:=I
def tw12662042198465276629:=I
def tw15913281530221917909:=I
def tw12920917510655411061:=I
def tw856786591717811093:=I
def tw12861295777664920469:=I
def tw12174990119835601877:=I
def tw3603105156657852373:=I
def tw380692449908151318:=I
def tw13090381708022123574:=I
def tw16040357806611537014:=I
def tw4516596712512264342:=I
def tw1367939759104109750:=I
def tw11742906345651983574:=I
def tw7930911063624152374:=I
def tw16122625547869510006:=I
def tw6916195504100301206:=I
def tw5952129069190741398:=I
def tw7200023323121634806:=I
def tw7034909551076371958:=I
def tw8318376016925020726:=I
def tw2315144223189622326:=I
def tw4957794231157214806:=I
def tw16479655099141567094:=I
def tw6026748930665022102:=I
def tw5860540249927436950:=I
def tw16494196308333274806:=I
def tw11012848708531013302:=I
def tw12633156656042532534:=I
def tw11299255185291577046:=I
def tw9699342297261275862:=I
def tw6653991925423969014:=I
def tw2068993761734183670:=I
def tw15601695351690801942:=I
def tw9230616171850039094:=I
def tw12429427978741217142:=I
def tw13746385561171996566:=I
def tw7773454419030996886:=I
def tw6619451311155939254:=I
def tw4754454508934094774:=I
def tw11749646359374913494:=I
def tw11109707203181916215:=I
def tw3292171603784769655:=I
def tw15115908203433436311:=I
def tw10236510304367790231:=I
def tw17336955602406426775:=I
def tw7703260666141655255:=I
def tw12949870854065266935:=I
def tw10172590905618606327:=I
def tw6004981355149609271:=I
def tw11089063986267663703:=I
def tw8979440146205709687:=I
def tw7568512445731242391:=I
def tw16297758379542884759:=I
def tw10288092310059496887:=I
def tw17023096830743978487:=I
def tw6066364343699935799:=I
def tw3149106642989130295:=I
def tw8548482181623339607:=I
def tw3154756109658542743:=I
def tw9053574269289989879:=I
def tw11301833817896956695:=I
def tw2778880307932444439:=I
def tw2267751586477651735:=I
def tw17606975669925026615:=I
def tw1650148580724845367:=I
def tw8642480316908220279:=I
def tw16488268312416729975:=I
def tw3812240782403885015:=I
def tw5723244913040842711:=I
def tw18270810218213129240:=I
def tw1641177530975806488:=I
def tw6959982701812777016:=I
def tw9392104503646566456:=I
def tw15895991016319787096:=I
def tw17207835328659754104:=I
def tw15116741533343680696:=I
def tw13816330300089663704:=I
def tw18168692636156024024:=I
def tw7097070421998249208:=I
def tw8678379957589893368:=I
def tw7826675956308403448:=I
def tw7331976131961872696:=I
def tw15398629514821894584:=I
def tw4899685900564827576:=I
def tw11346736812217850296:=I
def tw12315615851341532696:=I
def tw9500527017750132248:=I
def tw3888151848007175736:=I
def tw16475217397345737272:=I
def tw14678635655819800152:=I
def tw2595343266720924248:=I
def tw7146399352320512600:=I
def tw8662650487632976472:=I
def tw10860145690257518232:=I
def tw16533408357237055224:=I
def tw10208487485709796120:=I
def tw11599530451223638872:=I
def tw5375808094191411064:=I
def tw13118970147079296984:=I
def tw16668004833469239288:=I
def tw9776683452360399864:=I
def tw1760606803617075192:=I
def tw15564720468177945:=I
def tw10062415142832080953:=I
def tw3090327004813519929:=I
def tw3932890801492164761:=I
def tw11135119409820862681:=I
def tw3562012352644168985:=I
def tw4382117592804226329:=I
def tw15536829911781403993:=I
def tw10374765747145707897:=I
def tw5591058185862659449:=I
def tw15127448950825750937:=I
def tw10421327303974373817:=I
def tw67577573087106489:=I
def tw13431277057175367129:=I
def tw8263399233293222393:=I
def tw16785616838619572729:=I
def tw5776837765740220921:=I
def tw11760284798250912313:=I
def tw1840237946452745785:=I
def tw11571082811276620441:=I
def tw7192106437408892601:=I
def tw16278977379087412921:=I
def tw3052856400696644313:=I
def tw3998730963490140889:=I
def tw6691705695177481977:=I
def tw4622574860936007449:=I
def tw17491123819054738297:=I
def tw7611965476352154489:=I
def tw18019794334727282585:=I
def tw7705384565101281209:=I
def tw11153428482296681465:=I
def tw18327632839685086201:=I
def tw11849587481680079898:=I
def tw5088546291623952442:=I
def tw6025700753107432506:=I
def tw14993457184552025178:=I
def tw4131516310018523386:=I
def tw3928651951102186810:=I
def tw3109216284776215002:=I
def tw3082217183990795738:=I
def tw8546243914945859066:=I
def tw10118233719611624954:=I
def tw7795506085328736762:=I
def tw18179149235021048346:=I
def tw9582034722765448762:=I
def tw11695942452511539930:=I
def tw17124165067857955546:=I
def tw13290866210719267578:=I
def tw15381970395204392730:=I
def tw12561206318530764602:=I
def tw6203054522680175418:=I
def tw1987614072916505466:=I
def tw7462820885111925754:=I
def tw525626052477425723:=I
def tw14418252626236164155:=I
def tw8363363837088525371:=I
def tw15373423159529181307:=I
def tw11575057041902871675:=I
def tw8516055364796799163:=I
def tw16618133297156208859:=I
def tw2495362980996060411:=I
def tw2510989034783005947:=I
def tw3293125402910391579:=I
def tw16263349045971160379:=I
def tw4054425856630776155:=I
def tw18157918944626690459:=I
def tw8959498490585273755:=I
def tw2728016642178744763:=I
def tw5635626611846515131:=I
def tw5534255058704712123:=I
def tw1677382746331509179:=I
def tw15875837775735485883:=I
def tw4712065167791291931:=I
def tw470585005172913755:=I
def tw10322716738598210171:=I
def tw3139683451849983643:=I
def tw13892689563266565851:=I
def tw9600786536653817691:=I
def tw7631551658163016539:=I
def tw10117511023664250779:=I
def tw16167521691311795099:=I
def tw9206775506995303355:=I
def tw6668217133902427067:=I
def tw14442319583810880475:=I
def tw13497692488649185243:=I
def tw12578025211638053851:=I
def tw8307360655626730491:=I
def tw16771277104713509916:=I
def tw5455881724017352796:=I
def tw2430006460073743484:=I
def tw13247894793492548732:=I
def tw17654697046608947356:=I
def tw9433338924076898524:=I
def tw18196420783901877532:=I
def tw15383769395557297436:=I
def tw11758001172965199164:=I
def tw5426557174609201500:=I
def tw5904624219120187804:=I
def tw11239292894859147708:=I
def tw1292789404639237628:=I
def tw16504110063442481692:=I
def tw9063711189089938972:=I
def tw15295452980524629628:=I
def tw17322232275160444604:=I
def tw6313980603697711804:=I
def tw2879658117572356860:=I
def tw17101472634523073308:=I
def tw8535092706068435772:=I
def tw16883021429775955772:=I
def tw3471134716010127260:=I
def tw17894987741214547900:=I
def tw12832740249626650588:=I
def tw17502522859583824892:=I
def tw14200992678440858620:=I
def tw11031611285729443836:=I
def tw15491469765643615261:=I
def tw16793282844352442397:=I
def tw5018474417725578301:=I
def tw15589273907595675741:=I
def tw17440044902112181373:=I
def tw8784918055889174749:=I
def tw5845646953310798045:=I
def tw13408800478615305437:=I
def tw18248002227640280349:=I
def tw2417204897432751389:=I
def tw2736106559869282621:=I
def tw16221425684674911581:=I
def tw861817701738180957:=I
def tw15246659973053053309:=I
def tw8952772830520254941:=I
def tw14714040112664031741:=I
def tw4480431739145709053:=I
def tw4645847395810012733:=I
def tw8706635330995563165:=I
def tw9582061692421202621:=I
def tw399709519373177629:=I
def tw16476082731669815069:=I
def tw14549530014753362749:=I
def tw2079712796299008829:=I
def tw6104073315468141373:=I
def tw17395464886228591485:=I
def tw8142087376253479805:=I
def tw4298548824916952989:=I
def tw14473430321114516381:=I
def tw537668757883337629:=I
def tw16344507386670975933:=I
def tw8392575525934990366:=I
def tw11384935443607881790:=I
def tw10338147281570080830:=I
def tw1101258154646763614:=I
def tw517311172540292286:=I
def tw15577422199700499678:=I
def tw8803111911766189278:=I
def tw3261362341671770366:=I
def tw13116159537627507966:=I
def tw13801363978777485598:=I
def tw14234233345160262014:=I
def tw123829994692412862:=I
def tw17823667586761671102:=I
def tw2259438119856157150:=I
def tw15610734956515025406:=I
def tw14812067877983984190:=I
def tw12158614884763385406:=I
def tw11948270770865968734:=I
def tw7136908654869107294:=I
def tw7116266213404760702:=I
def tw16532337853701148318:=I
def tw2933177556132630206:=I
def tw3834281209523035902:=I
def tw5762674367055213374:=I
def tw3324751087816321886:=I
def tw6844248052203479902:=I
def tw17303072933272903582:=I
def tw10351802776436693982:=I
def tw13952233490487077886:=I
def tw561009760021808191:=I
def tw17755032018663386207:=I
def tw14626414282354045055:=I
def tw3077349928630056063:=I
def tw10067526929334156447:=I
def tw11245762589796543679:=I
def tw17811691428583404735:=I
def tw5980989404724745439:=I
def tw8312265046900689183:=I
def tw7436486464133962047:=I
def tw9235202191602436415:=I
def tw8245553599062980959:=I
def tw1102474943258102143:=I
def tw10706923782326766975:=I
def tw3052381202704807327:=I
def tw11450219236129685919:=I
def tw1251676072980139455:=I
def tw18381474736804976095:=I
def tw12866723007804743167:=I
def tw7308865379186568767:=I
def tw1205652571631989439:=I
def tw7653548223557652191:=I
def tw17303998462205843231:=I
def tw5902104494950104895:=I
def tw6023971051678552927:=I
def tw12758466812838115167:=I
def tw11919467109241723775:=I
def tw6193343170880182239:=I
def tw12461503925554289663:=I
end PySem.W.Fast
open PySem PySem.W PyProof.Rows
set_option maxRecDepth 100000 in
set_option maxHeartbeats 0 in
theorem PySem.Challenge.cw_stripmeld_k33_offer_holds : PySem.Challenge.rw_stripmeld_k33_offer.Holds := by
 w_on;o_law;k_head;(case hw=>w_witness2)
 k_fill
 refine L2.Znr (l:=PySem.Challenge.rw_stripmeld_k33_offer) (n:=63) (k:=10) (x:="_law_script") (CX:=L2.CX0) (sp:=Pu.Eb) rfl (by decide) rfl ⟨rfl,by decide,by decide,rfl⟩ (fun w h Y=>PySem.W.kIn_of Y) ?F ?S ?C
 case F=>
  intro w mg fa h KX G hmg
  refine' T.Zdf KX G hmg ?Ui ?Uw ?Ux ?Uy ?U0 ?U1 ?U2 ?U3 ?U4 ?U5 ?a1 ?a2 ?a3 ?a4 ?a5 ?a6 ?a7 ?a8 ?a9 ?a10 ?a11 ?a12 ?a13 ?a14 ?a15 ?a16 ?a17 ?a18 ?a19 ?a20 ?a21 ?a22 ?a23 ?a24 ?a25 ?a26 ?a27 ?a28 ?a29 ?a30 ?a31 ?a32 ?a33 ?a34 ?a35 ?a36 ?a37 ?a38 ?a39 ?a40 ?a41 ?a42 ?a43 ?a44 ?a45 ?a46 ?a47 ?a48 ?a49 ?a50 ?a51 ?a52 ?a53 ?a54 ?a55 ?a56 ?a57 ?a58 ?a59 ?a60 ?a61 ?a62 ?a63 ?a64 ?a65 ?a66 ?a67 ?a68 ?a69 ?a70 ?a71 ?a72 ?a73 ?a74 ?l74 ?c74 ?k74 ?U6 ?U7 ?U8 ?U9 ?UA ?UB ?UC ?UD ?UE ?UF ?UG ?UH ?UI ?UJ ?UK ?UL ?UM ?UN ?UO ?UP ?Ud ?Uj ?Ue ?Uk ?Ug ?Uh ?Ul ?Um ?Uo ?Up ?Uq ?Ur ?Us ?Ut ?Uu ?Uc ?x_Ringed ?x_all ?k_BadHolder_ValueError ?k_BadHolder_NoStrip ?k_BadHolder_BadHolder ?k_BadHolder_OwnStrip ?k_NoStrip_ValueError ?k_NoStrip_NoStrip ?k_NoStrip_BadHolder ?k_NoStrip_OwnStrip ?k_OwnStrip_ValueError ?k_OwnStrip_NoStrip ?k_OwnStrip_BadHolder ?k_OwnStrip_OwnStrip ?k_Ringed_MeldError
  (case Ui|Uw|Ux|Uy|U0|U1|U2|U3|U4|U5=>k_is)
  (case a1|a2|a3|a4|a5|a6|a7|a8|a9|a10|a11|a12|a13|a14|a15|a16|a17|a18|a19|a20|a21|a22|a23|a24=>apply Pu.di<;>k_is)
  (case a25|a26|a27|a28|a29|a30|a31|a32|a33|a34|a35|a36|a37|a38=>apply Pu.mi<;>k_is)
  (case a39|a40|a41|a42|a43|a44|a45|a46|a47|a48|a49|a50|a51|a52|a53|a54|a55|a56|a57|a58|a59|a60|a61|a62|a63|a64|a65|a66|a67|a68|a69|a70|a71|a72|a73=>apply Pu.di<;>k_is)
  (case a74|l74|c74|k74|U6|U7|U8|U9|UA|UB|UC|UD|UE|UF|UG|UH|UI|UJ|UK|UL|UM|UN|UO|UP=>k_is)
  (case Ud|Uj|Ue|Uk|Ug|Uh|Ul|Um|Uo|Up|Uq|Ur|Us|Ut|Uu=>apply Pu.ei<;>first|(k_is;done)|k_exc)
  (case Uc=>apply Pu.ri<;>first|(k_is;done)|k_exc|rfl)
  (case x_Ringed=>kts_exm)
  (case x_all=>kernel_rfl)
  (case k_BadHolder_ValueError|k_BadHolder_NoStrip|k_BadHolder_BadHolder|k_BadHolder_OwnStrip|k_NoStrip_ValueError|k_NoStrip_NoStrip|k_NoStrip_BadHolder|k_NoStrip_OwnStrip|k_OwnStrip_ValueError|k_OwnStrip_NoStrip|k_OwnStrip_BadHolder|k_OwnStrip_OwnStrip|k_Ringed_MeldError=>kit_is)
 case S=>exact fun K H a ns hl hO hS=>⟨a,ns,rfl,hS,fun _=>rfl⟩
 case C=>exact fun _ _ _ _ z=>z
